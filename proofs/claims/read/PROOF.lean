import PyProof.Rows.All
import Wide.All
import OpenK.AllK
import Wide.FinOn
import PyProof.EqAt
import PyProof.EqKinds
import PyProof.TupleCall
import Open.SpecLaws
import KE.OsHead
import KE.OsGo
import KE.BitLaws
import KE.KTryMore
import KE.RegKTryMore
import KE.KEqDeep
import PySem.Challenge.RW_losslook_s02_read
set_option Elab.async false
set_option linter.all false
set_option maxRecDepth 100000
set_option maxHeartbeats 4000000
section
namespace Lk
open Sn15
theorem zJ {α β : Type} (m : D α) (f : α -> D β) (bs : List Bool) : (m >>= f) bs = (m bs).bind fun x => f x.1 x.2 := by
  show (StateT.bind m f) bs = _
  unfold StateT.bind
  show (m bs >>= fun x => _) = _
  cases m bs <;> rfl
theorem zml {α : Type} (a : α) (bs : List Bool) : (pure a : D α) bs = some (a, bs) := rfl
theorem zjp (b : Bool) (bs : List Bool) : need b bs = if b = true then some ((), bs) else none := by
  unfold need; split <;> rfl
theorem zK {α β γ : Type} (m : D α) (f : α -> D β) (g : β -> D γ) : ((m >>= f) >>= g) = (m >>= fun a => f a >>= g) := by
  funext bs
  simp only [zJ]
  cases m bs <;> rfl
theorem zq {α β : Type} (a : α) (f : α -> D β) : ((pure a : D α) >>= f) = f a := by
  funext bs; rw [zJ]; rfl
theorem zcf {α : Type} (m : D α) : (m >>= fun a => (pure a : D α)) = m := by
  funext bs; rw [zJ]; cases m bs <;> rfl
theorem zdU {α β : Type} (f : α -> D β) : ((bad : D α) >>= f) = bad := by
  funext bs; rw [zJ]; rfl
theorem yl {β : Type} (f : Unit -> D β) : (need true >>= f) = f () := by
  funext bs; rw [zJ]; rfl
theorem yN {β : Type} (f : Unit -> D β) : (need false >>= f) = bad := by
  funext bs; rw [zJ]; rfl
theorem vZ {α β : Type} (m : D α) : (m >>= fun _ => (bad : D β)) = bad := by
  funext bs; rw [zJ]; cases m bs <;> rfl
theorem zgk {α : Type} {m m' : D α} (h : ∀ bs, m bs = m' bs) : m = m' := funext h
def b2n (x : Bool) : Nat := if x = true then 1 else 0
theorem zjb (x : Bool) : b2n x < 2 := by cases x <;> decide
theorem zit (n : Nat) : bits (n + 1) [] = none := rfl
theorem zbf (n : Nat) (x : Bool) (r : List Bool) : bits (n + 1) (x :: r) = (bits n r).map fun y => (b2n x + 2 * y.1, y.2) := by
  show ((bits n) >>= fun v => (pure ((if x = true then 1 else 0) + 2 * v) : D Nat)) r = _
  rw [zJ]
  cases bits n r <;> rfl
def val : List Bool -> Nat
  | [] => 0
  | x :: r => b2n x + 2 * val r
theorem ki : ∀ (n : Nat) (bs : List Bool), bits n bs = if n <= bs.length then some (val (bs.take n), bs.drop n) else none
  | 0, bs => by simp [val]; rfl
  | n + 1, [] => by rw [zit]; simp
  | n + 1, x :: r => by
    rw [zbf, ki n r]
    by_cases h : n <= r.length
    . rw [if_pos h, if_pos (by simpa using h)]; rfl
    . rw [if_neg h, if_neg (by simpa using h)]; rfl
theorem zdn : ∀ (l : List Bool) (x : Bool), val (l ++ [x]) = val l + b2n x * 2 ^ l.length
  | [], x => by simp [val]
  | y :: r, x => by
    have e := zdn r x
    simp only [List.cons_append, val, e, List.length_cons, Nat.pow_succ]
    rw [Nat.mul_add, <- Nat.add_assoc, Nat.mul_comm (2 ^ r.length) 2, <- Nat.mul_assoc, <- Nat.mul_assoc, Nat.mul_comm (b2n x) 2]
theorem zfk : ∀ (l : List Bool), val l < 2 ^ l.length
  | [] => by simp [val]
  | x :: r => by
    have := zfk r
    have := zjb x
    simp only [val, List.length_cons, Nat.pow_succ]
    omega
theorem yk {n : Nat} {bs bs' : List Bool} {v : Nat} (h : bits n bs = some (v, bs')) : v < 2 ^ n := by
  rw [ki] at h
  by_cases hn : n <= bs.length
  . rw [if_pos hn] at h
    cases h
    have := zfk (bs.take n)
    rwa [List.length_take, Nat.min_eq_left hn] at this
  . rw [if_neg hn] at h; cases h
theorem zng : bits 0 = (pure 0 : D Nat) := rfl
theorem zjR : bits 1 [] = none := rfl
theorem zc1 (x : Bool) (r : List Bool) : bits 1 (x :: r) = some (b2n x, r) := by
  rw [zbf]; simp [zng, zml]
theorem qz : ∀ (b : List Nat), (bitsOf b).length = 8 * b.length
  | [] => rfl
  | c :: r => by
    have e := qz r
    unfold bitsOf at e ⊢
    rw [List.flatMap_cons, List.length_append, e]
    simp; omega
theorem wt : ∀ (b : List Nat) (i : Nat), (bitsOf b)[i]? = (b[i / 8]?).map fun c => c.testBit (i % 8)
  | [], i => by simp [bitsOf]
  | c :: r, i => by
    have e := wt r (i - 8)
    unfold bitsOf at e ⊢
    rw [List.flatMap_cons]
    by_cases h : i < 8
    . rw [List.getElem?_append_left (by simpa using h)]
      have : i / 8 = 0 := by omega
      rw [this, Nat.mod_eq_of_lt h]
      simp [h]
    . rw [List.getElem?_append_right (by simpa using h)]
      have h1 : i / 8 = (i - 8) / 8 + 1 := by omega
      have h2 : (i - 8) % 8 = i % 8 := by omega
      simp only [List.length_map, List.length_range]
      rw [e, h1, h2]
      simp
theorem zgR {b : List Nat} {i : Nat} (h : i < 8 * b.length) : ∃ c, b[i / 8]? = some c /\ (bitsOf b).drop i = c.testBit (i % 8) :: (bitsOf b).drop (i + 1) := by
  have hi : i / 8 < b.length := by omega
  refine ⟨b[i / 8], List.getElem?_eq_getElem hi, ?_⟩
  have hl : i < (bitsOf b).length := by rw [qz]; exact h
  rw [List.drop_eq_getElem_cons hl]
  have e := wt b i
  rw [List.getElem?_eq_getElem hl, List.getElem?_eq_getElem hi] at e
  simp only [Option.map_some, Option.some.injEq] at e
  rw [e]
theorem zh6 (c i : Nat) : b2n (c.testBit i) = c / 2 ^ i % 2 := by
  unfold b2n
  have := Nat.testBit_eq_decide_div_mod_eq (x := c) (i := i)
  rw [this]
  have h2 : c / 2 ^ i % 2 < 2 := Nat.mod_lt _ (by decide)
  by_cases h : c / 2 ^ i % 2 = 1
  . simp [h]
  . have h0 : c / 2 ^ i % 2 = 0 := by omega
    simp [h0]
end Lk
end
section
namespace Lk
open Sn15
def zaB : List (List Nat) -> Nat -> D Nat
  | [], _ => bad
  | w :: ws, r => match w[r]? with
    | some s => pure s
    | none => do
      let b <- bits 1
      zaB ws (2 * (r - w.length) + b)
def zcA : Nat -> List (List Nat) -> Prop
  | c, [] => c = 0
  | c, w :: ws => w.length <= c /\ zcA (2 * (c - w.length)) ws
def zR (c : Code) (n : Nat) : List Nat := (List.range c.length).filter fun s => c.getD s 0 == n
def zQ (c : Code) : Nat -> Nat -> List (List Nat)
  | _, 0 => []
  | n, k + 1 => zR c n :: zQ c (n + 1) k
def yi (c : Code) : Nat -> Nat
  | 0 => 0
  | n + 1 => yi c n + (zR c (n + 1)).length * 2 ^ (14 - n)
def zlJ (c : Code) (n s : Nat) : Nat := (c.zipIdx.map fun x => if x.1 ≠ 0 /\ (x.1 < n \/ (x.1 = n /\ x.2 < s)) then 2 ^ (15 - x.1) else 0).sum
theorem zfw (c : Code) (s : Nat) : word c s = zlJ c (c.getD s 0) s / 2 ^ (15 - c.getD s 0) := rfl
theorem jT : ∀ (c : List Nat) (k : Nat), c.zipIdx k = (List.range c.length).map fun i => (c.getD i 0, i + k)
  | [], _ => rfl
  | x :: r, k => by
    rw [List.zipIdx_cons, jT r (k + 1), List.length_cons, List.range_succ_eq_map, List.map_cons, List.map_map]
    simp only [List.getD_cons_zero, Nat.zero_add, List.cons.injEq, true_and]
    apply List.map_congr_left
    intro i _
    simp only [Function.comp, List.getD_cons_succ]
    congr 1
    omega
theorem jm {l : List Nat} {f g : Nat -> Nat} (h : ∀ i ∈ l, f i = g i) : (l.map f).sum = (l.map g).sum := by
  rw [List.map_congr_left h]
theorem wR (f g : Nat -> Nat) : ∀ (l : List Nat), (l.map fun i => f i + g i).sum = (l.map f).sum + (l.map g).sum
  | [] => rfl
  | x :: r => by simp only [List.map_cons, List.sum_cons, wR f g r]; omega
theorem wA (p : Nat -> Bool) (v : Nat) : ∀ (l : List Nat), (l.map fun i => if p i = true then v else 0).sum = (l.filter p).length * v
  | [] => by simp
  | x :: r => by
    simp only [List.map_cons, List.sum_cons, wA p v r, List.filter_cons]
    by_cases h : p x = true
    . simp [h, Nat.add_mul]; omega
    . simp [h]
theorem xB (c : Code) (n s : Nat) : zlJ c n s = ((List.range c.length).map fun i => if c.getD i 0 ≠ 0 /\ (c.getD i 0 < n \/ (c.getD i 0 = n /\ i < s)) then 2 ^ (15 - c.getD i 0) else 0).sum := by
  unfold zlJ
  rw [jT, List.map_map]
  rfl
def zlU (c : Code) (n s : Nat) : Nat := ((List.range c.length).filter fun i => c.getD i 0 == n && decide (i < s)).length
theorem zfc (c : Code) (n : Nat) : zlJ c (n + 1) 0 = yi c n := by
  induction n with
  | zero =>
    rw [xB]
    show _ = 0
    have : (List.map (fun i => if c.getD i 0 ≠ 0 /\ (c.getD i 0 < 0 + 1 \/ c.getD i 0 = 0 + 1 /\ i < 0) then 2 ^ (15 - c.getD i 0) else 0) (List.range c.length)) = List.map (fun _ => 0) (List.range c.length) := by
      apply List.map_congr_left
      intro i _
      rw [if_neg]
      omega
    rw [this]
    generalize List.range c.length = l
    induction l with
    | nil => rfl
    | cons _ r ih => simp only [List.map_cons, List.sum_cons, ih]
  | succ n ih =>
    rw [yi, <- ih, xB, xB]
    unfold zR
    rw [<- wA (fun i => c.getD i 0 == n + 1) (2 ^ (14 - n)), <- wR]
    apply jm
    intro i _
    by_cases h : c.getD i 0 = n + 1
    . rw [if_pos (show c.getD i 0 ≠ 0 /\ _ by omega), if_neg (show ¬(c.getD i 0 ≠ 0 /\ (c.getD i 0 < n + 1 \/ c.getD i 0 = n + 1 /\ i < 0)) by omega), if_pos (by simpa using h), h]
      simp
    . rw [if_neg (show ¬ ((c.getD i 0 == n + 1) = true) by simpa using h)]
      by_cases h2 : c.getD i 0 ≠ 0 /\ c.getD i 0 < n + 1
      . rw [if_pos (by omega), if_pos (by omega)]
        rfl
      . rw [if_neg (by omega), if_neg (by omega)]
theorem zhe (c : Code) (n s : Nat) (hn : 0 < n) : zlJ c n s = zlJ c n 0 + zlU c n s * 2 ^ (15 - n) := by
  unfold zlU
  rw [xB, xB, <- wA (fun i => c.getD i 0 == n && decide (i < s)) (2 ^ (15 - n)), <- wR]
  apply jm
  intro i _
  by_cases h : c.getD i 0 = n /\ i < s
  . rw [if_pos (by omega), if_neg (by omega), if_pos (by rw [Bool.and_eq_true]; exact ⟨beq_iff_eq.mpr h.1, decide_eq_true h.2⟩), h.1]
    simp
  . rw [if_neg (show ¬ ((c.getD i 0 == n && decide (i < s)) = true) by rw [Bool.and_eq_true, beq_iff_eq, decide_eq_true_iff]; exact h)]
    by_cases h2 : c.getD i 0 ≠ 0 /\ c.getD i 0 < n
    . rw [if_pos (by omega), if_pos (by omega)]
      rfl
    . rw [if_neg (by omega), if_neg (by omega)]
theorem zbt (c : Code) : ∀ (n : Nat), n <= 14 -> 2 ^ (14 - n) ∣ yi c n
  | 0, _ => ⟨0, rfl⟩
  | n + 1, h => by
    obtain ⟨k, hk⟩ := zbt c n (by omega)
    have e : 2 ^ (14 - n) = 2 ^ (14 - (n + 1)) * 2 := by
      rw [<- Nat.pow_succ]; congr 1; omega
    refine ⟨2 * k + (zR c (n + 1)).length * 2, ?_⟩
    rw [yi, hk, e]
    rw [Nat.mul_add, Nat.mul_assoc, Nat.mul_left_comm (zR c (n + 1)).length, <- Nat.mul_assoc]
theorem zlu (c : Code) (n s : Nat) (h : c.getD s 0 = n + 1) (hn : n <= 14) : word c s = yi c n / 2 ^ (14 - n) + zlU c (n + 1) s := by
  rw [zfw, h, zhe c (n + 1) s (by omega), zfc]
  have e : 15 - (n + 1) = 14 - n := by omega
  rw [e, Nat.add_mul_div_right _ _ (Nat.pow_pos (by decide))]
theorem zbe (p : Nat -> Bool) (g : Nat -> Nat) (hg : ∀ s, g s = ((List.range s).filter p).length) (r : Nat) : ∀ (N : Nat), (List.range N).find? (fun s => p s && g s == r) = ((List.range N).filter p)[r]?
  | 0 => by simp
  | N + 1 => by
    rw [List.range_succ, List.find?_append, zbe p g hg r N, List.filter_append]
    by_cases hr : r < ((List.range N).filter p).length
    . rw [List.getElem?_append_left hr, List.getElem?_eq_getElem hr]
      rfl
    . rw [List.getElem?_append_right (by omega), List.getElem?_eq_none (by omega)]
      rw [Option.none_or]
      by_cases hp : p N = true
      . by_cases e : g N = r
        . have : r - ((List.range N).filter p).length = 0 := by rw [hg] at e; omega
          rw [this]
          simp [hp, e]
        . have : r - ((List.range N).filter p).length ≠ 0 := by rw [hg] at e; omega
          obtain ⟨k, hk⟩ := Nat.exists_eq_succ_of_ne_zero this
          rw [hk]
          simp [hp, e]
      . simp [hp]
theorem zec {c : Code} {n s : Nat} (hs : s <= c.length) : zlU c n s = ((List.range s).filter fun i => c.getD i 0 == n).length := by
  unfold zlU
  obtain ⟨k, hk⟩ : ∃ k, c.length = s + k := ⟨c.length - s, by omega⟩
  rw [hk, List.range_add, List.filter_append, List.length_append]
  have e1 : List.filter (fun i => c.getD i 0 == n && decide (i < s)) (List.range s) = List.filter (fun i => c.getD i 0 == n) (List.range s) := by
    apply List.filter_congr
    intro i hi
    simp [List.mem_range.mp hi]
  have e2 : List.filter (fun i => c.getD i 0 == n && decide (i < s)) (List.map (fun x => s + x) (List.range k)) = [] := by
    rw [List.filter_eq_nil_iff]
    intro i hi
    obtain ⟨j, _, rfl⟩ := List.mem_map.mp hi
    simp
  rw [e1, e2]
  rfl
theorem zfE (c : Code) (n w : Nat) (hn : n <= 14) (hw : yi c n / 2 ^ (14 - n) <= w) : ((List.range c.length).find? fun s => c.getD s 0 == n + 1 && word c s == w) = (zR c (n + 1))[w - yi c n / 2 ^ (14 - n)]? := by
  unfold zR
  rw [<- zbe (fun s => c.getD s 0 == n + 1) (fun s => ((List.range s).filter fun i => c.getD i 0 == n + 1).length) (fun _ => rfl)]
  have key : ∀ (l : List Nat), (∀ s ∈ l, s < c.length) -> (l.find? fun s => c.getD s 0 == n + 1 && word c s == w) = (l.find? fun s => c.getD s 0 == n + 1 && ((List.range s).filter fun i => c.getD i 0 == n + 1).length == w - yi c n / 2 ^ (14 - n)) := by
    intro l
    induction l with
    | nil => intro _; rfl
    | cons s r ih =>
      intro h
      rw [List.find?_cons, List.find?_cons, ih fun i hi => h i (List.mem_cons_of_mem _ hi)]
      have : (c.getD s 0 == n + 1 && word c s == w) = (c.getD s 0 == n + 1 && ((List.range s).filter fun i => c.getD i 0 == n + 1).length == w - yi c n / 2 ^ (14 - n)) := by
        by_cases hc : c.getD s 0 = n + 1
        . have hs := h s List.mem_cons_self
          rw [zlu c n s hc hn, zec (Nat.le_of_lt hs)]
          simp only [hc, beq_self_eq_true, Bool.true_and]
          rw [Bool.eq_iff_iff]
          simp only [beq_iff_eq]
          omega
        . have : (c.getD s 0 == n + 1) = false := by simpa using hc
          rw [this]; rfl
      rw [this]
  exact key _ fun s hs => List.mem_range.mp hs
theorem qB {bs bs' : List Bool} {v : Nat} (h : bits 1 bs = some (v, bs')) : v < 2 := yk h
theorem xM (c : Code) : ∀ (k n rd : Nat), n + k = 15 -> yi c n <= 2 * rd * 2 ^ (14 - n) \/ n = 15 -> symbolFrom c k rd n = (bits 1 >>= fun b => zaB (zQ c (n + 1) k) (2 * rd + b - yi c n / 2 ^ (14 - n)))
  | 0, n, rd, hk, _ => by
    show bad = _
    funext bs
    rw [zJ]
    cases bits 1 bs <;> rfl
  | k + 1, n, rd, hk, ht => by
    have hn : n <= 14 := by omega
    have ht : yi c n <= 2 * rd * 2 ^ (14 - n) := by
      rcases ht with h | h
      . exact h
      . omega
    have hdiv : yi c n / 2 ^ (14 - n) <= 2 * rd := by
      calc yi c n / 2 ^ (14 - n) <= 2 * rd * 2 ^ (14 - n) / 2 ^ (14 - n) := Nat.div_le_div_right ht
        _ = 2 * rd := Nat.mul_div_cancel _ (Nat.pow_pos (by decide))
    funext bs
    show (bits 1 >>= fun b => _) bs = _
    rw [zJ, zJ]
    cases hb : bits 1 bs with
    | none => rfl
    | some x =>
      obtain ⟨b, bs'⟩ := x
      simp only [Option.bind_some]
      rw [zfE c n (2 * rd + b) hn (by omega)]
      show _ = zaB (zR c (n + 1) :: zQ c (n + 1 + 1) k) (2 * rd + b - yi c n / 2 ^ (14 - n)) bs'
      unfold zaB
      cases hs : (zR c (n + 1))[2 * rd + b - yi c n / 2 ^ (14 - n)]? with
      | some s => rfl
      | none =>
        simp only []
        have hlen : (zR c (n + 1)).length <= 2 * rd + b - yi c n / 2 ^ (14 - n) := List.getElem?_eq_none_iff.mp hs
        obtain ⟨q, hq⟩ := zbt c n hn
        have hpos : 0 < 2 ^ (14 - n) := Nat.pow_pos (by decide)
        have hq' : yi c n / 2 ^ (14 - n) = q := by rw [hq, Nat.mul_comm, Nat.mul_div_cancel _ hpos]
        rw [hq'] at hlen ⊢
        have hnext : yi c (n + 1) <= (2 * rd + b) * 2 ^ (14 - n) := by
          rw [yi, hq, Nat.mul_comm (2 ^ (14 - n)) q, <- Nat.add_mul]
          exact Nat.mul_le_mul_right _ (by omega)
        by_cases hn14 : n = 14
        . have hk0 : k = 0 := by omega
          subst hk0
          rw [xM c 0 (n + 1) (2 * rd + b) (by omega) (.inr (by omega))]
          rw [zJ, zJ]
          cases bits 1 bs' <;> rfl
        . have e1 : 2 ^ (14 - n) = 2 * 2 ^ (14 - (n + 1)) := by
            rw [<- Nat.pow_succ']; congr 1; omega
          rw [xM c k (n + 1) (2 * rd + b) (by omega) (.inl (by rw [e1] at hnext; rw [Nat.mul_assoc] ; rw [Nat.mul_left_comm]; exact hnext))]
          have e2 : yi c (n + 1) / 2 ^ (14 - (n + 1)) = 2 * (q + (zR c (n + 1)).length) := by
            rw [yi, hq, Nat.mul_comm (2 ^ (14 - n)) q, <- Nat.add_mul, e1, <- Nat.mul_assoc, Nat.mul_div_cancel _ (Nat.pow_pos (by decide)), Nat.mul_comm]
          rw [e2]
          rw [zJ, zJ]
          cases bits 1 bs' with
          | none => rfl
          | some y =>
            simp only [Option.bind_some]
            congr 1
            omega
theorem qh (c : Code) (h : ∀ s, ((List.range c.length).filter fun s => c.getD s 0 != 0) ≠ [s]) : symbol c = (bits 1 >>= zaB (zQ c 1 15)) := by
  unfold symbol
  split
  . rename_i s hs
    exact absurd hs (h s)
  . rw [xM c 15 0 0 rfl (.inl (Nat.le_refl _))]
    simp only [yi, Nat.mul_zero, Nat.zero_add, Nat.zero_div, Nat.sub_zero]
theorem xj {c : Code} {s : Nat} (h : ((List.range c.length).filter fun s => c.getD s 0 != 0) = [s]) : symbol c = pure s := by
  unfold symbol
  rw [h]
theorem zc7 : ∀ {ws : List (List Nat)} {r s : Nat} {bs bs' : List Bool}, zaB ws r bs = some (s, bs') -> ∃ w ∈ ws, s ∈ w
  | [], _, _, _, _, h => by cases h
  | w :: ws, r, s, bs, bs', h => by
    unfold zaB at h
    cases hw : w[r]? with
    | some x =>
      rw [hw] at h
      cases h
      exact ⟨w, List.mem_cons_self, List.mem_of_getElem? hw⟩
    | none =>
      rw [hw] at h
      simp only [] at h
      rw [zJ] at h
      cases hb : bits 1 bs with
      | none => rw [hb] at h; cases h
      | some y =>
        rw [hb] at h
        obtain ⟨w', h1, h2⟩ := zc7 h
        exact ⟨w', List.mem_cons_of_mem _ h1, h2⟩
theorem zfI {c : Code} {n s : Nat} (h : s ∈ zR c n) : s < c.length := List.mem_range.mp (List.mem_filter.mp h).1
theorem jf {c : Code} : ∀ {k n : Nat} {w : List Nat}, w ∈ zQ c n k -> ∃ m, w = zR c m
  | 0, _, _, h => by cases h
  | k + 1, n, w, h => by
    rcases List.mem_cons.mp h with e | h
    . exact ⟨n, e⟩
    . exact jf h
theorem xD {c : Code} {s : Nat} {bs bs' : List Bool} (h : symbol c bs = some (s, bs')) : s < c.length := by
  by_cases hs : ∃ s, ((List.range c.length).filter fun s => c.getD s 0 != 0) = [s]
  . obtain ⟨x, hx⟩ := hs
    rw [xj hx] at h
    cases h
    exact List.mem_range.mp (List.mem_filter.mp (by rw [hx]; exact List.mem_cons_self : s ∈ _)).1
  . rw [qh c fun s e => hs ⟨s, e⟩, zJ] at h
    cases hb : bits 1 bs with
    | none => rw [hb] at h; cases h
    | some y =>
      rw [hb] at h
      obtain ⟨w, h1, h2⟩ := zc7 h
      obtain ⟨m, rfl⟩ := jf h1
      exact zfI h2
end Lk
end
section
namespace Lk
open Sn15
theorem vY (c : Code) {m : Nat} : ∀ {n : Nat}, m <= n -> yi c m <= yi c n
  | 0, h => by have : m = 0 := by omega
               subst this; exact Nat.le_refl _
  | n + 1, h => by
    by_cases e : m = n + 1
    . subst e; exact Nat.le_refl _
    . exact Nat.le_trans (vY c (n := n) (by omega)) (Nat.le_add_right _ _)
theorem zeG (c : Code) : ∀ (k n q : Nat), n + k = 16 -> 1 <= n -> (n <= 15 -> yi c (n - 1) + q * 2 ^ (15 - n) = yi c 15) -> (n = 16 -> q = 0) -> zcA q (zQ c n k)
  | 0, n, q, h, _, _, h2 => h2 (by omega)
  | k + 1, n, q, h, h1, hq, _ => by
    have hq := hq (by omega)
    obtain ⟨m, rfl⟩ : ∃ m, n = m + 1 := ⟨n - 1, by omega⟩
    have e0 : m + 1 - 1 = m := rfl
    have e1 : 15 - (m + 1) = 14 - m := by omega
    rw [e0, e1] at hq
    have hm := vY c (m := m + 1) (n := 15) (by omega)
    rw [yi] at hm
    have hpos : 0 < 2 ^ (14 - m) := Nat.pow_pos (by decide)
    have hle : (zR c (m + 1)).length <= q := Nat.le_of_mul_le_mul_right (by omega) hpos
    refine ⟨hle, zeG c k (m + 1 + 1) _ (by omega) (by omega) (fun h15 => ?_) (fun h16 => ?_)⟩
    . have e2 : m + 1 + 1 - 1 = m + 1 := rfl
      have e3 : 2 * 2 ^ (15 - (m + 1 + 1)) = 2 ^ (14 - m) := by rw [<- Nat.pow_succ']; congr 1; omega
      rw [e2, yi, Nat.mul_comm 2, Nat.mul_assoc, e3, Nat.add_assoc, <- Nat.add_mul, Nat.add_sub_cancel' hle]
      exact hq
    . have hm14 : m = 14 := by omega
      subst hm14
      have : q = (zR c (14 + 1)).length := by
        have h15 : yi c 15 = yi c 14 + (zR c (14 + 1)).length * 2 ^ (14 - 14) := rfl
        rw [h15] at hq
        simp at hq
        omega
      omega
theorem zeZ {c : Code} (h : yi c 15 = 2 ^ 15) : zcA 2 (zQ c 1 15) :=
  zeG c 15 1 2 rfl (Nat.le_refl _) (fun _ => by rw [h]; show 0 + 2 * 2 ^ 14 = 2 ^ 15; decide) (fun h => absurd h (by decide))
theorem kD (c : List Nat) : (List.range c.length).map (fun i => c.getD i 0) = c := by
  apply List.ext_getElem
  . simp
  . intro i h1 h2
    rw [List.getElem_map, List.getElem_range, List.getD_eq_getElem?_getD, List.getElem?_eq_getElem h2]
    rfl
theorem zgu (c : List Nat) (f : Nat -> Nat) : (c.map f).sum = ((List.range c.length).map fun i => f (c.getD i 0)).sum := by
  have e : c.map f = (List.range c.length).map fun i => f (c.getD i 0) := by
    conv => lhs; rw [<- kD c]
    rw [List.map_map]; rfl
  rw [e]
theorem jK (c : Code) : ∀ (n : Nat), n <= 15 -> ((List.range c.length).map fun i => if c.getD i 0 ≠ 0 /\ c.getD i 0 <= n then 2 ^ (15 - c.getD i 0) else 0).sum = yi c n
  | 0, _ => by
    have : (List.map (fun i => if c.getD i 0 ≠ 0 /\ c.getD i 0 <= 0 then 2 ^ (15 - c.getD i 0) else 0) (List.range c.length)) = List.map (fun _ => 0) (List.range c.length) := by
      apply List.map_congr_left
      intro i _
      rw [if_neg]
      omega
    rw [this]
    show _ = 0
    generalize List.range c.length = l
    induction l with
    | nil => rfl
    | cons _ r ih => simp only [List.map_cons, List.sum_cons, ih]
  | n + 1, h => by
    rw [yi, <- jK c n (by omega)]
    unfold zR
    rw [<- wA (fun i => c.getD i 0 == n + 1) (2 ^ (14 - n)), <- wR]
    apply jm
    intro i _
    by_cases h : c.getD i 0 = n + 1
    . rw [if_pos (by omega), if_neg (by omega), if_pos (by simpa using h), h]
      simp
    . rw [if_neg (show ¬ ((c.getD i 0 == n + 1) = true) by simpa using h)]
      by_cases h2 : c.getD i 0 ≠ 0 /\ c.getD i 0 <= n
      . rw [if_pos (by omega), if_pos (by omega)]
        rfl
      . rw [if_neg (by omega), if_neg (by omega)]
theorem zg3 {c : Code} (h15 : ∀ n ∈ c, n <= 15) : (c.map fun n => if n = 0 then 0 else 2 ^ (15 - n)).sum = yi c 15 := by
  rw [<- jK c 15 (Nat.le_refl _), zgu]
  apply jm
  intro i hi
  have hl : c.getD i 0 <= 15 := by
    have := List.mem_range.mp hi
    rw [List.getD_eq_getElem?_getD, List.getElem?_eq_getElem this]
    exact h15 _ (List.getElem_mem _)
  by_cases h0 : c.getD i 0 = 0
  . rw [if_pos h0, if_neg (by omega)]
  . rw [if_neg h0, if_pos ⟨h0, hl⟩]
theorem zdL (c : List Nat) : (c.filter fun n => n != 0).length = ((List.range c.length).filter fun s => c.getD s 0 != 0).length := by
  conv => lhs; rw [<- kD c]
  rw [List.filter_map, List.length_map]
  rfl
theorem jA (c : Code) : ((List.range c.length).filter fun s => c.getD s 0 != 0).length + (zR c 0).length = c.length := by
  unfold zR
  have h : ∀ (l : List Nat), (l.filter fun s => c.getD s 0 != 0).length + (l.filter fun s => c.getD s 0 == 0).length = l.length := by
    intro l
    induction l with
    | nil => rfl
    | cons x r ih =>
      rw [List.filter_cons, List.filter_cons]
      by_cases h0 : c.getD x 0 = 0
      . simp only [h0, bne_self_eq_false, Bool.false_eq_true, if_false, beq_self_eq_true, if_true, List.length_cons]; omega
      . have h1 : (c.getD x 0 != 0) = true := by simpa using h0
        have h2 : (c.getD x 0 == 0) = false := by simpa using h0
        simp only [h1, h2, if_true, Bool.false_eq_true, if_false, List.length_cons]; omega
  have := h (List.range c.length)
  rwa [List.length_range] at this
theorem wS {c : Code} (h15 : ∀ n ∈ c, n <= 15) : good c = true ↔ (c.length - (zR c 0).length = 1 \/ yi c 15 = 2 ^ 15) := by
  unfold good
  rw [Bool.or_eq_true, beq_iff_eq, beq_iff_eq, zg3 h15, zdL]
  have := jA c
  constructor
  . rintro (h | h)
    . exact .inl (by omega)
    . exact .inr h
  . rintro (h | h)
    . exact .inl (by omega)
    . exact .inr h
theorem zey {l : List Nat} (h : l.length = 1) : ∃ s, l = [s] := by
  match l, h with
  | [s], _ => exact ⟨s, rfl⟩
theorem zlD {c : Code} (h : c.length - (zR c 0).length = 1) : ∃ s, ((List.range c.length).filter fun s => c.getD s 0 != 0) = [s] /\ s < c.length /\ c.getD s 0 ≠ 0 /\ ∀ i, i < c.length -> i ≠ s -> c.getD i 0 = 0 := by
  have := jA c
  obtain ⟨s, hs⟩ := zey (l := (List.range c.length).filter fun s => c.getD s 0 != 0) (by omega)
  have hm : s ∈ (List.range c.length).filter fun s => c.getD s 0 != 0 := by rw [hs]; exact List.mem_cons_self
  have hm' := List.mem_filter.mp hm
  refine ⟨s, hs, List.mem_range.mp hm'.1, by simpa using hm'.2, fun i hi hne => ?_⟩
  by_cases h0 : c.getD i 0 = 0
  . exact h0
  . exfalso
    have : i ∈ (List.range c.length).filter fun s => c.getD s 0 != 0 := List.mem_filter.mpr ⟨List.mem_range.mpr hi, by simpa using h0⟩
    rw [hs] at this
    exact hne (by simpa using this)
theorem j4 (c : List Nat) (k i : Nat) : (c ++ List.replicate k 0).getD i 0 = c.getD i 0 := by
  rw [List.getD_eq_getElem?_getD, List.getD_eq_getElem?_getD]
  by_cases h : i < c.length
  . rw [List.getElem?_append_left h]
  . rw [List.getElem?_append_right (by omega), List.getElem?_eq_none (l := c) (by omega), List.getElem?_replicate]
    split <;> rfl
theorem zd3 (c : Code) (k n : Nat) (hn : 0 < n) : zR (c ++ List.replicate k 0) n = zR c n := by
  unfold zR
  rw [List.length_append, List.length_replicate, List.range_add, List.filter_append]
  have e1 : List.filter (fun s => (c ++ List.replicate k 0).getD s 0 == n) (List.range c.length) = List.filter (fun s => c.getD s 0 == n) (List.range c.length) := by
    apply List.filter_congr
    intro i _
    rw [j4]
  have e2 : List.filter (fun s => (c ++ List.replicate k 0).getD s 0 == n) (List.map (fun x => c.length + x) (List.range k)) = [] := by
    rw [List.filter_eq_nil_iff]
    intro i hi
    obtain ⟨j, _, rfl⟩ := List.mem_map.mp hi
    rw [j4, List.getD_eq_getElem?_getD, List.getElem?_eq_none (by omega)]
    simp; omega
  rw [e1, e2, List.append_nil]
theorem zdr (c : Code) (k : Nat) : ((List.range (c ++ List.replicate k 0).length).filter fun s => (c ++ List.replicate k 0).getD s 0 != 0) = ((List.range c.length).filter fun s => c.getD s 0 != 0) := by
  rw [List.length_append, List.length_replicate, List.range_add, List.filter_append]
  have e1 : List.filter (fun s => (c ++ List.replicate k 0).getD s 0 != 0) (List.range c.length) = List.filter (fun s => c.getD s 0 != 0) (List.range c.length) := by
    apply List.filter_congr
    intro i _
    rw [j4]
  have e2 : List.filter (fun s => (c ++ List.replicate k 0).getD s 0 != 0) (List.map (fun x => c.length + x) (List.range k)) = [] := by
    rw [List.filter_eq_nil_iff]
    intro i hi
    obtain ⟨j, _, rfl⟩ := List.mem_map.mp hi
    rw [j4, List.getD_eq_getElem?_getD, List.getElem?_eq_none (by omega)]
    simp
  rw [e1, e2, List.append_nil]
theorem jd (c : Code) (j : Nat) : ∀ (k n : Nat), 0 < n -> zQ (c ++ List.replicate j 0) n k = zQ c n k
  | 0, _, _ => rfl
  | k + 1, n, h => by
    show zR _ n :: _ = zR c n :: _
    rw [zd3 c j n h, jd c j k (n + 1) (by omega)]
theorem wb (c : Code) (k : Nat) : symbol (c ++ List.replicate k 0) = symbol c := by
  by_cases hs : ∃ s, ((List.range c.length).filter fun s => c.getD s 0 != 0) = [s]
  . obtain ⟨s, hs⟩ := hs
    rw [xj hs, xj (by rw [zdr]; exact hs)]
  . rw [qh c fun s e => hs ⟨s, e⟩, qh _ fun s e => hs ⟨s, by rw [zdr] at e; exact e⟩, jd c k 15 1 (by decide)]
theorem zhD (c : Code) (k : Nat) : good (c ++ List.replicate k 0) = good c := by
  unfold good
  rw [List.filter_append, List.map_append, List.sum_append]
  have e1 : (List.replicate k 0).filter (fun n => n != 0) = [] := by
    rw [List.filter_eq_nil_iff]
    intro i hi
    rw [List.eq_of_mem_replicate hi]; decide
  have e2 : ((List.replicate k 0).map fun n => if n = 0 then 0 else 2 ^ (15 - n)).sum = 0 := by
    rw [List.map_replicate]; simp
  rw [e1, e2, List.append_nil, Nat.add_zero]
end Lk
end
section
namespace Lk
open Sn15
def jN (size a : Nat) : Code := (List.range size).map fun s => if s = a then 1 else 0
def xk (size a b : Nat) : Code := (List.range size).map fun s => if s = a \/ s = b then 1 else 0
def wc (size : Nat) : D Code := do
  let two <- bits 1
  let long <- bits 1
  let a <- bits (if long = 1 then 8 else 1)
  need (decide (a < size))
  if two = 1 then do
    let b <- bits 8
    need (decide (b < size) && b != a)
    return xk size a b
  else return jN size a
def zdP (o : List (Nat × Nat)) : Code := (List.range 19).map fun s => ((o.find? fun x => x.1 == s).map fun x => x.2).getD 0
def zm2 : D Code := do
  let n <- bits 4
  let o <- orderLengths (n + 4) ORDER
  need (good (zdP o))
  return zdP o
def zci (size : Nat) : D Nat := do
  if (<- bits 1) = 0 then pure size else do
    let k <- bits 3
    let m <- bits (2 + 2 * k)
    need (decide (m + 2 <= size))
    return m + 2
def qX (size : Nat) : D Code := do
  let c <- zm2
  let most <- zci size
  lengths c size (size + 1) most 8 []
def zaQ (size : Nat) : D Code := do
  if (<- bits 1) = 1 then wc size else do
    let l <- qX size
    need (good l)
    return l
theorem zee (size : Nat) : (do
    let two <- bits 1
    let long <- bits 1
    let a <- bits (if long = 1 then 8 else 1)
    let b <- if two = 1 then (do return some (<- bits 8)) else pure none
    need (decide (a < size) && match b with
      | some b => decide (b < size) && b != a
      | none => true)
    return (List.range size).map fun s => if s = a \/ some s = b then 1 else 0 : D Code) = wc size := by
  unfold wc
  apply zgk
  intro bs
  simp only [zJ]
  cases bits 1 bs with
  | none => rfl
  | some x =>
    obtain ⟨two, bs⟩ := x
    simp only [Option.bind_some]
    cases bits 1 bs with
    | none => rfl
    | some x =>
      obtain ⟨long, bs⟩ := x
      simp only [Option.bind_some]
      cases bits (if long = 1 then 8 else 1) bs with
      | none => rfl
      | some x =>
        obtain ⟨a, bs⟩ := x
        simp only [Option.bind_some]
        by_cases h : two = 1
        . simp only [h, if_true]
          simp only [zK, zq]
          by_cases ha : a < size
          . simp only [decide_eq_true ha, Bool.true_and]
            have e : need true bs = some ((), bs) := rfl
            rw [e]
            simp only [Option.bind_some]
            rw [zJ, zJ]
            cases bits 8 bs with
            | none => rfl
            | some x =>
              simp only [Option.bind_some, Option.some.injEq]
              rfl
          . have hf : decide (a < size) = false := decide_eq_false ha
            simp only [hf, Bool.false_and, yN, vZ, zjp]
            rfl
        . simp only [h, if_false]
          simp only [zq, Bool.and_true]
          by_cases ha : a < size
          . simp only [decide_eq_true ha, yl, reduceCtorEq, or_false]
            rfl
          . simp only [decide_eq_false ha, yN]
            rfl
theorem zk4 (size : Nat) : code size = zaQ size := by
  unfold zaQ qX zm2 zci
  apply zgk
  intro bs
  show (bits 1 >>= fun t => if t = 1 then _ else _) bs = (bits 1 >>= fun t => if t = 1 then _ else _) bs
  rw [zJ, zJ]
  cases bits 1 bs with
  | none => rfl
  | some x =>
    obtain ⟨t, bs⟩ := x
    simp only [Option.bind_some]
    by_cases ht : t = 1
    . rw [if_pos ht, if_pos ht]
      exact congrFun (zee size) bs
    . rw [if_neg ht, if_neg ht]
      simp only [zK, zq]
      rw [zJ, zJ]
      cases bits 4 bs with
      | none => rfl
      | some x =>
        obtain ⟨n, bs⟩ := x
        simp only [Option.bind_some]
        rw [zJ, zJ]
        cases orderLengths (n + 4) ORDER bs with
        | none => rfl
        | some x =>
          obtain ⟨o, bs⟩ := x
          simp only [Option.bind_some]
          rw [show (List.map (fun s => (Option.map (fun x => x.2) (List.find? (fun x => x.1 == s) o)).getD 0) (List.range 19)) = zdP o from rfl]
          rw [zJ, zJ]
          cases need (good (zdP o)) bs with
          | none => rfl
          | some x =>
            obtain ⟨_, bs⟩ := x
            simp only [Option.bind_some]
            rw [zJ, zJ]
            cases bits 1 bs with
            | none => rfl
            | some x =>
              obtain ⟨u, bs⟩ := x
              simp only [Option.bind_some]
              by_cases hu : u = 0
              . rw [if_pos hu, if_pos hu]
                simp only [zq, decide_eq_true (Nat.le_refl size), yl]
              . rw [if_neg hu, if_neg hu]
                simp only [zK, zq]
def zcC : List Nat -> List Nat -> D (List Nat)
  | [], l => pure l
  | s :: r, l => do
    let k <- bits 3
    zcC r (l.set s k)
def xI (o : List (Nat × Nat)) (l : List Nat) : Code := (List.range 19).map fun s => ((o.find? fun x => x.1 == s).map fun x => x.2).getD (l.getD s 0)
theorem zbm {s k : Nat} {o : List (Nat × Nat)} {l : List Nat} (hs : ∀ x ∈ o, x.1 ≠ s) (hl : s < l.length) : xI ((s, k) :: o) l = xI o (l.set s k) := by
  unfold xI
  apply List.map_congr_left
  intro i _
  rw [List.find?_cons]
  by_cases e : s = i
  . subst e
    have hn : o.find? (fun x => x.1 == s) = none := by
      rw [List.find?_eq_none]
      intro x hx
      simpa using hs x hx
    simp [hn, hl]
  . have : ((s, k).1 == i) = false := by simpa using e
    rw [this]
    simp only []
    rw [List.getD_eq_getElem?_getD, List.getD_eq_getElem?_getD, List.getElem?_set_ne e]
theorem xC : ∀ (n : Nat) (ord : List Nat) (bs bs' : List Bool) (o : List (Nat × Nat)), orderLengths n ord bs = some (o, bs') -> (∀ x ∈ o, x.1 ∈ ord)
  | 0, ord, bs, bs', o, h => by
    cases ord <;> (cases h; intro x hx; cases hx)
  | n + 1, [], bs, bs', o, h => by cases h
  | n + 1, s :: r, bs, bs', o, h => by
    have h : (bits 3 >>= fun k => orderLengths n r >>= fun q => pure ((s, k) :: q)) bs = some (o, bs') := h
    rw [zJ] at h
    cases hb : bits 3 bs with
    | none => rw [hb] at h; cases h
    | some x =>
      rw [hb] at h
      simp only [Option.bind_some] at h
      rw [zJ] at h
      cases ho : orderLengths n r x.2 with
      | none => rw [ho] at h; cases h
      | some y =>
        rw [ho] at h
        cases h
        intro z hz
        rcases List.mem_cons.mp hz with e | hz
        . rw [e]; exact List.mem_cons_self
        . exact List.mem_cons_of_mem _ (xC n r x.2 y.2 y.1 ho z hz)
theorem zbs : ∀ (n : Nat) (ord l : List Nat), n <= ord.length -> ord.Nodup -> (∀ s ∈ ord, s < 19) -> l.length = 19 -> (orderLengths n ord >>= fun o => pure (xI o l)) = zcC (ord.take n) l
  | 0, ord, l, _, _, _, hl => by
    have e : orderLengths 0 ord = pure [] := by cases ord <;> rfl
    rw [e, zq]
    show pure (xI [] l) = pure l
    have : xI [] l = l := by
      have := kD l
      rw [hl] at this
      exact this
    rw [this]
  | n + 1, [], l, h, _, _, _ => by simp at h
  | n + 1, s :: r, l, h, hnd, hlt, hl => by
    show ((bits 3 >>= fun k => orderLengths n r >>= fun q => pure ((s, k) :: q)) >>= fun o => pure (xI o l)) = (bits 3 >>= fun k => zcC (r.take n) (l.set s k))
    rw [zK]
    apply zgk
    intro bs
    rw [zJ, zJ]
    cases bits 3 bs with
    | none => rfl
    | some x =>
      obtain ⟨k, bs⟩ := x
      simp only [Option.bind_some]
      have hnd' := List.nodup_cons.mp hnd
      rw [<- zbs n r (l.set s k) (by simpa using h) hnd'.2 (fun t ht => hlt t (List.mem_cons_of_mem _ ht)) (by rw [List.length_set]; exact hl)]
      rw [zK, zJ, zJ]
      cases ho : orderLengths n r bs with
      | none => rfl
      | some y =>
        obtain ⟨o, bs'⟩ := y
        simp only [Option.bind_some]
        rw [zq]
        rw [zbm (fun x hx e => hnd'.1 (by rw [<- e]; exact xC n r _ _ _ ho x hx)) (by rw [hl]; exact hlt s List.mem_cons_self)]
def zbQ : D Code := do
  let n <- bits 4
  let c <- zcC (ORDER.take (n + 4)) (List.replicate 19 0)
  need (good c)
  return c
theorem zax (o : List (Nat × Nat)) : zdP o = xI o (List.replicate 19 0) := by
  unfold zdP xI
  apply List.map_congr_left
  intro i hi
  have : (List.replicate 19 0).getD i 0 = 0 := by
    rw [List.getD_eq_getElem?_getD, List.getElem?_replicate]
    split <;> rfl
  rw [this]
theorem zle : zm2 = zbQ := by
  unfold zm2 zbQ
  apply zgk
  intro bs
  rw [zJ, zJ]
  cases hb : bits 4 bs with
  | none => rfl
  | some x =>
    obtain ⟨n, bs⟩ := x
    simp only [Option.bind_some]
    have hn : n < 16 := yk hb
    rw [<- zbs (n + 4) ORDER (List.replicate 19 0) (by show n + 4 <= 19; omega) (by decide) (by decide) (by simp)]
    rw [zK]
    simp only [zq, zax]
theorem xE (c : Code) (size n most last : Nat) (l : List Nat) (h : size <= l.length \/ most = 0) : lengths c size (n + 1) most last l = pure (l ++ List.replicate (size - l.length) 0) := by
  show (if size <= l.length \/ most = 0 then _ else _) = _
  rw [if_pos h]
theorem qj (c : Code) (size n most last : Nat) (l : List Nat) (h : l.length < size) (hm : 0 < most) : lengths c size (n + 1) most last l = (symbol c >>= fun s => if s < 16 then lengths c size n (most - 1) (if s = 0 then last else s) (l ++ [s]) else
    ((if s = 16 then bits 2 else if s = 17 then bits 3 else bits 7) >>= fun k => need (decide (l.length + (if s = 18 then k + 11 else k + 3) <= size)) >>= fun _ =>
      lengths c size n (most - 1) last (l ++ List.replicate (if s = 18 then k + 11 else k + 3) (if s = 16 then last else 0)))) := by
  show (if size <= l.length \/ most = 0 then _ else _) = _
  rw [if_neg (by omega)]
  congr 1
  funext s
  by_cases h16 : s < 16
  . simp only [h16, if_true]
  . simp only [h16, if_false]
    by_cases e1 : s = 16
    . simp only [e1, if_true]
    . by_cases e2 : s = 17
      . simp only [e1, e2, if_true, if_false]; rfl
      . simp only [e1, e2, if_false]
theorem jL {c : Code} {s : Nat} (hs : symbol c = pure s) (h16 : s < 16) (size : Nat) : ∀ (n most last : Nat) (l : List Nat), most < n -> l.length + most <= size -> lengths c size n most last l = pure ((l ++ List.replicate most s) ++ List.replicate (size - (l.length + most)) 0)
  | 0, _, _, _, h, _ => absurd h (Nat.not_lt_zero _)
  | n + 1, 0, last, l, _, _ => by
    rw [xE c size n 0 last l (.inr rfl)]
    simp
  | n + 1, m + 1, last, l, h, hl => by
    rw [qj c size n (m + 1) last l (by omega) (by omega), hs, zq, if_pos h16, jL hs h16 size n (m + 1 - 1) _ (l ++ [s]) (by omega) (by simp; omega)]
    simp only [List.length_append, List.length_cons, List.length_nil, List.append_assoc, Nat.add_sub_cancel]
    congr 2
    rw [show l.length + (0 + 1) + m = l.length + (m + 1) by omega]
    rw [<- List.append_assoc [s]]
    congr 1
end Lk
end
section
namespace Lk
open Sn15
structure yf (p : Px) : Prop where
  a : p.a < 256
  r : p.r < 256
  g : p.g < 256
  b : p.b < 256
theorem zkq (k : Nat) (p : Px) (hk : k <= 32) : hash k p < 2 ^ k := by
  unfold Sn15.hash
  rw [Nat.div_lt_iff_lt_mul (Nat.pow_pos (by decide)), <- Nat.pow_add, Nat.add_sub_cancel' hk]
  exact Nat.mod_lt _ (Nat.pow_pos (by decide))
def qi (k : Nat) (l : List Px) : List Nat := (List.range (2 ^ k)).map fun i => if k = 0 then 0 else (cached k l i).word
theorem zdF (k : Nat) : qi k [] = List.replicate (2 ^ k) 0 := by
  unfold qi
  apply List.ext_getElem
  . simp
  . intro i _ _
    simp [cached, Px.word]
theorem zcv (k : Nat) (l : List Px) (p : Px) (i : Nat) : cached k (l ++ [p]) i = if hash k p = i then p else cached k l i := by
  unfold cached
  rw [List.reverse_append, List.reverse_singleton, List.singleton_append, List.find?_cons]
  by_cases h : hash k p = i
  . simp [h]
  . have : (hash k p == i) = false := by simpa using h
    rw [this, if_neg h]
theorem zcb (k : Nat) (l : List Px) (p : Px) (hk : 0 < k) (hk2 : k <= 32) : qi k (l ++ [p]) = (qi k l).set (hash k p) p.word := by
  unfold qi
  apply List.ext_getElem
  . simp
  . intro i h1 h2
    rw [List.getElem_set]
    simp only [List.getElem_map, List.getElem_range]
    rw [if_neg (show ¬ k = 0 by omega), if_neg (show ¬ k = 0 by omega), zcv]
    by_cases h : hash k p = i
    . rw [if_pos h, if_pos h]
    . rw [if_neg h, if_neg h]
theorem kR (l : List Px) : qi 0 l = [0] := rfl
theorem zdS (k : Nat) (l : List Px) : (qi k l).length = 2 ^ k := by unfold qi; simp
theorem zev (k : Nat) (l : List Px) (i : Nat) (hk : 0 < k) (hi : i < 2 ^ k) : (qi k l)[i]? = some (cached k l i).word := by
  unfold qi
  rw [List.getElem?_map, List.getElem?_range hi]
  simp only [Option.map_some]
  rw [if_neg (by omega)]
theorem zf1 {k : Nat} {l : List Px} {i : Nat} (h : ∀ p ∈ l, yf p) : yf (cached k l i) := by
  unfold cached
  cases e : l.reverse.find? fun p => hash k p == i with
  | none => exact ⟨by decide, by decide, by decide, by decide⟩
  | some p => exact h p (List.mem_reverse.mp (List.mem_of_find?_eq_some e))
theorem jE (n d : Nat) (l : List Px) : again (n + 1) d l = again n d (l ++ [l.getD (l.length - d) black]) := rfl
theorem kL : ∀ (n d : Nat) (l : List Px), (again n d l).length = l.length + n
  | 0, _, _ => rfl
  | n + 1, d, l => by rw [jE, kL n]; simp; omega
theorem getD_mem {l : List Px} {i : Nat} {d : Px} (h : i < l.length) : l.getD i d ∈ l := by
  rw [List.getD_eq_getElem?_getD, List.getElem?_eq_getElem h]
  exact List.getElem_mem _
theorem za4 (w t k : Nat) (gs : List Group) (wh : Nat -> Nat -> Nat) (n : Nat) (l : List Px) (h : t <= l.length) : elements w t k gs wh (n + 1) l = pure l := by
  show (if t <= l.length then _ else _) = _
  rw [if_pos h]
def zd9 (w t k : Nat) (g : Group) (l : List Px) : D (List Px) := do
  let s <- symbol g.green
  if s < 256 then do
    let r <- symbol g.red
    let b <- symbol g.blue
    let a <- symbol g.alpha
    return l ++ [⟨a, r, s, b⟩]
  else if s < 280 then do
    let n <- value (s - 256)
    let ds <- symbol g.distance
    let dv <- value ds
    need (decide (back w dv <= l.length) && decide (l.length + n <= t))
    return again n (back w dv) l
  else return l ++ [cached k l (s - 280)]
theorem zaa (w t k : Nat) (gs : List Group) (wh : Nat -> Nat -> Nat) (n : Nat) (l : List Px) (g : Group) (h : l.length < t) (hg : gs[wh (l.length % w) (l.length / w)]? = some g) :
    elements w t k gs wh (n + 1) l = (zd9 w t k g l >>= fun l' => elements w t k gs wh n l') := by
  show (if t <= l.length then _ else _) = _
  rw [if_neg (by omega)]
  simp only [hg]
  unfold zd9
  rw [zK]
  congr 1
  funext s
  by_cases h1 : s < 256
  . simp only [h1, if_true, zK, zq]
  . by_cases h2 : s < 280
    . simp only [h1, h2, if_true, if_false, zK, zq]
    . simp only [h1, h2, if_false, zq]
theorem zaR {s v : Nat} {bs bs' : List Bool} (h : value s bs = some (v, bs')) : 0 < v := by
  unfold value at h
  split at h
  . cases h; omega
  . rw [zJ] at h
    cases hb : bits ((s - 2) / 2) bs with
    | none => rw [hb] at h; cases h
    | some x => rw [hb] at h; cases h; omega
theorem zik (w d : Nat) (h : 0 < d) : 0 < back w d := by
  unfold back
  split
  . omega
  . simp only []
    split
    . decide
    . omega
def ye (k : Nat) : Nat := if k = 0 then 0 else 2 ^ k
def jQ : D Nat := do
  if (<- bits 1) = 1 then do
    let k <- bits 4
    need (decide (1 <= k /\ k <= 11))
    return k
  else pure 0
def zbC (w h k : Nat) (gs : List Group) (wh : Nat -> Nat -> Nat) : D (List Px) := elements w (w * h) k gs wh (w * h + 1) []
def qS (w h : Nat) : D (List Px) := do
  let k <- jQ
  let g <- group (ye k)
  zbC w h k [g] fun _ _ => 0
def y1 (w h : Nat) : D (Nat × List Px) := do
  let k <- bits 3
  let l <- qS (up w (2 ^ (k + 2))) (up h (2 ^ (k + 2)))
  return (k + 2, l)
def y3 (p : Px) : Nat := p.r * 256 + p.g
def yM (w z : Nat) (l : List Px) (x y : Nat) : Nat := y3 (l.getD (y / 2 ^ z * up w (2 ^ z) + x / 2 ^ z) black)
def zap (w h k : Nat) : D (List Group × (Nat -> Nat -> Nat)) := do
  if (<- bits 1) = 1 then do
    let m <- y1 w h
    let gs <- groups (ye k) ((m.2.map y3).foldl max 0 + 1)
    return (gs, yM w m.1 m.2)
  else do
    let g <- group (ye k)
    return ([g], fun _ _ => 0)
def zep (w h : Nat) : D (List Px) := do
  let k <- jQ
  let g <- zap w h k
  zbC w h k g.1 g.2
theorem vU (c : Nat) : groups c 1 = (group c >>= fun g => pure [g]) := by
  show (group c >>= fun g => groups c 0 >>= fun r => pure (g :: r)) = _
  congr 1
theorem zds {α β : Type} (c : Prop) [Decidable c] (a b : D α) (f : α -> D β) : ((if c then a else b) >>= f) = if c then a >>= f else b >>= f := by
  split <;> rfl
theorem xJ (n w h : Nat) : coded (n + 1) false w h = qS w h := by
  unfold coded qS jQ
  simp only [Bool.false_eq_true, if_false, zds, zK, zq, Nat.zero_ne_one, vU]
  rfl
theorem zdN (w h : Nat) : coded 2 true w h = zep w h := by
  unfold coded zep jQ zap y1
  simp only [if_true, zds, zK, zq, xJ]
  congr 1
  funext t
  have key : ∀ (k : Nat), (bits 1 >>= fun many => if many = 1 then (bits 3 >>= fun j => qS ((w + 2 ^ (j + 2) - 1) / 2 ^ (j + 2)) ((h + 2 ^ (j + 2) - 1) / 2 ^ (j + 2)) >>= fun l =>
        groups (ye k) (if many = 1 then (l.map y3).foldl max 0 + 1 else 1) >>= fun gs =>
        elements w (w * h) k gs (fun x y => if many = 1 then y3 (l.getD (y / 2 ^ (j + 2) * ((w + 2 ^ (j + 2) - 1) / 2 ^ (j + 2)) + x / 2 ^ (j + 2)) black) else 0) (w * h + 1) [])
      else groups (ye k) (if many = 1 then (([] : List Px).map y3).foldl max 0 + 1 else 1) >>= fun gs =>
        elements w (w * h) k gs (fun x y => if many = 1 then y3 (([] : List Px).getD (y / 2 ^ 0 * ((w + 2 ^ 0 - 1) / 2 ^ 0) + x / 2 ^ 0) black) else 0) (w * h + 1) []) =
      (bits 1 >>= fun a => if a = 1 then (bits 3 >>= fun j => qS (up w (2 ^ (j + 2))) (up h (2 ^ (j + 2))) >>= fun l => groups (ye k) ((l.map y3).foldl max 0 + 1) >>= fun gs => zbC w h k gs (yM w (j + 2) l))
        else group (ye k) >>= fun g => zbC w h k [g] fun _ _ => 0) := by
    intro k
    congr 1
    funext many
    by_cases hm : many = 1
    . simp only [hm, if_true]
      rfl
    . simp only [hm, if_false, vU, zK, zq]
      rfl
  by_cases ht : t = 1
  . simp only [ht, if_true]
    congr 1
    funext k
    congr 1
    funext _
    exact key k
  . simp only [ht, if_false]
    exact key 0
end Lk
end
section
namespace Lk
open Sn15
def xm (l : List Px) : Bool := l.all fun p => decide (p.g < 14)
def qe (height : Nat) : Nat -> List Nat -> Nat -> D (List Trans × Nat)
  | 0, _, _ => bad
  | n + 1, had, width => do
    if (<- bits 1) = 0 then return ([], width)
    else do
      let t <- bits 2
      need (!had.contains t)
      if t = 0 then do
        let m <- y1 width height
        need (xm m.2)
        let r <- qe height n (t :: had) width
        return (.predict m.1 m.2 :: r.1, r.2)
      else if t = 1 then do
        let m <- y1 width height
        let r <- qe height n (t :: had) width
        return (.cross m.1 m.2 :: r.1, r.2)
      else if t = 2 then do
        let r <- qe height n (t :: had) width
        return (.green :: r.1, r.2)
      else do
        let k <- bits 8
        let l <- qS (k + 1) 1
        let r <- qe height n (t :: had) (up width (2 ^ packedBits (k + 1)))
        return (.table (sums ⟨0, 0, 0, 0⟩ l) :: r.1, r.2)
def chk (m : D (List Trans × Nat)) : D (List Trans × Nat) := do
  let t <- m
  need (t.1.all fits)
  return t
theorem ziq {β : Type} (a b : Bool) (f : Unit -> D β) : (need (a && b) >>= f) = (need a >>= fun _ => need b >>= f) := by
  cases a
  . simp only [Bool.false_and, yN]
  . simp only [Bool.true_and, yl]
theorem zhs {α β : Type} (a : Bool) (m : D α) (f : α -> D β) : (m >>= fun x => need a >>= fun _ => f x) = (need a >>= fun _ => m >>= f) := by
  cases a
  . simp only [yN, vZ]
  . simp only [yl]
theorem kj (m : D (List Trans × Nat)) (t : Trans) : chk (m >>= fun r => pure (t :: r.1, r.2)) = (need (fits t) >>= fun _ => chk m >>= fun r => pure (t :: r.1, r.2)) := by
  unfold chk
  simp only [zK, zq, List.all_cons, ziq]
  rw [zhs (fits t) m fun x => need (x.1.all fits) >>= fun _ => pure (t :: x.1, x.2)]
theorem xg {α : Type} (m : D α) (f : α -> D (List Trans × Nat)) : chk (m >>= f) = (m >>= fun a => chk (f a)) := by
  unfold chk
  rw [zK]
theorem ju {α β : Type} (m : D α) {f g : α -> D β} (h : ∀ a bs bs', m bs = some (a, bs') -> f a = g a) : (m >>= f) = (m >>= g) := by
  apply zgk
  intro bs
  rw [zJ, zJ]
  cases hm : m bs with
  | none => rfl
  | some x => simp only [Option.bind_some]; rw [h x.1 bs x.2 hm]
theorem yR (height : Nat) : ∀ (n : Nat) (had : List Nat) (width : Nat), chk (transforms height n had width) = qe height n had width
  | 0, _, _ => by unfold chk transforms qe; rw [zdU]
  | n + 1, had, width => by
    have e : transforms height (n + 1) had width = (bits 1 >>= fun u => if u = 0 then pure ([], width) else bits 2 >>= fun t => need (!had.contains t) >>= fun _ =>
        if t = 0 \/ t = 1 then bits 3 >>= fun k => coded 1 false (up width (2 ^ (k + 2))) (up height (2 ^ (k + 2))) >>= fun l => transforms height n (t :: had) width >>= fun r => pure ((if t = 0 then .predict (k + 2) l else .cross (k + 2) l) :: r.1, r.2)
        else if t = 2 then transforms height n (t :: had) width >>= fun r => pure (.green :: r.1, r.2)
        else bits 8 >>= fun k => coded 1 false (k + 1) 1 >>= fun l => transforms height n (t :: had) (up width (2 ^ packedBits (k + 1))) >>= fun r => pure (.table (sums ⟨0, 0, 0, 0⟩ l) :: r.1, r.2)) := by
      rfl
    rw [e, xg]
    show _ = (bits 1 >>= fun u => if u = 0 then _ else _)
    congr 1
    funext u
    by_cases hu : u = 0
    . rw [if_pos hu, if_pos hu]
      unfold chk
      rw [zq]
      show (need true >>= _) = _
      rw [yl]
    . rw [if_neg hu, if_neg hu, xg]
      apply ju
      intro t bs bs' ht
      have ht4 : t < 4 := yk ht
      rw [xg]
      congr 1
      funext _
      by_cases h0 : t = 0
      . rw [if_pos (.inl h0), if_pos h0]
        unfold y1
        simp only [xg, zK, zq, xJ]
        congr 1
        funext k
        congr 1
        funext l
        rw [<- xg, kj, yR height n (t :: had) width]
        simp only [h0, if_true]
        rfl
      . by_cases h1 : t = 1
        . rw [if_pos (.inr h1), if_neg h0, if_pos h1]
          unfold y1
          simp only [xg, zK, zq, xJ]
          congr 1
          funext k
          congr 1
          funext l
          rw [<- xg, kj, yR height n (t :: had) width]
          simp only [h0, if_false]
          show (need true >>= _) = _
          rw [yl]
        . rw [if_neg (by omega), if_neg h0, if_neg h1]
          by_cases h2 : t = 2
          . rw [if_pos h2, if_pos h2, kj, yR height n (t :: had) width]
            show (need true >>= _) = _
            rw [yl]
          . rw [if_neg h2, if_neg h2]
            simp only [xg, xJ]
            congr 1
            funext k
            congr 1
            funext l
            rw [<- xg, kj, yR height n (t :: had)]
            show (need true >>= _) = _
            rw [yl]
def zcP : D Nat := fun bs => some (bs.length, bs)
def zbZ : D (Nat × Nat × Nat) := do
  let w <- bits 14
  let h <- bits 14
  let alpha <- bits 1
  let v <- bits 3
  need (v == 0)
  return (w + 1, h + 1, alpha)
def ziV (w h : Nat) : D (List Trans × List Px) := do
  let t <- qe h 5 [] w
  let l <- zep t.2 h
  let n <- zcP
  need (decide (n < 8))
  return (t.1, l)
def jb : D Picture := do
  let s <- zbZ
  if MOSTELEMENTS < s.1 * s.2.1 then return ⟨s.1, s.2.1, []⟩ else do
    let b <- ziV s.1 s.2.1
    return ⟨s.1, s.2.1, if s.2.2 = 1 then undoAll s.1 s.2.1 b.1 b.2 else (undoAll s.1 s.2.1 b.1 b.2).map fun p => { p with a := 255 }⟩
theorem zeo : picture = jb := by
  unfold picture jb zbZ
  simp only [zK, zq]
  congr 1
  funext w
  congr 1
  funext h
  congr 1
  funext alpha
  congr 1
  funext v
  congr 1
  funext _
  by_cases hm : MOSTELEMENTS < (w + 1) * (h + 1)
  . rw [if_pos hm, if_pos hm]
  . rw [if_neg hm, if_neg hm]
    unfold ziV
    simp only [<- yR, <- zdN]
    unfold chk
    simp only [zK, zq]
    rfl
end Lk
end
section
namespace Lk
open Sn15
theorem zc8 {i a b c d : Nat} (hb : b < 2 ^ i) (hd : d < 2 ^ i) : (2 ^ i * a + b) &&& (2 ^ i * c + d) = 2 ^ i * (a &&& c) + (b &&& d) := by
  apply Nat.eq_of_testBit_eq
  intro j
  have hbd : b &&& d < 2 ^ i := Nat.and_lt_two_pow _ hd
  rw [Nat.testBit_and, Nat.testBit_two_pow_mul_add _ hb, Nat.testBit_two_pow_mul_add _ hd, Nat.testBit_two_pow_mul_add _ hbd]
  split <;> rw [Nat.testBit_and]
theorem zkj {i a b c d : Nat} (hb : b < 2 ^ i) (hd : d < 2 ^ i) : (2 ^ i * a + b) ||| (2 ^ i * c + d) = 2 ^ i * (a ||| c) + (b ||| d) := by
  apply Nat.eq_of_testBit_eq
  intro j
  have hbd : b ||| d < 2 ^ i := Nat.or_lt_two_pow hb hd
  rw [Nat.testBit_or, Nat.testBit_two_pow_mul_add _ hb, Nat.testBit_two_pow_mul_add _ hd, Nat.testBit_two_pow_mul_add _ hbd]
  split <;> rw [Nat.testBit_or]
theorem ze1 {i a b c d : Nat} (hb : b < 2 ^ i) (hd : d < 2 ^ i) : (2 ^ i * a + b) ^^^ (2 ^ i * c + d) = 2 ^ i * (a ^^^ c) + (b ^^^ d) := by
  apply Nat.eq_of_testBit_eq
  intro j
  have hbd : b ^^^ d < 2 ^ i := Nat.xor_lt_two_pow hb hd
  rw [Nat.testBit_xor, Nat.testBit_two_pow_mul_add _ hb, Nat.testBit_two_pow_mul_add _ hd, Nat.testBit_two_pow_mul_add _ hbd]
  split <;> rw [Nat.testBit_xor]
theorem kC : ∀ (x y : Nat), x + y = (x ^^^ y) + 2 * (x &&& y) := by
  intro x
  induction x using Nat.strongRecOn with
  | ind x ih =>
    intro y
    by_cases h0 : x = 0
    . subst h0; rw [Nat.zero_xor, Nat.zero_and]; omega
    . have e1 : x = 2 ^ 1 * (x / 2) + x % 2 := by omega
      have e2 : y = 2 ^ 1 * (y / 2) + y % 2 := by omega
      have hx : x % 2 < 2 ^ 1 := Nat.mod_lt _ (by decide)
      have hy : y % 2 < 2 ^ 1 := Nat.mod_lt _ (by decide)
      have i := ih (x / 2) (by omega) (y / 2)
      have bit : ∀ a < 2, ∀ b < 2, a + b = (a ^^^ b) + 2 * (a &&& b) := by decide
      have b := bit (x % 2) hx (y % 2) hy
      have q1 : x ^^^ y = 2 * (x / 2 ^^^ y / 2) + (x % 2 ^^^ y % 2) := by
        conv => lhs; rw [e1, e2]
        rw [ze1 hx hy]
      have q2 : x &&& y = 2 * (x / 2 &&& y / 2) + (x % 2 &&& y % 2) := by
        conv => lhs; rw [e1, e2]
        rw [zc8 hx hy]
      rw [q1, q2]
      omega
def W4 (a r g b : Nat) : Nat := ((a * 256 + r) * 256 + g) * 256 + b
theorem vc (p : Px) : p.word = W4 p.a p.r p.g p.b := rfl
theorem wC {a r g b a' r' g' b' : Nat} (hr : r < 256) (hg : g < 256) (hb : b < 256) (hr' : r' < 256) (hg' : g' < 256) (hb' : b' < 256) : W4 a r g b &&& W4 a' r' g' b' = W4 (a &&& a') (r &&& r') (g &&& g') (b &&& b') := by
  have f : ∀ x y u v : Nat, y < 256 -> v < 256 -> (x * 256 + y) &&& (u * 256 + v) = (x &&& u) * 256 + (y &&& v) := fun x y u v hy hv => by
    have := zc8 (i := 8) (a := x) (b := y) (c := u) (d := v) hy hv
    rw [Nat.mul_comm x, Nat.mul_comm u, Nat.mul_comm (x &&& u)]
    exact this
  unfold W4
  rw [f _ _ _ _ hb hb', f _ _ _ _ hg hg', f _ _ _ _ hr hr']
theorem kG {a r g b a' r' g' b' : Nat} (hr : r < 256) (hg : g < 256) (hb : b < 256) (hr' : r' < 256) (hg' : g' < 256) (hb' : b' < 256) : W4 a r g b ||| W4 a' r' g' b' = W4 (a ||| a') (r ||| r') (g ||| g') (b ||| b') := by
  have f : ∀ x y u v : Nat, y < 256 -> v < 256 -> (x * 256 + y) ||| (u * 256 + v) = (x ||| u) * 256 + (y ||| v) := fun x y u v hy hv => by
    have := zkj (i := 8) (a := x) (b := y) (c := u) (d := v) hy hv
    rw [Nat.mul_comm x, Nat.mul_comm u, Nat.mul_comm (x ||| u)]
    exact this
  unfold W4
  rw [f _ _ _ _ hb hb', f _ _ _ _ hg hg', f _ _ _ _ hr hr']
theorem zmQ {a r g b a' r' g' b' : Nat} (hr : r < 256) (hg : g < 256) (hb : b < 256) (hr' : r' < 256) (hg' : g' < 256) (hb' : b' < 256) : W4 a r g b ^^^ W4 a' r' g' b' = W4 (a ^^^ a') (r ^^^ r') (g ^^^ g') (b ^^^ b') := by
  have f : ∀ x y u v : Nat, y < 256 -> v < 256 -> (x * 256 + y) ^^^ (u * 256 + v) = (x ^^^ u) * 256 + (y ^^^ v) := fun x y u v hy hv => by
    have := ze1 (i := 8) (a := x) (b := y) (c := u) (d := v) hy hv
    rw [Nat.mul_comm x, Nat.mul_comm u, Nat.mul_comm (x ^^^ u)]
    exact this
  unfold W4
  rw [f _ _ _ _ hb hb', f _ _ _ _ hg hg', f _ _ _ _ hr hr']
theorem zdi (x : Nat) : x &&& 255 = x % 256 := Nat.and_two_pow_sub_one_eq_mod x 8
theorem zmh (x : Nat) : x &&& 127 = x % 128 := Nat.and_two_pow_sub_one_eq_mod x 7
abbrev M1 : Nat := 4278255360
abbrev M2 : Nat := 16711935
abbrev M3 : Nat := 2139062143
theorem znz : M1 = W4 255 0 255 0 := rfl
theorem znF : M2 = W4 0 255 0 255 := rfl
theorem znA : M3 = W4 127 127 127 127 := rfl
theorem ziu {a r g b : Nat} (hr : r < 256) (hg : g < 256) (hb : b < 256) : W4 a r g b &&& M1 = W4 (a % 256) 0 g 0 := by
  rw [znz, wC hr hg hb (by decide) (by decide) (by decide), zdi, zdi, Nat.and_zero, Nat.and_zero, Nat.mod_eq_of_lt hg]
theorem zjE {a r g b : Nat} (hr : r < 256) (hg : g < 256) (hb : b < 256) : W4 a r g b &&& M2 = W4 0 r 0 b := by
  rw [znF, wC hr hg hb (by decide) (by decide) (by decide), zdi, zdi, Nat.and_zero, Nat.and_zero, Nat.mod_eq_of_lt hr, Nat.mod_eq_of_lt hb]
theorem zeh {p : Px} (h : yf p) : p.a < 256 /\ p.r < 256 /\ p.g < 256 /\ p.b < 256 := by obtain ⟨h1, h2, h3, h4⟩ := h; exact ⟨h1, h2, h3, h4⟩
theorem zet {p q : Px} (hp : yf p) (hq : yf q) : (((p.word &&& M1) + (q.word &&& M1)) &&& M1) ||| (((p.word &&& M2) + (q.word &&& M2)) &&& M2) = (add p q).word := by
  obtain ⟨pa, pr, pg, pb⟩ := zeh hp
  obtain ⟨qa, qr, qg, qb⟩ := zeh hq
  rw [vc p, vc q, ziu pr pg pb, ziu qr qg qb, zjE pr pg pb, zjE qr qg qb]
  have e1 : W4 (p.a % 256) 0 p.g 0 + W4 (q.a % 256) 0 q.g 0 = W4 (p.a + q.a) ((p.g + q.g) / 256) ((p.g + q.g) % 256) 0 := by unfold W4; omega
  have e2 : W4 0 p.r 0 p.b + W4 0 q.r 0 q.b = W4 ((p.r + q.r) / 256) ((p.r + q.r) % 256) ((p.b + q.b) / 256) ((p.b + q.b) % 256) := by unfold W4; omega
  rw [e1, e2, ziu (by omega) (by omega) (by omega), zjE (by omega) (by omega) (by omega), kG (by omega) (by omega) (by omega) (by omega) (by omega) (by omega)]
  simp only [Nat.or_zero, Nat.zero_or]
  rfl
theorem zlw {a r g b : Nat} (hr : r < 256) (hg : g < 256) (hb : b < 256) (ha : a < 256) : W4 a r g b / 2 &&& M3 = W4 (a / 2) (r / 2) (g / 2) (b / 2) := by
  have e : W4 a r g b / 2 = W4 (a / 2) (a % 2 * 128 + r / 2) (r % 2 * 128 + g / 2) (g % 2 * 128 + b / 2) := by unfold W4; omega
  rw [e, znA, wC (by omega) (by omega) (by omega) (by omega) (by omega) (by omega)]
  simp only [zmh]
  congr 1 <;> omega
theorem zae {p q : Px} (hp : yf p) (hq : yf q) : (p.word &&& q.word) + ((p.word ^^^ q.word) / 2 &&& M3) = (mean p q).word := by
  obtain ⟨pa, pr, pg, pb⟩ := zeh hp
  obtain ⟨qa, qr, qg, qb⟩ := zeh hq
  have lx : ∀ {x y : Nat}, x < 256 -> y < 256 -> x ^^^ y < 256 := fun hx hy => Nat.xor_lt_two_pow (n := 8) hx hy
  rw [vc p, vc q, wC pr pg pb qr qg qb, zmQ pr pg pb qr qg qb, zlw (lx pr qr) (lx pg qg) (lx pb qb) (lx pa qa)]
  show _ = W4 ((p.a + q.a) / 2) ((p.r + q.r) / 2) ((p.g + q.g) / 2) ((p.b + q.b) / 2)
  have ha := kC p.a q.a
  have hr := kC p.r q.r
  have hg := kC p.g q.g
  have hb := kC p.b q.b
  unfold W4
  omega
theorem zcM (p q : Px) : yf (add p q) := ⟨Nat.mod_lt _ (by decide), Nat.mod_lt _ (by decide), Nat.mod_lt _ (by decide), Nat.mod_lt _ (by decide)⟩
theorem zcX : yf black := ⟨by decide, by decide, by decide, by decide⟩
theorem ze5 : yf ⟨0, 0, 0, 0⟩ := ⟨by decide, by decide, by decide, by decide⟩
theorem y0 {p q : Px} (hp : yf p) (hq : yf q) : yf (mean p q) := by
  obtain ⟨pa, pr, pg, pb⟩ := zeh hp
  obtain ⟨qa, qr, qg, qb⟩ := zeh hq
  refine ⟨?_, ?_, ?_, ?_⟩ <;> (unfold mean each; dsimp only; omega)
theorem xq (z : Int) : clamp z < 256 := by unfold clamp; split <;> (try split) <;> omega
theorem xo {c : Prop} [Decidable c] {p q : Px} (hp : yf p) (hq : yf q) : yf (if c then p else q) := by
  by_cases h : c
  . rw [if_pos h]; exact hp
  . rw [if_neg h]; exact hq
theorem qI {m : Nat} {l t tr tl : Px} (hl : yf l) (ht : yf t) (hr : yf tr) (hq : yf tl) : yf (foretold m l t tr tl) :=
  xo zcX (xo hl (xo ht (xo hr (xo hq (xo (y0 (y0 hl hr) ht) (xo (y0 hl hq) (xo (y0 hl ht) (xo (y0 hq ht) (xo (y0 ht hr)
    (xo (y0 (y0 hl hq) (y0 ht hr)) (xo (xo hl ht) (xo ⟨xq _, xq _, xq _, xq _⟩ ⟨xq _, xq _, xq _, xq _⟩))))))))))))
end Lk
end
section
namespace Lk
open Sn15
def jX (k w : Nat) (ms done : List Px) : Px :=
  if done.length = 0 then black else if done.length / w = 0 then done.getD (done.length - 1) black else if done.length % w = 0 then done.getD (done.length - w) black
  else foretold (ms.getD (done.length / w / 2 ^ k * up w (2 ^ k) + done.length % w / 2 ^ k) black).g (done.getD (done.length - 1) black) (done.getD (done.length - w) black) (done.getD (done.length + 1 - w) black) (done.getD (done.length - w - 1) black)
section
variable (k w : Nat) (ms : List Px)
theorem xy (done : List Px) (p : Px) (r : List Px) : unpredict k w ms done (p :: r) = unpredict k w ms (done ++ [add p (jX k w ms done)]) r := rfl
theorem qD : ∀ (l done : List Px) (p : Px), unpredict k w ms done (l ++ [p]) = unpredict k w ms done l ++ [add p (jX k w ms (unpredict k w ms done l))]
  | [], done, p => rfl
  | q :: l, done, p => by rw [List.cons_append, xy, xy, qD l]
theorem xF : ∀ (l done : List Px), (unpredict k w ms done l).length = done.length + l.length
  | [], done => rfl
  | q :: l, done => by rw [xy, xF l, List.length_append, List.length_singleton, List.length_cons]; omega
def unp (l : List Px) (i : Nat) : List Px := unpredict k w ms [] (l.take i)
theorem zih (l : List Px) : unp k w ms l 0 = [] := rfl
theorem j8 {l : List Px} {i : Nat} (h : i < l.length) : unp k w ms l (i + 1) = unp k w ms l i ++ [add l[i] (jX k w ms (unp k w ms l i))] := by
  unfold unp
  rw [List.take_succ_eq_append_getElem h, qD]
theorem xu {l : List Px} {i : Nat} (h : i <= l.length) : (unp k w ms l i).length = i := by
  unfold unp
  rw [xF, List.length_nil, List.length_take, Nat.min_eq_left h, Nat.zero_add]
theorem zfz (l : List Px) : unp k w ms l l.length = unpredict k w ms [] l := by unfold unp; rw [List.take_length]
theorem zji (l : List Px) : ∀ (i : Nat), i <= l.length -> ∀ p ∈ unp k w ms l i, yf p
  | 0, _, p, hp => by rw [zih] at hp; cases hp
  | i + 1, h, p, hp => by
    rw [j8 k w ms h] at hp
    rcases List.mem_append.mp hp with z | z
    . exact zji l i (by omega) p z
    . rw [List.mem_singleton.mp z]; exact zcM _ _
variable {k w ms}
theorem zfY {d : List Px} (h : d.length = 0) : jX k w ms d = black := by unfold jX; rw [if_pos h]
theorem zjH {d : List Px} (h0 : 0 < d.length) (h : d.length < w) : jX k w ms d = d.getD (d.length - 1) black := by
  unfold jX; rw [if_neg (by omega), if_pos (Nat.div_eq_of_lt h)]
theorem zky {d : List Px} {y : Nat} (hw : 0 < w) (hy : 0 < y) (h : d.length = y * w) : jX k w ms d = d.getD (d.length - w) black := by
  have h1 : w <= d.length := by rw [h]; exact Nat.le_mul_of_pos_left _ hy
  unfold jX
  rw [if_neg (by omega), if_neg (by rw [h, Nat.mul_div_cancel _ hw]; omega), if_pos (by rw [h, Nat.mul_mod_left])]
theorem zlx {d : List Px} {x y : Nat} (hx : 0 < x) (hxw : x < w) (hy : 0 < y) (h : d.length = y * w + x) :
    jX k w ms d = foretold (ms.getD (y / 2 ^ k * up w (2 ^ k) + x / 2 ^ k) black).g (d.getD (d.length - 1) black) (d.getD (d.length - w) black) (d.getD (d.length + 1 - w) black) (d.getD (d.length - w - 1) black) := by
  have e1 : d.length / w = y := by rw [h, Nat.add_comm, Nat.add_mul_div_right _ _ (by omega), Nat.div_eq_of_lt hxw, Nat.zero_add]
  have e2 : d.length % w = x := by rw [h, Nat.add_comm, Nat.add_mul_mod_self_right, Nat.mod_eq_of_lt hxw]
  unfold jX
  rw [if_neg (by omega), e1, e2, if_neg (by omega), if_neg (by omega)]
def aAt (k w : Nat) (ms l : List Px) (j : Nat) : Px := (unp k w ms l (j + 1)).getD j black
theorem qd {l : List Px} {j : Nat} : ∀ {n : Nat}, j < n -> n <= l.length -> (unp k w ms l n).getD j black = aAt k w ms l j
  | 0, h, _ => by omega
  | n + 1, h, hn => by
    by_cases e : j = n
    . subst e; rfl
    . rw [j8 k w ms hn, List.getD_eq_getElem?_getD, List.getElem?_append_left (by rw [xu k w ms (by omega)]; omega), <- List.getD_eq_getElem?_getD]
      exact qd (by omega) (by omega)
theorem zdy {l : List Px} {j n : Nat} (h : j < n) (hn : n <= l.length) : (unp k w ms l n)[j]? = some (aAt k w ms l j) := by
  have hl := xu k w ms hn
  have hj : j < (unp k w ms l n).length := by omega
  have e := qd (k := k) (w := w) (ms := ms) h hn
  rw [List.getD_eq_getElem?_getD, List.getElem?_eq_getElem hj] at e
  rw [List.getElem?_eq_getElem hj]
  exact congrArg some e
theorem v0 {l : List Px} {n : Nat} (h : n < l.length) : aAt k w ms l n = add l[n] (jX k w ms (unp k w ms l n)) := by
  have hl := xu k w ms (Nat.le_of_lt h)
  unfold aAt
  rw [j8 k w ms h, List.getD_eq_getElem?_getD, List.getElem?_append_right (by omega), hl, Nat.sub_self]
  rfl
theorem j3 {l : List Px} {n : Nat} (h : n < l.length) : unp k w ms l (n + 1) = unp k w ms l n ++ [aAt k w ms l n] := by rw [j8 k w ms h, v0 h]
theorem qE {l : List Px} {n : Nat} (h : n < l.length) : yf (aAt k w ms l n) := by rw [v0 h]; exact zcM _ _
theorem zf8 {l : List Px} (h : 0 < l.length) : aAt k w ms l 0 = add l[0] black := by rw [v0 h, zfY (xu k w ms (Nat.zero_le _))]
theorem zke {l : List Px} {n : Nat} (h : n < l.length) (h0 : 0 < n) (hw : n < w) : aAt k w ms l n = add l[n] (aAt k w ms l (n - 1)) := by
  have hl := xu k w ms (Nat.le_of_lt h)
  rw [v0 h, zjH (by omega) (by omega), hl, qd (by omega) (by omega)]
theorem zjB {l : List Px} {y : Nat} (h : y * w < l.length) (hw : 0 < w) (hy : 0 < y) : aAt k w ms l (y * w) = add l[y * w] (aAt k w ms l (y * w - w)) := by
  have hl := xu k w ms (Nat.le_of_lt h)
  have h1 : w <= y * w := Nat.le_mul_of_pos_left _ hy
  rw [v0 h, zky hw hy hl, hl, qd (by omega) (by omega)]
theorem zjA {l : List Px} {x y : Nat} (h : y * w + x < l.length) (hx : 0 < x) (hxw : x < w) (hy : 0 < y) : aAt k w ms l (y * w + x) =
    add l[y * w + x] (foretold (ms.getD (y / 2 ^ k * up w (2 ^ k) + x / 2 ^ k) black).g (aAt k w ms l (y * w + x - 1)) (aAt k w ms l (y * w + x - w)) (aAt k w ms l (y * w + x + 1 - w)) (aAt k w ms l (y * w + x - w - 1))) := by
  have hl := xu k w ms (Nat.le_of_lt h)
  have h1 : w <= y * w := Nat.le_mul_of_pos_left _ hy
  rw [v0 h, zlx hx hxw hy hl, hl, qd (by omega) (by omega), qd (by omega) (by omega), qd (by omega) (by omega), qd (by omega) (by omega)]
end
def zao (m p : Px) : Px := ⟨p.a, plus p.r (delta m.b p.g), p.g, plus p.b (delta m.g p.g + delta m.r (plus p.r (delta m.b p.g)))⟩
def kK (k w : Nat) (f : List Px) (i : Nat) (p : Px) : Px := zao (f.getD (i / w / 2 ^ k * up w (2 ^ k) + i % w / 2 ^ k) black) p
theorem qu (k w : Nat) (f l : List Px) : uncross k w f l = l.zipIdx.map fun x => kK k w f x.2 x.1 := rfl
theorem vq (k w : Nat) (f l : List Px) : (uncross k w f l).length = l.length := by rw [qu]; simp
theorem za3 (k w : Nat) (f l : List Px) (p : Px) : uncross k w f (l ++ [p]) = uncross k w f l ++ [kK k w f l.length p] := by
  rw [qu, qu, List.zipIdx_append, List.map_append]
  simp
theorem zaU {k w : Nat} {f l : List Px} {i : Nat} (h : i < l.length) : uncross k w f (l.take (i + 1)) = uncross k w f (l.take i) ++ [kK k w f i l[i]] := by
  rw [List.take_succ_eq_append_getElem h, za3, List.length_take, Nat.min_eq_left (by omega)]
theorem zd5 {k w : Nat} {f : List Px} {x y : Nat} {p : Px} (hx : x < w) : kK k w f (y * w + x) p = zao (f.getD (y / 2 ^ k * up w (2 ^ k) + x / 2 ^ k) black) p := by
  unfold kK
  rw [Nat.add_comm (y * w), Nat.add_mul_div_right _ _ (by omega), Nat.div_eq_of_lt hx, Nat.zero_add, Nat.add_mul_mod_self_right, Nat.mod_eq_of_lt hx]
theorem jG (n : Nat) (z : Int) : plus n z < 256 := by unfold plus; omega
theorem zd6 {m p : Px} (h : yf p) : yf (zao m p) := ⟨h.a, jG _ _, h.g, jG _ _⟩
theorem zel {k w : Nat} {f l : List Px} (h : ∀ p ∈ l, yf p) : ∀ p ∈ uncross k w f l, yf p := by
  intro p hp
  rw [qu] at hp
  obtain ⟨x, hx, rfl⟩ := List.mem_map.mp hp
  exact zd6 (h _ (List.fst_mem_of_mem_zipIdx hx))
def jp (p : Px) : Px := ⟨p.a, (p.r + p.g) % 256, p.g, (p.b + p.g) % 256⟩
theorem zdJ {p : Px} (h : yf p) : yf (jp p) := ⟨h.a, Nat.mod_lt _ (by decide), h.g, Nat.mod_lt _ (by decide)⟩
theorem zbH {p : Px} (h : yf p) : jp p = add p ⟨0, p.g, 0, p.g⟩ := by
  obtain ⟨h1, h2, h3, h4⟩ := h
  unfold jp add
  dsimp only
  rw [Nat.add_zero, Nat.add_zero, Nat.mod_eq_of_lt h1, Nat.mod_eq_of_lt h3]
def zef (c : List Px) (k g x : Nat) : Px := c.getD (g / 2 ^ (8 / 2 ^ k * (x % 2 ^ k)) % 2 ^ (8 / 2 ^ k)) ⟨0, 0, 0, 0⟩
def vy (w : Nat) (c l : List Px) (i : Nat) : Px := zef c (packedBits c.length) (l.getD (i / w * up w (2 ^ packedBits c.length) + i % w / 2 ^ packedBits c.length) black).g (i % w)
theorem zdh (w h : Nat) (c l : List Px) : (Trans.table c).undo w h l = (List.range (w * h)).map (vy w c l) := rfl
theorem zi2 (w y : Nat) (c l : List Px) : (List.range (w * (y + 1))).map (vy w c l) = (List.range (w * y)).map (vy w c l) ++ (List.range w).map fun x => vy w c l (w * y + x) := by
  rw [Nat.mul_succ, List.range_add, List.map_append, List.map_map]
  rfl
theorem ziS {w : Nat} {c l : List Px} {x y : Nat} (hx : x < w) : vy w c l (w * y + x) = zef c (packedBits c.length) (l.getD (y * up w (2 ^ packedBits c.length) + x / 2 ^ packedBits c.length) black).g x := by
  unfold vy
  rw [Nat.add_comm (w * y), Nat.add_mul_div_left _ _ (by omega), Nat.div_eq_of_lt hx, Nat.zero_add, Nat.add_mul_mod_self_left, Nat.mod_eq_of_lt hx]
theorem zhH {c : List Px} {k g x : Nat} (h : ∀ p ∈ c, yf p) : yf (zef c k g x) := by
  unfold zef
  rw [List.getD_eq_getElem?_getD]
  cases hq : c[g / 2 ^ (8 / 2 ^ k * (x % 2 ^ k)) % 2 ^ (8 / 2 ^ k)]? with
  | none => exact ze5
  | some p => exact h p (List.mem_of_getElem? hq)
def zaE (w : Nat) : Trans -> Nat
  | .table c => up w (2 ^ packedBits c.length)
  | _ => w
def jO (w : Nat) (ts : List Trans) : Nat := ts.foldl zaE w
theorem qW (w : Nat) (ts : List Trans) (t : Trans) : jO w (ts ++ [t]) = zaE (jO w ts) t := by unfold jO; rw [List.foldl_append]; rfl
theorem zbb (w h : Nat) (t : Trans) (r : List Trans) (l : List Px) : undoAll w h (t :: r) l = t.undo w h (undoAll (zaE w t) h r l) := by cases t <;> rfl
def yP (w h : Nat) (ts : List Trans) (l : List Px) (j : Nat) : List Px := undoAll (jO w (ts.take j)) h (ts.drop j) l
theorem qU (w h : Nat) (ts : List Trans) (l : List Px) : yP w h ts l 0 = undoAll w h ts l := rfl
theorem jM (w h : Nat) (ts : List Trans) (l : List Px) : yP w h ts l ts.length = l := by unfold yP; rw [List.drop_length]; rfl
theorem qT {w h : Nat} {ts : List Trans} {l : List Px} {j : Nat} {t : Trans} (e : ts[j]? = some t) : yP w h ts l j = t.undo (jO w (ts.take j)) h (yP w h ts l (j + 1)) := by
  obtain ⟨hj, et⟩ := List.getElem?_eq_some_iff.mp e
  unfold yP
  rw [List.drop_eq_getElem_cons hj, et, zbb, List.take_succ_eq_append_getElem hj, et, qW]
def qH : Trans -> Prop
  | .table c => ∀ p ∈ c, yf p
  | _ => True
theorem zig {t : Trans} {w h : Nat} {l : List Px} (hl : l.length = zaE w t * h) : (t.undo w h l).length = w * h := by
  cases t with
  | predict k m => show (unpredict k w m [] l).length = _; rw [xF, List.length_nil, Nat.zero_add]; exact hl
  | cross k f => show (uncross k w f l).length = _; rw [vq]; exact hl
  | green => show (l.map _).length = _; rw [List.length_map]; exact hl
  | table c => rw [zdh, List.length_map, List.length_range]
theorem zli {t : Trans} {w h : Nat} {l : List Px} (ht : qH t) (hl : ∀ p ∈ l, yf p) : ∀ p ∈ t.undo w h l, yf p := by
  cases t with
  | predict k m =>
    show ∀ p ∈ unpredict k w m [] l, yf p
    rw [<- zfz]
    exact zji k w m l _ (Nat.le_refl _)
  | cross k f => exact zel hl
  | green =>
    intro p hp
    obtain ⟨q, hq, rfl⟩ := List.mem_map.mp hp
    exact zdJ (hl q hq)
  | table c =>
    intro p hp
    rw [zdh] at hp
    obtain ⟨q, hq, rfl⟩ := List.mem_map.mp hp
    exact zhH ht
theorem xQ {w h : Nat} {ts : List Trans} {l : List Px} (ht : ∀ t ∈ ts, qH t) (hl : l.length = jO w ts * h) (ho : ∀ p ∈ l, yf p) : ∀ (n j : Nat), j + n = ts.length -> (yP w h ts l j).length = jO w (ts.take j) * h /\ ∀ p ∈ yP w h ts l j, yf p
  | 0, j, e => by
    have e' : j = ts.length := e
    subst e'
    rw [jM, List.take_length]
    exact ⟨hl, ho⟩
  | n + 1, j, e => by
    have hj : j < ts.length := by omega
    obtain ⟨h1, h2⟩ := xQ ht hl ho n (j + 1) (by omega)
    have e1 : ts[j]? = some ts[j] := List.getElem?_eq_getElem hj
    rw [qT e1]
    refine ⟨zig ?_, zli (ht _ (List.getElem_mem hj)) h2⟩
    rw [h1, List.take_succ_eq_append_getElem hj, qW]
theorem j9 : ∀ (s : Px) (l : List Px), (sums s l).length = l.length
  | _, [] => rfl
  | s, p :: r => by show (sums _ r).length + 1 = _; rw [j9 _ r]; rfl
theorem ze7 : ∀ (s : Px) (l : List Px), ∀ p ∈ sums s l, yf p
  | _, [], p, hp => by cases hp
  | s, q :: r, p, hp => by
    rcases List.mem_cons.mp hp with e | e
    . rw [e]; exact zcM _ _
    . exact ze7 _ r p e
def zaF (s : Px) (l : List Px) : Px := l.foldl add s
theorem zbd : ∀ (s : Px) (l : List Px) (p : Px), sums s (l ++ [p]) = sums s l ++ [add (zaF s l) p]
  | s, [], p => rfl
  | s, q :: r, p => by show add s q :: sums (add s q) (r ++ [p]) = _; rw [zbd (add s q) r p]; rfl
theorem zd7 (s : Px) (l : List Px) (p : Px) : zaF s (l ++ [p]) = add (zaF s l) p := by unfold zaF; rw [List.foldl_append]; rfl
theorem zcZ : ∀ (l : List Px) (s : Px), yf s -> yf (zaF s l)
  | [], _, h => h
  | q :: r, s, h => zcZ r (add s q) (zcM _ _)
def zcU (w h : Nat) : D (Nat × List Px) := y1 w h >>= fun m => need (xm m.2) >>= fun _ => pure m
def zcO : D (Nat × List Px) := bits 8 >>= fun q => qS (q + 1) 1 >>= fun l => pure (q + 1, sums ⟨0, 0, 0, 0⟩ l)
def zdO (kd w h : Nat) : D (Trans × Nat) := if kd = 0 then zcU w h >>= fun m => pure (.predict m.1 m.2, w) else if kd = 1 then y1 w h >>= fun m => pure (.cross m.1 m.2, w) else if kd = 2 then pure (.green, w) else zcO >>= fun z => pure (.table z.2, up w (2 ^ packedBits z.1))
def kJ (h n : Nat) (had : List Nat) (w : Nat) (acc : List Trans) : D (List Trans × Nat) := qe h n had w >>= fun r => pure (acc ++ r.1, r.2)
theorem zd2 (h n : Nat) (had : List Nat) (w : Nat) : kJ h n had w [] = qe h n had w := by
  unfold kJ
  simp only [List.nil_append]
  exact zcf _
theorem zb0 (h n : Nat) (had : List Nat) (w : Nat) (acc : List Trans) : kJ h (n + 1) had w acc = (bits 1 >>= fun u => if u = 1 then bits 2 >>= fun kd => need (!had.contains kd) >>= fun _ => zdO kd w h >>= fun t => kJ h n (kd :: had) t.2 (acc ++ [t.1]) else pure (acc, w)) := by
  unfold kJ
  show ((bits 1 >>= fun u => if u = 0 then pure ([], w) else _) >>= _) = _
  rw [zK]
  apply ju
  intro u bs bs' hu
  have hu2 : u < 2 := qB hu
  by_cases h0 : u = 0
  . rw [if_pos h0, if_neg (by omega), zq, List.append_nil]
  . rw [if_neg h0, if_pos (by omega), zK]
    congr 1
    funext kd
    rw [zK]
    congr 1
    funext _
    unfold zdO zcU zcO
    by_cases k0 : kd = 0
    . rw [if_pos k0, if_pos k0]; simp only [zK, zq, List.append_assoc, List.singleton_append]
    . rw [if_neg k0, if_neg k0]
      by_cases k1 : kd = 1
      . rw [if_pos k1, if_pos k1]; simp only [zK, zq, List.append_assoc, List.singleton_append]
      . rw [if_neg k1, if_neg k1]
        by_cases k2 : kd = 2
        . rw [if_pos k2, if_pos k2]; simp only [zK, zq, List.append_assoc, List.singleton_append]
        . rw [if_neg k2, if_neg k2]; simp only [zK, zq, List.append_assoc, List.singleton_append]
end Lk
end
section
namespace Lk
open Sn15
def xl (b : List Nat) : Prop := ¬ (b.length < 21 \/ b.take 4 ≠ [82, 73, 70, 70] \/ (b.drop 8).take 8 ≠ [87, 69, 66, 80, 86, 80, 56, 76] \/ four b 4 ≠ 12 + four b 16 + four b 16 % 2 \/
  b.length ≠ 20 + four b 16 + four b 16 % 2 \/ b.getD 20 0 ≠ 0x2F \/ (four b 16 % 2 = 1 /\ b.getD (20 + four b 16) 0 ≠ 0))
instance (b : List Nat) : Decidable (xl b) := by unfold xl; infer_instance
def yy (b : List Nat) : List Nat := (b.drop 21).take (four b 16 - 1)
theorem zdM (b : List Nat) : Sn15.read b = if xl b then (jb (bitsOf (yy b))).map (fun x => x.1) else none := by
  by_cases h : xl b
  . rw [if_pos h, <- zeo]
    unfold xl at h
    show (if _ then none else _) = _
    rw [if_neg h]
    rfl
  . rw [if_neg h]
    have h' := Classical.not_not.mp h
    show (if _ then none else _) = _
    rw [if_pos h']
abbrev zlO := (Nat × Nat × Nat) × (List Trans × List Px)
def wx : D zlO := do
  let s <- zbZ
  if MOSTELEMENTS < s.1 * s.2.1 then return (s, ([], [])) else do
    let b <- ziV s.1 s.2.1
    return (s, b)
def zay (c : zlO) : List Px := if c.1.2.2 = 1 then undoAll c.1.1 c.1.2.1 c.2.1 c.2.2 else (undoAll c.1.1 c.1.2.1 c.2.1 c.2.2).map fun p => { p with a := 255 }
def jJ (c : zlO) : Picture := ⟨c.1.1, c.1.2.1, if MOSTELEMENTS < c.1.1 * c.1.2.1 then [] else zay c⟩
theorem zby : jb = (wx >>= fun c => pure (jJ c)) := by
  unfold jb wx
  rw [zK]
  congr 1
  funext s
  by_cases h : MOSTELEMENTS < s.1 * s.2.1
  . rw [if_pos h, if_pos h, zq]
    unfold jJ
    rw [if_pos h]
  . rw [if_neg h, if_neg h, zK]
    congr 1
    funext b
    rw [zq]
    unfold jJ
    rw [if_neg h]
    rfl
def y8 (b : List Nat) : Option zlO := if xl b then (wx (bitsOf (yy b))).map (fun x => x.1) else none
theorem zg5 (b : List Nat) : Sn15.read b = (y8 b).map jJ := by
  rw [zdM]
  unfold y8
  by_cases h : xl b
  . rw [if_pos h, if_pos h, zby, zJ]
    cases wx (bitsOf (yy b)) <;> rfl
  . rw [if_neg h, if_neg h]; rfl
def znm (b : List Nat) : List Int := match y8 b with
  | none => [-3]
  | some c => if MOSTELEMENTS < c.1.1 * c.1.2.1 then [-4] else [0, (c.1.1 : Int), (c.1.2.1 : Int)]
def vd (l : List Px) : List Nat := l.flatMap fun x => [x.r, x.g, x.b, x.a]
def yY (most : Int) (b : List Nat) : List Int := if most < 0 \/ 4194304 < most then [-2] else match y8 b with
  | none => [-3]
  | some c => if MOSTELEMENTS < c.1.1 * c.1.2.1 then [-4] else if most < ((4 * (c.1.1 * c.1.2.1) : Nat) : Int) then [-1] else ((4 * (c.1.1 * c.1.2.1) : Nat) : Int) :: (vd (zay c)).map fun (n : Nat) => (n : Int)
theorem zhJ (most : Int) (data : List Int) (hl : data.length <= 100000) : PySn15.read most data = yY most (data.map Int.toNat) := by
  unfold PySn15.read Sn15Neutral.f Sn15Neutral.callOf
  simp only []
  unfold Sn15Answer.answered Sn15Neutral.nats
  simp only []
  unfold yY
  by_cases hm : most < 0 \/ 4194304 < most
  . rw [if_pos hm, if_pos (by unfold MOSTROOM; omega)]; rfl
  . rw [if_neg hm, if_neg (by unfold MOST MOSTROOM; omega), zg5]
    cases y8 (data.map Int.toNat) with
    | none => rfl
    | some c =>
      simp only [Option.map_some]
      by_cases h : MOSTELEMENTS < c.1.1 * c.1.2.1
      . rw [if_pos h, if_pos (show MOSTELEMENTS < (jJ c).width * (jJ c).height from h)]; rfl
      . rw [if_neg h, if_neg (show ¬ MOSTELEMENTS < (jJ c).width * (jJ c).height from h)]
        have e : (4 : Int) * (((jJ c).width * (jJ c).height : Nat) : Int) = ((4 * (c.1.1 * c.1.2.1) : Nat) : Int) := by
          show (4 : Int) * ((c.1.1 * c.1.2.1 : Nat) : Int) = _
          omega
        by_cases hr : most < ((4 * (c.1.1 * c.1.2.1) : Nat) : Int)
        . rw [if_pos hr, if_pos (by rw [e]; exact hr)]; rfl
        . rw [if_neg hr, if_neg (by rw [e]; exact hr)]
          show _ :: Sn15Neutral.ints ((jJ c).elements.flatMap _) = _
          have e2 : (jJ c).elements = zay c := by unfold jJ; dsimp only; rw [if_neg h]
          rw [e2]
          rfl
end Lk
end
section
namespace Lk
open Sn15
theorem jq {N x : Nat} (p : Nat -> Bool) (hp : ∀ s, p s = true ↔ s = x) (h : x < N) : (List.range N).filter p = [x] := by
  obtain ⟨k, rfl⟩ : ∃ k, N = x + (1 + k) := ⟨N - x - 1, by omega⟩
  rw [List.range_add, List.filter_append, List.range_add, List.map_append, List.filter_append]
  have e1 : (List.range x).filter p = [] := by
    rw [List.filter_eq_nil_iff]
    intro i hi q
    have := List.mem_range.mp hi
    have := (hp i).mp q
    omega
  have e2 : List.filter p (List.map (fun y => x + y) (List.range 1)) = [x] := by
    show List.filter p [x + 0] = [x]
    rw [List.filter_cons, if_pos ((hp (x + 0)).mpr rfl)]; rfl
  have e3 : List.filter p (List.map (fun y => x + y) (List.map (fun y => 1 + y) (List.range k))) = [] := by
    rw [List.filter_eq_nil_iff]
    intro i hi q
    obtain ⟨j, hj, rfl⟩ := List.mem_map.mp hi
    obtain ⟨m, _, rfl⟩ := List.mem_map.mp hj
    have := (hp _).mp q
    omega
  rw [e1, e2, e3]; rfl
theorem vK {N x y : Nat} (p : Nat -> Bool) (hp : ∀ s, p s = true ↔ (s = x \/ s = y)) (hxy : x < y) (h : y < N) : (List.range N).filter p = [x, y] := by
  obtain ⟨k, rfl⟩ : ∃ k, N = (x + 1) + k := ⟨N - x - 1, by omega⟩
  rw [List.range_add, List.filter_append]
  have e1 : (List.range (x + 1)).filter p = [x] := by
    have := jq (N := x + 1) (x := x) (fun s => p s && decide (s = x)) (fun s => by rw [Bool.and_eq_true, hp, decide_eq_true_iff]; omega) (by omega)
    rw [<- this]
    apply List.filter_congr
    intro i hi
    have := List.mem_range.mp hi
    by_cases e : i = x
    . simp [e]
    . have : p i = false := by
        cases q : p i with
        | false => rfl
        | true => have := (hp i).mp q; omega
      simp [this]
  have e2 : List.filter p (List.map (fun z => x + 1 + z) (List.range k)) = [y] := by
    rw [List.filter_map]
    have := jq (N := k) (x := y - x - 1) (p ∘ fun z => x + 1 + z) (fun s => by
      simp only [Function.comp]
      rw [hp]
      omega) (by omega)
    rw [this]
    simp; omega
  rw [e1, e2]; rfl
theorem qv (size a : Nat) : (jN size a).length = size := by unfold jN; simp
theorem jy (size a b : Nat) : (xk size a b).length = size := by unfold xk; simp
theorem zdG {size a s : Nat} (h : s < size) : (jN size a).getD s 0 = if s = a then 1 else 0 := by
  unfold jN
  rw [List.getD_eq_getElem?_getD, List.getElem?_map, List.getElem?_range h]; rfl
theorem wm {size a b s : Nat} (h : s < size) : (xk size a b).getD s 0 = if s = a \/ s = b then 1 else 0 := by
  unfold xk
  rw [List.getD_eq_getElem?_getD, List.getElem?_map, List.getElem?_range h]; rfl
theorem xp {N : Nat} {p q : Nat -> Bool} (h : ∀ s, s < N -> p s = q s) : (List.range N).filter p = (List.range N).filter q :=
  List.filter_congr fun s hs => h s (List.mem_range.mp hs)
theorem vn {size a : Nat} (h : a < size) : symbol (jN size a) = pure a := by
  apply xj
  rw [qv]
  rw [xp (q := fun s => decide (s = a)) fun s hs => by rw [zdG hs]; by_cases e : s = a <;> simp [e]]
  exact jq _ (fun s => by simp) h
theorem zbL {size a b : Nat} (ha : a < size) (hb : b < size) (h : a ≠ b) : zR (xk size a b) 1 = [min a b, max a b] := by
  unfold zR
  rw [jy]
  rw [xp (q := fun s => decide (s = a \/ s = b)) fun s hs => by rw [wm hs]; by_cases e : s = a \/ s = b <;> simp [e]]
  by_cases hab : a < b
  . rw [Nat.min_eq_left (Nat.le_of_lt hab), Nat.max_eq_right (Nat.le_of_lt hab)]
    exact vK _ (fun s => by simp) hab hb
  . have hba : b < a := by omega
    rw [Nat.min_eq_right (Nat.le_of_lt hba), Nat.max_eq_left (Nat.le_of_lt hba)]
    exact vK _ (fun s => by simp; omega) hba ha
theorem ja {size a b : Nat} (ha : a < size) (hb : b < size) (h : a ≠ b) : symbol (xk size a b) = (bits 1 >>= zaB [[min a b, max a b]]) := by
  have e := zbL ha hb h
  rw [qh]
  . apply ju
    intro r bs bs' hr
    have hr2 : r < 2 := yk hr
    show zaB (zR (xk size a b) 1 :: zQ _ 2 14) r = zaB ([min a b, max a b] :: []) r
    rw [e]
    have : ∃ s, ([min a b, max a b] : List Nat)[r]? = some s := ⟨_, List.getElem?_eq_getElem (by simpa using hr2)⟩
    obtain ⟨s, hs⟩ := this
    unfold zaB
    rw [hs]
  . intro s hs
    have q : ((List.range (xk size a b).length).filter fun s => (xk size a b).getD s 0 != 0).length = 2 := by
      have : ((List.range (xk size a b).length).filter fun s => (xk size a b).getD s 0 != 0) = zR (xk size a b) 1 := by
        unfold zR
        apply List.filter_congr
        intro i hi
        have hi := List.mem_range.mp hi
        rw [jy] at hi
        rw [wm hi]
        by_cases e : i = a \/ i = b <;> simp [e]
      rw [this, e]; rfl
    rw [hs] at q
    simp at q
theorem bind_some {α β : Type} {m : D α} {f : α -> D β} {bs bs' : List Bool} {b : β} (h : (m >>= f) bs = some (b, bs')) : ∃ a bs1, m bs = some (a, bs1) /\ f a bs1 = some (b, bs') := by
  rw [zJ] at h
  cases hm : m bs with
  | none => rw [hm] at h; cases h
  | some x => rw [hm] at h; exact ⟨x.1, x.2, rfl, h⟩
theorem qc {c : Bool} {bs bs' : List Bool} {u : Unit} (h : need c bs = some (u, bs')) : c = true /\ bs' = bs := by
  rw [zjp] at h
  split at h
  . rename_i hc; cases h; exact ⟨hc, rfl⟩
  . cases h
theorem qO {c : Code} {size : Nat} : ∀ (n most last : Nat) (l r : List Nat) (bs bs' : List Bool), l.length <= size -> lengths c size n most last l bs = some (r, bs') -> r.length = size
  | 0, _, _, _, _, _, _, _, h => by cases h
  | n + 1, most, last, l, r, bs, bs', hl, h => by
    by_cases he : size <= l.length \/ most = 0
    . rw [xE c size n most last l he] at h
      cases h
      simp; omega
    . rw [qj c size n most last l (by omega) (by omega)] at h
      obtain ⟨s, bs1, _, h⟩ := bind_some h
      split at h
      . exact qO n _ _ _ r bs1 bs' (by simp; omega) h
      . obtain ⟨k, bs2, _, h⟩ := bind_some h
        obtain ⟨_, bs3, hn, h⟩ := bind_some h
        have hn := of_decide_eq_true (qc hn).1
        exact qO n _ _ _ r bs3 bs' (by rw [List.length_append, List.length_replicate]; exact hn) h
theorem zg8 {size : Nat} {c : Code} {bs bs' : List Bool} (h : zaQ size bs = some (c, bs')) : c.length = size := by
  unfold zaQ at h
  obtain ⟨t, bs1, _, h⟩ := bind_some h
  split at h
  . unfold wc at h
    obtain ⟨two, bs2, _, h⟩ := bind_some h
    obtain ⟨long, bs3, _, h⟩ := bind_some h
    obtain ⟨a, bs4, _, h⟩ := bind_some h
    obtain ⟨_, bs5, _, h⟩ := bind_some h
    split at h
    . obtain ⟨b, bs6, _, h⟩ := bind_some h
      obtain ⟨_, bs7, _, h⟩ := bind_some h
      cases h
      exact jy _ _ _
    . cases h
      exact qv _ _
  . obtain ⟨l, bs2, hl, h⟩ := bind_some h
    obtain ⟨_, bs3, _, h⟩ := bind_some h
    cases h
    unfold qX at hl
    obtain ⟨c', bs4, _, hl⟩ := bind_some hl
    obtain ⟨most, bs5, _, hl⟩ := bind_some hl
    exact qO _ _ _ _ _ _ _ (Nat.zero_le _) hl
theorem zfC : ∀ (ord l r : List Nat) (bs bs' : List Bool), (∀ n ∈ l, n <= 15) -> zcC ord l bs = some (r, bs') -> r.length = l.length /\ ∀ n ∈ r, n <= 15
  | [], l, r, bs, bs', hl, h => by cases h; exact ⟨rfl, hl⟩
  | s :: ord, l, r, bs, bs', hl, h => by
    obtain ⟨k, bs1, hk, h⟩ := bind_some (m := bits 3) (f := fun k => zcC ord (l.set s k)) h
    have hk8 : k < 8 := yk hk
    obtain ⟨h1, h2⟩ := zfC ord (l.set s k) r bs1 bs' (fun n hn => by
      rcases List.mem_or_eq_of_mem_set hn with q | q
      . exact hl n q
      . omega) h
    exact ⟨by rw [h1, List.length_set], h2⟩
end Lk
end
section
namespace L2
open PySem PySem.Spec PyProof.Rows
abbrev Key := Sum Int Str
def zmI : Key -> Value -> Bool
  | .inl k, v => Value.isInt k v
  | .inr x, v => Value.isStrOf x v
def zoe (w : World) : Key -> Int
  | .inl k => hashInt k
  | .inr x => hashStr w x
theorem yt : ∀ {k : Key} {v : Value}, zmI k v = true -> (∃ i t, k = Sum.inl i /\ v = Value.int i t) \/ (∃ x t, k = Sum.inr x /\ v = Value.str x t)
  | .inl i, v, h => by
    obtain ⟨t, e⟩ := Value.isInt_shape (k := i) (v := v) h
    exact .inl ⟨i, t, rfl, e⟩
  | .inr x, v, h => by
    obtain ⟨t, e⟩ := Value.isStrOf_shape (x := x) (v := v) h
    exact .inr ⟨x, t, rfl, e⟩
theorem zmF (a b : Int) : decide ((Sum.inl a : Key) = Sum.inl b) = (a == b) := by
  by_cases e : a = b
  . subst e; simp
  . have h : ¬ (Sum.inl a : Key) = Sum.inl b := fun q => e (Sum.inl.inj q)
    rw [decide_eq_false h]
    exact (beq_eq_false_iff_ne.mpr e).symm
theorem zmm (a b : Str) : decide ((Sum.inr a : Key) = Sum.inr b) = decide (a = b) := by
  by_cases e : a = b
  . subst e; simp
  . have h : ¬ (Sum.inr a : Key) = Sum.inr b := fun q => e (Sum.inr.inj q)
    rw [decide_eq_false h, decide_eq_false e]
theorem zlZ (a : Int) (b : Str) : decide ((Sum.inl a : Key) = Sum.inr b) = false := decide_eq_false (fun q => nomatch q)
theorem zmL (a : Str) (b : Int) : decide ((Sum.inr a : Key) = Sum.inl b) = false := decide_eq_false (fun q => nomatch q)
def zhk (prog : Program) (w : World) : PySem.KeyKind prog w Key where
  is := zmI
  hash := zoe w
  inj := fun v a b ha hb => by
    rcases yt ha with ⟨i, t, rfl, rfl⟩ | ⟨x, t, rfl, rfl⟩
    . rcases yt hb with ⟨j, u, rfl, e⟩ | ⟨y, u, rfl, e⟩
      . injection e with e1 _; rw [e1]
      . exact nomatch e
    . rcases yt hb with ⟨j, u, rfl, e⟩ | ⟨y, u, rfl, e⟩
      . exact nomatch e
      . injection e with e1 _; rw [e1]
  byValue := fun k v h => by
    rcases yt h with ⟨i, t, rfl, rfl⟩ | ⟨x, t, rfl, rfl⟩ <;> rfl
  pyHash := fun hv h => by
    rcases yt hv with ⟨i, t, rfl, rfl⟩ | ⟨x, t, rfl, rfl⟩
    . exact wpAny_pyHash_int h
    . exact wpAny_pyHash_str h
  eqBool := fun hu hv h => by
    rcases yt hu with ⟨i, t, rfl, rfl⟩ | ⟨x, t, rfl, rfl⟩
    . rcases yt hv with ⟨j, u, rfl, rfl⟩ | ⟨y, u, rfl, rfl⟩
      . rw [zmF] at h; exact wpAny_eqBool_int h
      . rw [zlZ] at h; exact SeqAt.EqAt.int_str i t y u _ _ _ _ h
    . rcases yt hv with ⟨j, u, rfl, rfl⟩ | ⟨y, u, rfl, rfl⟩
      . rw [zmL] at h; exact SeqAt.EqAt.str_int x t j u _ _ _ _ h
      . rw [zmm] at h; exact wpAny_eqBool_str h
  «strs» := fun k x t v h => by
    rcases yt h with ⟨i, u, rfl, e⟩ | ⟨y, u, rfl, e⟩
    . exact nomatch e
    . injection e with e1 _
      subst e1
      cases v <;> rfl
end L2
namespace L2
open PySem PySem.Spec PyProof.Rows
inductive V where
  | non | bl (b : Bool) | int (i : Int) | str (x : Str) | byt (b : Array UInt8) | flt (b : UInt64) | ref (a : Addr) | ty (n : String)
  deriving DecidableEq
def yq : V -> Value -> Prop
  | .non, u => u = Value.none
  | .bl b, u => u = Value.bool b
  | .int i, u => ∃ t, u = Value.int i t
  | .str x, u => ∃ t, u = Value.str x t
  | .byt b, u => ∃ t, u = Value.bytes b t
  | .flt b, u => ∃ t, u = Value.float b t
  | .ref a, u => u = Value.ref a
  | .ty n, u => u = Value.type n
abbrev yx : List V -> List Value -> Prop := Paired yq
theorem yx.length {xs : List V} {us : List Value} (r : yx xs us) : xs.length = us.length := Paired.length r
theorem yx.get : ∀ {xs : List V} {us : List Value} {i : Nat} {x : V}, yx xs us -> xs[i]? = some x -> ∃ u, us[i]? = some u /\ yq x u
  | _, _, _, _, .nil, e => by simp at e
  | _, _, 0, _, .cons r _, e => by simp at e; subst e; exact ⟨_, rfl, r⟩
  | _, _, i + 1, x, .cons _ t, e => by
    obtain ⟨u, h1, h2⟩ := yx.get (i := i) (x := x) t (by simpa using e)
    exact ⟨u, by simpa using h1, h2⟩
theorem yx.set {x : V} {u : Value} (r : yq x u) : ∀ {xs : List V} {us : List Value} (i : Nat), yx xs us -> yx (xs.set i x) (us.set i u)
  | _, _, _, .nil => .nil
  | _, _, 0, .cons _ t => .cons r t
  | _, _, i + 1, .cons q t => .cons q (yx.set r i t)
theorem yx.append : ∀ {xs ys : List V} {us ws : List Value}, yx xs us -> yx ys ws -> yx (xs ++ ys) (us ++ ws)
  | _, _, _, _, .nil, s => s
  | _, _, _, _, .cons r t, s => .cons r (yx.append t s)
theorem yx.take : ∀ {xs : List V} {us : List Value} (n : Nat), yx xs us -> yx (xs.take n) (us.take n)
  | _, _, 0, _ => .nil
  | _, _, _ + 1, .nil => .nil
  | _, _, n + 1, .cons r t => .cons r (yx.take n t)
theorem yx.drop : ∀ {xs : List V} {us : List Value} (n : Nat), yx xs us -> yx (xs.drop n) (us.drop n)
  | _, _, 0, r => r
  | _, _, _ + 1, .nil => .nil
  | _, _, n + 1, .cons _ t => yx.drop n t
def zht : Option V -> Option Value -> Prop
  | some v, some u => yq v u
  | none, none => True
  | _, _ => False
def KV {κ : Type} : List (κ × V) -> List (κ × Value) -> Prop := Paired fun (p : κ × V) (q : κ × Value) => p.1 = q.1 /\ yq p.2 q.2
def kV : Key -> V
  | .inl i => .int i
  | .inr x => .str x
inductive HO where
  | lst (xs : List V)
  | tup (xs : List V)
  | dK (kvs : List (Key × V)) | dT (kvs : List (List Key × V))
  | set (S : Int -> Bool) (n : Nat)
  | ins (C dx : Addr) (fs : List (Str × V))
  | own (x : Addr)
  | xd (fs : List (Str × V))
  | met (f x : Addr)
  | rng (lo hi : Int)
  | frz (o : Obj) (u : HO)
  | tbl (ps : Array Value)
  | ext (φ : Heap -> Prop)
abbrev Hp := Addr -> Option HO
def upd (H : Hp) (a : Addr) (o : HO) : Hp := fun b => if b = a then some o else H b
theorem zc {H : Hp} {a : Addr} {o : HO} : upd H a o a = some o := by unfold upd; rw [if_pos rfl]
theorem zk {H : Hp} {a b : Addr} {o : HO} (h : b ≠ a) : upd H a o b = H b := by unfold upd; rw [if_neg h]
theorem y6 {H : Hp} {a b : Addr} {o u : HO} (h : H a = some o) (h' : H b = some u) (d : o ≠ u) : a ≠ b := by
  intro e; subst e; rw [h] at h'; exact d (Option.some.inj h')
theorem zd {H : Hp} {a b : Addr} {o : HO} (h : H a = some o) (h' : H b = none) : a ≠ b := by
  intro e; subst e; rw [h] at h'; cases h'
section
variable (P : Program) (w : World)
def qo (H : Hp) (h : Heap) (a : Addr) : HO -> Prop
  | .lst xs => xs.length <= sizeLine /\ ∃ (its : List Value) (n : Nat), yx xs its /\ h.get? a = some { cls := .type "list", data := .seq its.toArray n }
  | .tup xs => xs.length <= sizeLine /\ ∃ its : List Value, yx xs its /\ IsTup h a its.toArray
  | .dK kvs => kvs.length <= sizeLine /\ (a == sysModules) = false /\ ∃ vs, KV kvs vs /\ h.DictOf (zhk P w) a vs
  | .dT kvs => kvs.length <= sizeLine /\ (a == sysModules) = false /\ ∃ xs : List (List Key × Addr × Value),
      Paired (fun (p : List Key × V) (q : List Key × Addr × Value) => p.1 = q.1 /\ H q.2.1 = some (.tup (p.1.map kV)) /\ yq p.2 q.2.2) kvs xs /\
      ∃ o es ep, h.get? a = some o /\ o.ExactDict /\ o.data = .dict es ep /\ es.toList = xs.map (entryOfKey (tupleKind (zhk P w))) /\ (xs.map (·.1)).Nodup
  | .set S n => h.SetOf (intKind P w) a S n
  | .ins C dx fs => H dx = some (.own a) /\ fs.length <= 1000 /\ dx ≠ a /\ h.get? a = some (PySem.W.instObj C dx) /\
      ∃ mA, h.Ns1 dx mA /\ (∀ f, zht (fs.lookup f) (mA f)) /\ PySem.Within mA (fs.map (·.1))
  | .own _ => ∃ o, h.get? a = some o
  | .xd fs => ∃ mA, h.Ns1 a mA /\ ∀ f, zht (fs.lookup f) (mA f)
  | .rng lo hi => ∃ t u v, h.get? a = some { cls := .type "range", data := .fields #[.int lo t, .int hi u, .int 1 v] }
  | .frz o u => h.get? a = some o /\ qo H h a u
  | .tbl ps => h.get? a = some { cls := .none, data := .fields ps }
  | .met f x => h.get? a = some (PySem.W.methodObj (.ref f) (.ref x))
  | .ext φ => φ h /\ (∃ o, h.get? a = some o) /\ ∀ h1 h2 : Heap, φ h1 -> (∀ o, h1.get? a = some o -> h2.get? a = some o) -> φ h2
def HOk (H : Hp) (h : Heap) : Prop := ∀ a o, H a = some o -> qo P w H h a o
end
section
variable {P : Program} {w : World} {H H' : Hp} {h h' : Heap} {a : Addr} {o : HO}
theorem qo.lt (x : qo P w H h a o) : a < h.objs.size := by
  cases o with
  | lst xs => obtain ⟨_, _, _, _, e⟩ := x; exact Heap.lt_size e
  | tup xs => obtain ⟨_, _, _, p⟩ := x; exact p.lt
  | dK kvs => obtain ⟨_, _, _, _, o, _, _, e, _⟩ := x; exact Heap.lt_size e
  | dT kvs => obtain ⟨_, _, _, _, o, _, _, e, _⟩ := x; exact Heap.lt_size e
  | set S n => obtain ⟨o, _, _, _, e, _⟩ := x; exact Heap.lt_size e
  | ins C dx fs => obtain ⟨_, _, _, e, _⟩ := x; exact Heap.lt_size e
  | own y => obtain ⟨_, e⟩ := x; exact Heap.lt_size e
  | xd fs => obtain ⟨_, ⟨_, _, _, e, _⟩, _⟩ := x; exact Heap.lt_size e
  | rng lo hi => obtain ⟨_, _, _, e⟩ := x; exact Heap.lt_size e
  | frz ob u => obtain ⟨e, _⟩ := x; exact Heap.lt_size e
  | tbl ps => exact Heap.lt_size (show h.get? a = some _ from x)
  | met f y => exact Heap.lt_size (show h.get? a = some _ from x)
  | ext φ => obtain ⟨_, ⟨_, e⟩, _⟩ := x; exact Heap.lt_size e
theorem Paired.mapP {α β : Type} {F G : α -> β -> Prop} : ∀ {l₁ : List α} {l₂ : List β}, Paired F l₁ l₂ -> (∀ a b, F a b -> G a b) -> Paired G l₁ l₂
  | _, _, .nil, _ => .nil
  | _, _, .cons r t, f => .cons (f _ _ r) (Paired.mapP t f)
theorem qo.stay (x : qo P w H h a o) (k : ∀ b u, (b = a \/ H b = some (.own a)) -> h.get? b = some u -> h'.get? b = some u)
    (ho : ∀ b, H b = some (.own a) -> H' b = some (.own a)) (ht : ∀ b xs, H b = some (.tup xs) -> H' b = some (.tup xs)) : qo P w H' h' a o := by
  induction o with
  | lst xs => obtain ⟨z, its, n, r, e⟩ := x; exact ⟨z, its, n, r, k _ _ (.inl rfl) e⟩
  | tup xs => obtain ⟨z, its, r, ob, e, c⟩ := x; exact ⟨z, its, r, ob, k _ _ (.inl rfl) e, c⟩
  | dK kvs => obtain ⟨z, y, vs, r, ob, es, ep, e, c⟩ := x; exact ⟨z, y, vs, r, ob, es, ep, k _ _ (.inl rfl) e, c⟩
  | dT kvs =>
    obtain ⟨z, y, xs, r, ob, es, ep, e, c⟩ := x
    exact ⟨z, y, xs, Paired.mapP r fun p q z => ⟨z.1, ht _ _ z.2.1, z.2.2⟩, ob, es, ep, k _ _ (.inl rfl) e, c⟩
  | set S n => obtain ⟨ob, es, ep, t, e, c⟩ := x; exact ⟨ob, es, ep, t, k _ _ (.inl rfl) e, c⟩
  | ins C dx fs =>
    obtain ⟨d, z, ne, e, mA, ⟨od, es, ep, e2, c⟩, r⟩ := x
    exact ⟨ho _ d, z, ne, k _ _ (.inl rfl) e, mA, ⟨od, es, ep, k _ _ (.inr d) e2, c⟩, r⟩
  | own y => obtain ⟨ob, e⟩ := x; exact ⟨ob, k _ _ (.inl rfl) e⟩
  | xd fs => obtain ⟨mA, ⟨od, es, ep, e, c⟩, r⟩ := x; exact ⟨mA, ⟨od, es, ep, k _ _ (.inl rfl) e, c⟩, r⟩
  | rng lo hi => obtain ⟨t, u, v, e⟩ := x; exact ⟨t, u, v, k _ _ (.inl rfl) e⟩
  | frz ob u ih => obtain ⟨e, q⟩ := x; exact ⟨k _ _ (.inl rfl) e, ih q⟩
  | tbl ps =>
    have e : h.get? a = some { cls := .none, data := .fields ps } := x
    show h'.get? a = some { cls := .none, data := .fields ps }
    exact k a _ (.inl rfl) e
  | met f y =>
    have e : h.get? a = some (PySem.W.methodObj (.ref f) (.ref y)) := x
    show h'.get? a = some (PySem.W.methodObj (.ref f) (.ref y))
    exact k a _ (.inl rfl) e
  | ext φ => obtain ⟨p, ⟨o, e⟩, st⟩ := x; exact ⟨st _ _ p fun o q => k _ _ (.inl rfl) q, ⟨o, k _ _ (.inl rfl) e⟩, st⟩
theorem HOk.lt (x : HOk P w H h) (e : H a = some o) : a < h.objs.size := (x a o e).lt
theorem HOk.fresh (x : HOk P w H h) (e : h.objs.size <= a) : H a = none := by
  cases q : H a with
  | none => rfl
  | some u => exact absurd (Nat.lt_of_lt_of_le (x.lt q) e) (Nat.lt_irrefl _)
theorem HOk.kept (x : HOk P w H h) (k : ∀ b u, h.get? b = some u -> h'.get? b = some u) : HOk P w H h' := fun a o e =>
  (x a o e).stay (fun b u _ q => k b u q) (fun _ q => q) fun _ _ q => q
theorem HOk.laid (x : HOk P w H h) (k : ∀ b u, h.get? b = some u -> h'.get? b = some u) (hp : h.objs.size <= a) (new : qo P w (upd H a o) h' a o) : HOk P w (upd H a o) h' := fun b u e => by
  have hn := x.fresh hp
  by_cases hb : b = a
  . subst hb; rw [zc] at e; cases e; exact new
  . rw [zk hb] at e
    exact (x b u e).stay (fun c v _ q => k c v q) (fun c q => by rw [zk (zd q hn)]; exact q) fun c xs q => by rw [zk (zd q hn)]; exact q
end
def Rd (H : Hp) (a : Addr) (u : HO) : Prop := H a = some u \/ ∃ o, H a = some (.frz o u)
theorem Rd.ok {P : Program} {w : World} {H : Hp} {h : Heap} {a : Addr} {u : HO} (r : Rd H a u) (x : HOk P w H h) : qo P w H h a u := by
  rcases r with r | ⟨o, r⟩
  . exact x a u r
  . obtain ⟨_, q⟩ := x a _ r
    exact q
def Mut : Option HO -> Prop
  | some (.lst _) => True
  | some (.dK _) => True
  | some (.dT _) => True
  | some (.set _ _) => True
  | some (.ins _ _ _) => True
  | some (.ext _) => True
  | _ => False
section
variable {P : Program} {w : World} {H : Hp} {h h' : Heap} {x e : Addr} {o' : HO}
theorem HOk.write (ok : HOk P w H h) (mu : Mut (H x)) (he : e = x \/ H e = some (.own x)) (k : ∀ b u, b ≠ e -> h.get? b = some u -> h'.get? b = some u) (heo : ∃ u, h'.get? e = some u)
    (new : qo P w (upd H x o') h' x o') : HOk P w (upd H x o') h' := fun b u q => by
  have nown : ∀ c y, H c = some (.own y) -> c ≠ x := fun c y r z => by subst z; rw [r] at mu; exact mu
  have ntup : ∀ c xs, H c = some (.tup xs) -> c ≠ x := fun c xs r z => by subst z; rw [r] at mu; exact mu
  by_cases hb : b = x
  . subst hb; rw [zc] at q; cases q; exact new
  . rw [zk hb] at q
    by_cases hbe : b = e
    . have q' : H b = some (.own x) := by
        rcases he with z | z
        . exact absurd (hbe.trans z) hb
        . rw [hbe]; exact z
      rw [q] at q'; cases q'
      obtain ⟨v, hv⟩ := heo
      exact ⟨v, by rw [hbe]; exact hv⟩
    . refine (ok b u q).stay (fun c v hc r => k c v ?_ r) (fun c r => by rw [zk (nown c b r)]; exact r) fun c xs r => by rw [zk (ntup c xs r)]; exact r
      rcases hc with rfl | hc
      . exact hbe
      . rintro rfl
        rcases he with z | z
        . exact nown c b hc z
        . rw [hc] at z; cases z; exact hb rfl
end
structure Un (fs ex : List Addr) (H H' : Hp) (h h' : Heap) : Prop where
  keep : ∀ b o, h.get? b = some o -> H b = none -> b ∉ fs -> b ∉ ex -> h'.get? b = some o
  slot : ∀ b o, h.get? b = some o -> H b = none -> b ∈ fs -> b ∉ ex -> ∃ sl, h'.get? b = some { o with slots := sl }
  free : ∀ b o, h.get? b = some o -> H b = none -> b ∉ ex -> H' b = none
  there : ∀ b o, h.get? b = some o -> b ∉ ex -> ∃ o', h'.get? b = some o'
  tups : ∀ b xs, H b = some (.tup xs) -> H' b = some (.tup xs)
  frzs : ∀ b o u, H b = some (.frz o u) -> H' b = some (.frz o u)
  tbls : ∀ b ps, H b = some (.tbl ps) -> ∃ more, H' b = some (.tbl (ps ++ more))
section
variable {fs fs' ex ex' : List Addr} {H H1 H2 : Hp} {h h1 h2 h' : Heap} {a x e : Addr} {o : HO}
theorem Un.any (u : Un fs ex H H1 h h1) {b : Addr} {ob : Obj} (q : h.get? b = some ob) (n : H b = none) (hx : b ∉ ex) : ∃ sl, h1.get? b = some { ob with slots := sl } := by
  by_cases hb : b ∈ fs
  . exact u.slot b ob q n hb hx
  . exact ⟨ob.slots, u.keep b ob q n hb hx⟩
theorem Un.kept (k : ∀ b u, h.get? b = some u -> h'.get? b = some u) : Un fs ex H H h h' :=
  ⟨fun b ob q _ _ _ => k b ob q, fun b ob q _ _ _ => ⟨ob.slots, k b ob q⟩, fun _ _ _ n _ => n, fun b ob q _ => ⟨ob, k b ob q⟩, fun _ _ q => q, fun _ _ _ q => q, fun _ ps q => ⟨#[], by rw [q]; simp⟩⟩
theorem Un.refl : Un fs ex H H h h := Un.kept fun _ _ q => q
theorem Un.laid (k : ∀ b u, h.get? b = some u -> h'.get? b = some u) (hp : h.objs.size <= a) (hn : H a = none) : Un fs ex H (upd H a o) h h' where
  keep := fun b u q _ _ _ => k b u q
  slot := fun b u q _ _ _ => ⟨u.slots, k b u q⟩
  free := fun b u q n _ => by rw [zk (Nat.ne_of_lt (Nat.lt_of_lt_of_le (Heap.lt_size q) hp))]; exact n
  there := fun b u q _ => ⟨u, k b u q⟩
  tups := fun b xs q => by rw [zk (zd q hn)]; exact q
  frzs := fun b u xs q => by rw [zk (zd q hn)]; exact q
  tbls := fun b ps q => ⟨#[], by rw [zk (zd q hn), q]; simp⟩
theorem Un.write (mu : Mut (H x)) (he : e = x \/ H e = some (.own x)) (k : ∀ b u, b ≠ e -> h.get? b = some u -> h'.get? b = some u) (heo : ∃ u, h'.get? e = some u) : Un fs ex H (upd H x o) h h' := by
  have hx : ∀ b, H b = none -> b ≠ x := fun b n z => by subst z; rw [n] at mu; exact mu
  have hb : ∀ b, H b = none -> b ≠ e := fun b n z => by
    subst z
    rcases he with r | r
    . exact hx b n r
    . rw [n] at r; cases r
  have hm : ∀ b u, H b = some u -> ¬ Mut (some u) -> b ≠ x := fun b u q nm z => by subst z; rw [q] at mu; exact nm mu
  refine ⟨fun b u q n _ _ => k b u (hb b n) q, fun b u q n _ _ => ⟨u.slots, k b u (hb b n) q⟩, fun b u q n _ => by rw [zk (hx b n)]; exact n, fun b u q _ => ?_,
    fun b xs q => by rw [zk (hm b _ q fun z => z)]; exact q, fun b u xs q => by rw [zk (hm b _ q fun z => z)]; exact q, fun b ps q => ⟨#[], by rw [zk (hm b _ q fun z => z), q]; simp⟩⟩
  by_cases hbe : b = e
  . subst hbe; exact heo
  . exact ⟨u, k b u hbe q⟩
end
def trk (h : Heap) (H : Hp) : List Addr := (List.range h.objs.size).filter fun a => (H a).isSome
def zhW (h : Heap) (H : Hp) : Heap := PySem.W.hideAll h (trk h H)
theorem ze2 (h : Heap) (H : Hp) : (zhW h H).objs.size = h.objs.size := PySem.W.hideAll_size _ _
theorem ziR {h : Heap} {H : Hp} {b : Addr} {o : Obj} (e : h.get? b = some o) (n : H b = none) : (zhW h H).get? b = some o :=
  PySem.W.hideAll_get _ e fun hm => by
    have q : (H b).isSome = true := (List.mem_filter.mp hm).2
    rw [n] at q; simp at q
theorem zlI {h : Heap} {H : Hp} {b : Addr} {o : Obj} (e : (zhW h H).get? b = some o) : h.get? b = some o /\ H b = none := by
  have e' : h.get? b = some o := PySem.W.of_hideAll (trk h H) e
  refine ⟨e', ?_⟩
  cases q : H b with
  | none => rfl
  | some x =>
    have hm : b ∈ trk h H := List.mem_filter.mpr ⟨List.mem_range.mpr (Heap.lt_size e'), by simp [q]⟩
    have z : (zhW h H).get? b = none := PySem.W.hideAll_none (trk h H) hm
    rw [z] at e; cases e
end L2
namespace L2
open PySem PySem.Spec PyProof.Rows
structure Mod (K : PySem.W.Frag) (mg : Str -> Option Value) (base : Heap) : Prop where
  kin : K.In base
  glob : base.Ns mainGlobals mg
  blt : ∃ mb, base.Ns builtinsNs mb /\ ∀ x : Str, x ≠ "__name__" -> mb x = bootBuiltins x
  nolimit : base.NoLimit
structure Cx where
  prog : Program
  w : World
  K : PySem.W.Frag
  mg : Str -> Option Value
  base : Heap
  A : Around
  N : List Str
  s_0 : Shared
  H_0 : Hp
  env : Env
  outer : List Env
  stack : List Env
  ex : List Addr
  fn : Str -> Bool
  calm : Bool
  pn : List (Addr × Obj)
  xe : Value -> Shared -> Prop
def frs (l : List Env) : List Addr := l.filterMap (·.frame)
abbrev Cx.fs (X : Cx) : List Addr := frs X.outer
def Vis (sc : Scope) (x : Str) : Prop := sc.names.lookup x = some .local \/ sc.names.lookup x = some .cell \/ sc.names.lookup x = some .free
def Loc (sc : Scope) (x : Str) : Prop := sc.names.lookup x = some .local \/ sc.names.lookup x = some .cell
def zn9 (env : Env) (h : Heap) (m : Str -> Option Value) (x : Str) (u : Value) : Prop :=
  (env.kindOf x = some .local /\ m x = some u) \/ ((env.kindOf x = some .cell \/ env.kindOf x = some .free) /\ ∃ c, env.cells.lookup x = some c /\ h.IsCell c (some u))
structure Cx.Ok (X : Cx) : Prop where
  mod : Mod X.K X.mg X.base
  kind : X.env.scope.kind = .function
  glob : X.env.globals = mainGlobals
  blt : X.env.builtins = builtinsNs
  above : X.s_0.heap.objs.size <= X.env.locals
  inj : ∀ x y c, X.env.cells.lookup x = some c -> X.env.cells.lookup y = some c -> x = y
  has : ∀ x, (X.env.kindOf x = some .cell \/ X.env.kindOf x = some .free) -> ∃ c, X.env.cells.lookup x = some c
  cab : ∀ x c, X.fn x = true -> X.env.cells.lookup x = some c -> X.s_0.heap.objs.size <= c
  hd : X.calm = true -> X.A.handled = none
  frames : X.A.frames = some X.stack
  stk : X.stack = X.outer \/ (X.stack = X.env :: X.outer /\ X.env.frame = some X.env.locals)
  exf : ∀ b ∈ X.ex, b ≠ X.env.locals /\ ∀ x c, X.env.cells.lookup x = some c -> c ≠ b
  bs : ∀ b o, X.base.get? b = some o -> X.s_0.heap.get? b = some o /\ X.H_0 b = none
  bsz : X.base.objs.size <= X.s_0.heap.objs.size
  noex : ∀ b o, X.base.get? b = some o -> b ∉ X.ex
  exfs : ∀ b ∈ X.ex, b ∉ X.fs
  funs : X.s_0.heap.FunFrames X.base X.outer
  frf : ∀ b ∈ X.fs, X.H_0 b = none
structure Inv (X : Cx) (pins : List (Addr × Obj)) (σ : List (Option V)) (H : Hp) (s : Shared) : Prop where
  ok : X.Ok
  os : s.os = X.s_0.os
  bare : AllBare s.gens
  base : Un X.fs X.ex X.H_0 H X.s_0.heap s.heap
  loc : ∃ m, s.heap.Ns X.env.locals m /\ ∀ (i : Nat) (x : Str) (v : V), X.N[i]? = some x -> σ[i]? = some (some v) -> Vis X.env.scope x -> ∃ u, yq v u /\ zn9 X.env s.heap m x u
  cell : ∀ x c, X.env.cells.lookup x = some c -> ∃ v, s.heap.IsCell c v
  free : H X.env.locals = none
  freeC : ∀ x c, X.env.cells.lookup x = some c -> H c = none
  pin : ∀ p ∈ X.pn ++ pins, s.heap.get? p.1 = some p.2 /\ H p.1 = none /\ p.1 ≠ X.env.locals /\ p.1 ∉ X.fs /\ ∀ v, p.2.data ≠ .cell v
  hok : HOk X.prog X.w H s.heap
  len : σ.length = X.N.length
section
variable {X : Cx} {pins : List (Addr × Obj)} {σ : List (Option V)} {H H' : Hp} {s : Shared} {h' : Heap}
theorem Cx.Ok.nofr (ok : X.Ok) {b : Addr} {o : Obj} (e : X.base.get? b = some o) : b ∉ X.fs := fun hb => by
  have := (ok.funs.mem hb).1
  rw [e] at this; cases this
theorem Inv.bs (I : Inv X pins σ H s) : ∀ b o, X.base.get? b = some o -> s.heap.get? b = some o /\ H b = none := fun b o e =>
  ⟨I.base.keep b o (I.ok.bs b o e).1 (I.ok.bs b o e).2 (I.ok.nofr e) (I.ok.noex b o e), I.base.free b o (I.ok.bs b o e).1 (I.ok.bs b o e).2 (I.ok.noex b o e)⟩
theorem Inv.bk (I : Inv X pins σ H s) : ∀ b o, X.base.get? b = some o -> s.heap.get? b = some o := fun b o e => (I.bs b o e).1
theorem Inv.mod (I : Inv X pins σ H s) : Mod X.K X.mg X.base := I.ok.mod
theorem Inv.kIn (I : Inv X pins σ H s) : X.K.In s.heap := I.ok.mod.kin.keeps I.bk
theorem Inv.fr (I : Inv X pins σ H s) : ∃ m, Fr X.base X.env.locals s.heap m :=
  let ⟨m, hn, _⟩ := I.loc
  ⟨m, hn, I.bk, Nat.le_trans I.ok.bsz I.ok.above⟩
theorem Inv.lt (I : Inv X pins σ H s) : X.env.locals < s.heap.objs.size := let ⟨_, hn, _⟩ := I.loc; hn.lt
theorem Inv.sz (I : Inv X pins σ H s) : X.s_0.heap.objs.size <= s.heap.objs.size := Nat.le_trans I.ok.above (Nat.le_of_lt I.lt)
theorem Inv.nofs (I : Inv X pins σ H s) {a : Addr} (h : s.heap.objs.size <= a) : a ∉ X.fs := fun hb => by
  obtain ⟨_, o, ho, _⟩ := I.ok.funs.mem hb
  exact absurd (Nat.lt_of_lt_of_le (Heap.lt_size ho) (Nat.le_trans I.sz h)) (Nat.lt_irrefl _)
theorem Inv.cne (I : Inv X pins σ H s) : ∀ x c, X.env.cells.lookup x = some c -> c ≠ X.env.locals := fun x c e z => by
  obtain ⟨v, o, ho, hd⟩ := I.cell x c e
  obtain ⟨m, ⟨o', es, ep, ho', hd', _⟩, _⟩ := I.loc
  rw [z, ho'] at ho; cases ho; rw [hd'] at hd; cases hd
theorem Inv.funs (I : Inv X pins σ H s) : s.heap.FunFrames X.base X.outer := by
  have all : ∀ (l : List Env), (∀ b ∈ frs l, b ∈ X.fs) -> X.s_0.heap.FunFrames X.base l -> s.heap.FunFrames X.base l := by
    intro l
    induction l with
    | nil => intro _ _; trivial
    | cons env r ih =>
      intro hs hl
      obtain ⟨hk, ⟨L, o, hf, hn, ho, hd⟩, hr⟩ := hl
      have hL : L ∈ X.fs := hs L (by unfold frs; rw [List.filterMap_cons, hf]; exact List.mem_cons_self)
      obtain ⟨sl, e⟩ := I.base.slot L o ho (I.ok.frf L hL) hL fun z => I.ok.exfs L z hL
      exact ⟨hk, ⟨L, _, hf, hn, e, hd⟩, ih (fun b hb => hs b (by unfold frs; rw [List.filterMap_cons, hf]; exact List.mem_cons_of_mem _ hb)) hr⟩
  exact all X.outer (fun _ hb => hb) I.ok.funs
theorem Inv.stack (I : Inv X pins σ H s) : s.heap.FunFrames X.base X.stack := by
  rcases I.ok.stk with e | ⟨e, hf⟩
  . rw [e]; exact I.funs
  . rw [e]
    obtain ⟨m, hn, _⟩ := I.loc
    refine .cons (by rw [I.ok.kind]; decide) hf hn ?_ I.funs
    exact Heap.get?_none_of_le (Nat.le_trans I.ok.bsz I.ok.above)
theorem Inv.stkSub (I : Inv X pins σ H s) : ∀ b ∈ frs X.stack, b ∈ X.env.locals :: X.fs := fun b hb => by
  rcases I.ok.stk with e | ⟨e, hf⟩
  . rw [e] at hb; exact List.mem_cons_of_mem _ hb
  . rw [e] at hb
    unfold frs at hb
    rw [List.filterMap_cons, hf] at hb
    exact hb
theorem Inv.stkFree (I : Inv X pins σ H s) : ∀ b ∈ frs X.stack, H b = none := fun b hb => by
  rcases List.mem_cons.mp (I.stkSub b hb) with e | hb
  . rw [e]; exact I.free
  . obtain ⟨_, o, ho, _⟩ := I.ok.funs.mem hb
    exact I.base.free b o ho (I.ok.frf b hb) fun z => I.ok.exfs b z hb
theorem Inv.step {g' : Array GenState} {t' : Nat} {d' : Drawn} {ch : List Addr} (I : Inv X pins σ H s)
    (hch : ∀ b ∈ ch, (b ∈ X.ex \/ X.s_0.heap.objs.size <= b) /\ b ≠ X.env.locals /\ (∀ x c, X.env.cells.lookup x = some c -> c ≠ b) /\ ∀ p ∈ X.pn ++ pins, p.1 ≠ b)
    (keep : ∀ b o, b ≠ X.env.locals -> b ∉ X.fs -> b ∉ ch -> s.heap.get? b = some o -> H b = none -> h'.get? b = some o)
    (slot : ∀ b o, b ≠ X.env.locals -> b ∈ X.fs -> b ∉ ch -> s.heap.get? b = some o -> H b = none -> ∃ sl, h'.get? b = some { o with slots := sl }) (free : ∀ b o, b ∉ ch -> s.heap.get? b = some o -> H b = none -> H' b = none)
    (there : ∀ b o, b ∉ ch -> s.heap.get? b = some o -> ∃ o', h'.get? b = some o')
    (tups : ∀ b xs, H b = some (.tup xs) -> H' b = some (.tup xs)) (frzs : ∀ b o u, H b = some (.frz o u) -> H' b = some (.frz o u)) (tbls : ∀ b ps, H b = some (.tbl ps) -> ∃ more, H' b = some (.tbl (ps ++ more)))
    (ns : ∀ m, s.heap.Ns X.env.locals m -> h'.Ns X.env.locals m) (hok : HOk X.prog X.w H' h') (hg : AllBare g') :
    Inv X pins σ H' { s with heap := h', gens := g', drawn := d', toks := t' } := by
  have neL : ∀ b o, X.s_0.heap.get? b = some o -> b ≠ X.env.locals := fun b o e => Nat.ne_of_lt (Nat.lt_of_lt_of_le (Heap.lt_size e) I.ok.above)
  have neC : ∀ b o, X.s_0.heap.get? b = some o -> b ∉ X.ex -> b ∉ ch := fun b o e hx hb => by
    rcases (hch b hb).1 with z | z
    . exact hx z
    . exact absurd (Nat.lt_of_lt_of_le (Heap.lt_size e) z) (Nat.lt_irrefl _)
  have cellK : ∀ x c, X.env.cells.lookup x = some c -> ∀ v, s.heap.IsCell c v -> h'.IsCell c v := fun x c e v ⟨o, ho, hd⟩ => by
    have nch : c ∉ ch := fun z => (hch c z).2.2.1 x c e rfl
    by_cases hc : c ∈ X.fs
    . obtain ⟨sl, q⟩ := slot c o (I.cne x c e) hc nch ho (I.freeC x c e)
      exact ⟨_, q, hd⟩
    . exact ⟨o, keep c o (I.cne x c e) hc nch ho (I.freeC x c e), hd⟩
  refine ⟨I.ok, I.os, hg, ⟨fun b o e n hb hx => ?_, fun b o e n hb hx => ?_, fun b o e n hx => ?_, fun b o e hx => ?_, fun b xs e => tups b xs (I.base.tups b xs e), fun b o xs e => frzs b o xs (I.base.frzs b o xs e), fun b ps e => ?_⟩, ?_, fun x c e => ?_, ?_, fun x c e => ?_, fun p hp => ?_, hok, I.len⟩
  . exact keep b o (neL b o e) hb (neC b o e hx) (I.base.keep b o e n hb hx) (I.base.free b o e n hx)
  . obtain ⟨sl, e1⟩ := I.base.slot b o e n hb hx
    obtain ⟨sl', e2⟩ := slot b _ (neL b o e) hb (neC b o e hx) e1 (I.base.free b o e n hx)
    exact ⟨sl', e2⟩
  . obtain ⟨o', e1⟩ := I.base.there b o e hx
    exact free b o' (neC b o e hx) e1 (I.base.free b o e n hx)
  . obtain ⟨o', e1⟩ := I.base.there b o e hx
    exact there b o' (neC b o e hx) e1
  . obtain ⟨m1, e1⟩ := I.base.tbls b ps e
    obtain ⟨m2, e2⟩ := tbls b _ e1
    exact ⟨m1 ++ m2, by rw [e2, Array.append_assoc]⟩
  . obtain ⟨m, hn, hl⟩ := I.loc
    refine ⟨m, ns m hn, fun i x v e1 e2 e3 => ?_⟩
    obtain ⟨u, r, l⟩ := hl i x v e1 e2 e3
    refine ⟨u, r, ?_⟩
    rcases l with l | ⟨k, c, e, z⟩
    . exact .inl l
    . exact .inr ⟨k, c, e, cellK x c e _ z⟩
  . obtain ⟨v, z⟩ := I.cell x c e
    exact ⟨v, cellK x c e v z⟩
  . obtain ⟨m, ⟨o, _, _, ho, _⟩, _⟩ := I.loc
    exact free _ o (fun z => (hch _ z).2.1 rfl) ho I.free
  . obtain ⟨v, o, ho, hd⟩ := I.cell x c e
    exact free c o (fun z => (hch c z).2.2.1 x c e rfl) ho (I.freeC x c e)
  . obtain ⟨e, n, ne, nf, d⟩ := I.pin p hp
    have nch : p.1 ∉ ch := fun z => (hch p.1 z).2.2.2 p hp rfl
    exact ⟨keep p.1 p.2 ne nf nch e n, free p.1 p.2 nch e n, ne, nf, d⟩
theorem Inv.un {t' : Nat} (I : Inv X pins σ H s) (u : Un X.fs [] H H' s.heap h') (hok : HOk X.prog X.w H' h') : Inv X pins σ H' { s with heap := h', toks := t' } := by
  obtain ⟨m, ⟨o, es, ep, ho, r⟩, _⟩ := id I.loc
  obtain ⟨sl, hL⟩ := u.any ho I.free (by simp)
  exact I.step (g' := s.gens) (d' := s.drawn) (ch := []) (fun _ z => nomatch z) (fun b o _ hb _ e n => u.keep b o e n hb (by simp)) (fun b o _ hb _ e n => u.slot b o e n hb (by simp)) (fun b o _ e n => u.free b o e n (by simp)) (fun b o _ e => u.there b o e (by simp)) u.tups u.frzs u.tbls (fun m' hm => by
    obtain ⟨o', es', ep', ho', r'⟩ := hm
    rw [ho] at ho'; cases ho'
    exact ⟨_, es', ep', hL, r'⟩) hok I.bare
theorem Inv.call {g' : Array GenState} {t' : Nat} {d' : Drawn} {ch : List Addr} (I : Inv X pins σ H s) (u : Un (frs X.stack) ch H H' s.heap h') (hok : HOk X.prog X.w H' h') (hg : AllBare g')
    (hch : ∀ b ∈ ch, (b ∈ X.ex \/ X.s_0.heap.objs.size <= b) /\ b ≠ X.env.locals /\ (∀ x c, X.env.cells.lookup x = some c -> c ≠ b) /\ ∀ p ∈ X.pn ++ pins, p.1 ≠ b) :
    Inv X pins σ H' { s with heap := h', gens := g', drawn := d', toks := t' } := by
  obtain ⟨m, ⟨o, es, ep, ho, r⟩, _⟩ := id I.loc
  obtain ⟨sl, hL⟩ := u.any ho I.free fun z => (hch _ z).2.1 rfl
  exact I.step (ch := ch) hch (fun b o hL hb hc e n => u.keep b o e n (fun z => (List.mem_cons.mp (I.stkSub b z)).elim hL hb) hc) (fun b o _ _ hc e n => u.any e n hc) (fun b o hc e n => u.free b o e n hc) (fun b o hc e => u.there b o e hc) u.tups u.frzs u.tbls (fun m' hm => by
    obtain ⟨o', es', ep', ho', r'⟩ := hm
    rw [ho] at ho'; cases ho'
    exact ⟨_, es', ep', hL, r'⟩) hok hg
theorem Inv.turned {t' : Nat} {it : Addr} (I : Inv X pins σ H s) (k : ∀ b o, b ≠ it -> s.heap.get? b = some o -> h'.get? b = some o) (hn : H it = none) (hL : it ≠ X.env.locals)
    (h1 : it ∈ X.ex \/ X.s_0.heap.objs.size <= it) (h2 : ∀ x c, X.env.cells.lookup x = some c -> c ≠ it) (h3 : ∀ p ∈ X.pn ++ pins, p.1 ≠ it) : Inv X pins σ H { s with heap := h', toks := t' } := by
  have nit : ∀ b u, H b = some u -> b ≠ it := fun b u e z => by rw [z, hn] at e; cases e
  refine I.step (g' := s.gens) (d' := s.drawn) (ch := [it]) (fun b hb => ?_) (fun b o _ _ hc e _ => k b o (fun z => hc (by simp [z])) e) (fun b o _ _ hc e _ => ⟨o.slots, k b o (fun z => hc (by simp [z])) e⟩) (fun _ _ _ _ n => n)
    (fun b o hc e => ⟨o, k b o (fun z => hc (by simp [z])) e⟩) (fun _ _ e => e) (fun _ _ _ e => e) (fun b ps e => ⟨#[], by rw [e]; simp⟩) (fun m hm => ?_) (fun b u e => ?_) I.bare
  . have e : b = it := by simpa using hb
    subst e
    exact ⟨h1, hL, h2, h3⟩
  . obtain ⟨o, es, ep, ho, r⟩ := hm
    exact ⟨o, es, ep, k _ o (Ne.symm hL) ho, r⟩
  . refine (I.hok b u e).stay (fun c v hc q => k c v ?_ q) (fun _ q => q) fun _ _ q => q
    rcases hc with z | z
    . rw [z]; exact nit b u e
    . exact nit c _ z
theorem Inv.tok (I : Inv X pins σ H s) (t : Nat) : Inv X pins σ H { s with toks := t } := I.un (h' := s.heap) (t' := t) Un.refl I.hok
theorem Inv.kept {t' : Nat} (I : Inv X pins σ H s) (k : ∀ b u, s.heap.get? b = some u -> h'.get? b = some u) : Inv X pins σ H { s with heap := h', toks := t' } := I.un (Un.kept k) (I.hok.kept k)
theorem Inv.laid {a : Addr} {o : HO} {t' : Nat} (I : Inv X pins σ H s) (k : ∀ b u, s.heap.get? b = some u -> h'.get? b = some u) (hp : s.heap.objs.size <= a) (new : qo X.prog X.w (upd H a o) h' a o) :
    Inv X pins σ (upd H a o) { s with heap := h', toks := t' } := I.un (Un.laid k hp (I.hok.fresh hp)) (I.hok.laid k hp new)
theorem Inv.write {x e : Addr} {o : HO} {t' : Nat} (I : Inv X pins σ H s) (mu : Mut (H x)) (he : e = x \/ H e = some (.own x)) (k : ∀ b u, b ≠ e -> s.heap.get? b = some u -> h'.get? b = some u) (heo : ∃ u, h'.get? e = some u)
    (new : qo X.prog X.w (upd H x o) h' x o) : Inv X pins σ (upd H x o) { s with heap := h', toks := t' } := I.un (Un.write mu he k heo) (I.hok.write mu he k heo new)
theorem Inv.weak {σ' : List (Option V)} (I : Inv X pins σ H s) (hl : σ'.length = σ.length) (w : ∀ (i : Nat) v, σ'[i]? = some (some v) -> σ[i]? = some (some v)) : Inv X pins σ' H s :=
  ⟨I.ok, I.os, I.bare, I.base, let ⟨m, hn, hl'⟩ := I.loc; ⟨m, hn, fun i x v e1 e2 e3 => hl' i x v e1 (w i v e2) e3⟩, I.cell, I.free, I.freeC, I.pin, I.hok, hl.trans I.len⟩
theorem Inv.pins_of {pins' : List (Addr × Obj)} (I : Inv X pins σ H s) (h : ∀ p ∈ pins', s.heap.get? p.1 = some p.2 /\ H p.1 = none /\ p.1 ≠ X.env.locals /\ p.1 ∉ X.fs /\ ∀ v, p.2.data ≠ .cell v) : Inv X pins' σ H s :=
  ⟨I.ok, I.os, I.bare, I.base, I.loc, I.cell, I.free, I.freeC, fun p hp => (List.mem_append.mp hp).elim (fun z => I.pin p (List.mem_append_left _ z)) (h p), I.hok, I.len⟩
theorem w9 {N : List Str} (hN : N.Nodup) {i j : Nat} {x : Str} (a : N[i]? = some x) (b : N[j]? = some x) : i = j := by
  obtain ⟨h1, e1⟩ := List.getElem?_eq_some_iff.mp a
  obtain ⟨h2, e2⟩ := List.getElem?_eq_some_iff.mp b
  exact (List.getElem_inj hN).mp (e1.trans e2.symm)
theorem za6 {M : Model} {A : Around} {E : Value -> Shared -> Prop} {i : Nat} {x : Str} {v : V} {u : Value} {Q : Unit -> Shared -> Prop} (I : Inv X pins σ H s) (hN : X.N.Nodup) (hi : X.N[i]? = some x) (hx : Loc X.env.scope x) (r : yq v u)
    (h : ∀ s', Inv X pins (σ.set i (some v)) H s' -> (∃ a, Heap.SameBut a s.heap s'.heap /\ (a = X.env.locals \/ X.env.cells.lookup x = some a)) -> Q () s') (hf : X.fn x = true \/ X.env.scope.names.lookup x = some .local := by first | exact .inl rfl | exact .inr rfl | assumption) : wpAny M A (storeName X.env x u) Q E s := by
  obtain ⟨m, hn, hl⟩ := id I.loc
  have hcls : (X.env.scope.kind == .class || (X.env.scope.kind == .module && X.env.locals != X.env.globals)) = false := by rw [I.ok.kind]; rfl
  have hiσ : i < σ.length := by rw [I.len]; exact (List.getElem?_eq_some_iff.mp hi).1
  have cne := I.cne
  have tracked : ∀ {a : Addr} {h' : Heap}, (∃ o, s.heap.get? a = some o /\ H a = none) -> Heap.SameBut a s.heap h' -> HOk X.prog X.w H h' := fun {a h'} ha hs b ob e => by
    obtain ⟨_, _, hfree⟩ := ha
    refine (I.hok b ob e).stay (fun c w' hc q => (hs.2 c ?_).trans q) (fun _ q => q) fun _ _ q => q
    rintro rfl
    rcases hc with rfl | hc
    . rw [hfree] at e; cases e
    . rw [hfree] at hc; cases hc
  rcases hx with hk | hk
  . refine wpAny_storeName_local hk hn (fun h' hn' hs => ?_) hcls
    obtain ⟨oL, _, _, hoL, _⟩ := id hn
    refine h _ ⟨I.ok, I.os, I.bare, ⟨fun b o e n hb hx => ?_, fun b o e n hb hx => ?_, I.base.free, fun b o e hx => ?_, I.base.tups, I.base.frzs, I.base.tbls⟩, ⟨_, hn', fun j y v' e1 e2 e3 => ?_⟩, fun y c e => ?_, I.free, I.freeC, fun p hp => ?_, tracked ⟨oL, hoL, I.free⟩ hs, by simpa using I.len⟩ ⟨_, hs, .inl rfl⟩
    . exact (hs.2 b (Nat.ne_of_lt (Nat.lt_of_lt_of_le (Heap.lt_size e) I.ok.above))).trans (I.base.keep b o e n hb hx)
    . obtain ⟨sl, e1⟩ := I.base.slot b o e n hb hx
      exact ⟨sl, (hs.2 b (Nat.ne_of_lt (Nat.lt_of_lt_of_le (Heap.lt_size e) I.ok.above))).trans e1⟩
    . obtain ⟨o', e1⟩ := I.base.there b o e hx
      exact ⟨o', (hs.2 b (Nat.ne_of_lt (Nat.lt_of_lt_of_le (Heap.lt_size e) I.ok.above))).trans e1⟩
    . by_cases hj : j = i
      . subst hj
        rw [hi] at e1; cases e1
        rw [List.getElem?_set_self hiσ] at e2
        cases e2
        exact ⟨u, r, .inl ⟨hk, by simp⟩⟩
      . rw [List.getElem?_set_ne (Ne.symm hj)] at e2
        obtain ⟨u', r', q⟩ := hl j y v' e1 e2 e3
        refine ⟨u', r', ?_⟩
        rcases q with ⟨k, e⟩ | ⟨k, c, e, z⟩
        . refine .inl ⟨k, ?_⟩
          have : y ≠ x := fun e => hj (w9 hN e1 (e ▸ hi))
          simp [this, e]
        . exact .inr ⟨k, c, e, z.sameBut hs (cne y c e)⟩
    . obtain ⟨w', z⟩ := I.cell y c e
      exact ⟨w', z.sameBut hs (cne y c e)⟩
    . obtain ⟨e, n, ne, nf, d⟩ := I.pin p hp
      exact ⟨(hs.2 p.1 ne).trans e, n, ne, nf, d⟩
  . have hfn : X.fn x = true := by
      rcases hf with z | z
      . exact z
      . rw [z] at hk; cases hk
    obtain ⟨c, hc⟩ := I.ok.has x (.inl hk)
    obtain ⟨w', z⟩ := I.cell x c hc
    refine wpAny_storeName_cell I.ok.kind hk hc z (fun h' hc' hs => ?_)
    obtain ⟨oc, hoc, hocd⟩ := id z
    refine h { s with heap := h' } ⟨I.ok, I.os, I.bare, ⟨fun b o e n hb hx => ?_, fun b o e n hb hx => ?_, I.base.free, fun b o e hx => ?_, I.base.tups, I.base.frzs, I.base.tbls⟩, ⟨m, hn.sameBut hs (Ne.symm (cne x c hc)), fun j y v' e1 e2 e3 => ?_⟩, fun y c' e => ?_, I.free, I.freeC, fun p hp => ?_, tracked ⟨oc, hoc, I.freeC x c hc⟩ hs, by simpa using I.len⟩ ⟨c, hs, .inr hc⟩
    . exact (hs.2 b (Nat.ne_of_lt (Nat.lt_of_lt_of_le (Heap.lt_size e) (I.ok.cab x c hfn hc)))).trans (I.base.keep b o e n hb hx)
    . obtain ⟨sl, e1⟩ := I.base.slot b o e n hb hx
      exact ⟨sl, (hs.2 b (Nat.ne_of_lt (Nat.lt_of_lt_of_le (Heap.lt_size e) (I.ok.cab x c hfn hc)))).trans e1⟩
    . obtain ⟨o', e1⟩ := I.base.there b o e hx
      exact ⟨o', (hs.2 b (Nat.ne_of_lt (Nat.lt_of_lt_of_le (Heap.lt_size e) (I.ok.cab x c hfn hc)))).trans e1⟩
    . by_cases hj : j = i
      . subst hj
        rw [hi] at e1; cases e1
        rw [List.getElem?_set_self hiσ] at e2
        cases e2
        exact ⟨u, r, .inr ⟨.inl hk, c, hc, hc'⟩⟩
      . rw [List.getElem?_set_ne (Ne.symm hj)] at e2
        obtain ⟨u', r', q⟩ := hl j y v' e1 e2 e3
        refine ⟨u', r', ?_⟩
        rcases q with q | ⟨k, c', e, z'⟩
        . exact .inl q
        . refine .inr ⟨k, c', e, z'.sameBut hs ?_⟩
          rintro rfl
          exact hj (w9 hN e1 (I.ok.inj _ _ _ e hc ▸ hi))
    . by_cases hcc : c' = c
      . subst hcc; exact ⟨_, hc'⟩
      . obtain ⟨w2, z2⟩ := I.cell y c' e
        exact ⟨w2, z2.sameBut hs hcc⟩
    . obtain ⟨e, n, ne, nf, d⟩ := I.pin p hp
      refine ⟨(hs.2 p.1 ?_).trans e, n, ne, nf, d⟩
      intro q
      rw [q, hoc] at e
      have q' : oc = p.2 := Option.some.inj e
      exact d w' (by rw [<- q']; exact hocd)
theorem wz {M : Model} {A : Around} {E : Value -> Shared -> Prop} {i : Nat} {x : Str} {v : V} {u : Value} {Q : Unit -> Shared -> Prop} (I : Inv X pins σ H s) (hN : X.N.Nodup) (hi : X.N[i]? = some x) (hx : Loc X.env.scope x) (r : yq v u)
    (h : ∀ s', Inv X pins (σ.set i (some v)) H s' -> Q () s') (hf : X.fn x = true \/ X.env.scope.names.lookup x = some .local := by first | exact .inl rfl | exact .inr rfl | assumption) : wpAny M A (storeName X.env x u) Q E s :=
  za6 I hN hi hx r (fun s' I' _ => h s' I') hf
theorem Inv.call' {s' : Shared} {ch : List Addr} (I : Inv X pins σ H s) (ho : s'.os = s.os) (u : Un (frs X.stack) ch H H' s.heap s'.heap) (hok : HOk X.prog X.w H' s'.heap) (hg : AllBare s'.gens)
    (hch : ∀ b ∈ ch, (b ∈ X.ex \/ X.s_0.heap.objs.size <= b) /\ b ≠ X.env.locals /\ (∀ x c, X.env.cells.lookup x = some c -> c ≠ b) /\ ∀ p ∈ X.pn ++ pins, p.1 ≠ b) : Inv X pins σ H' s' := by
  obtain ⟨h', g', d', t', o'⟩ := s'
  have e : o' = s.os := ho
  subst e
  exact I.call (g' := g') (t' := t') (d' := d') u hok hg hch
end
abbrev XK := Value -> Option Addr -> Hp -> Prop
abbrev St := List (Option V)
abbrev VK := V -> Hp -> Prop
abbrev TE := St -> Hp -> VK -> Prop
abbrev TT := St -> Hp -> (Bool -> Hp -> Prop) -> Prop
abbrev TA := St -> Hp -> (List V -> Hp -> Prop) -> Prop
structure zeB where
  nx : St -> Hp -> Prop
  rt : VK
  bk : St -> Hp -> Prop := fun _ _ => False
  ct : St -> Hp -> Prop := fun _ _ => False
abbrev TS := zeB -> St -> Hp -> Prop
def EP (X : Cx) (pins : List (Addr × Obj)) (σ : St) (Q : VK) (u : Value) (s' : Shared) : Prop := ∃ v H', Inv X pins σ H' s' /\ yq v u /\ Q v H'
def TP (X : Cx) (pins : List (Addr × Obj)) (σ : St) (Q : Bool -> Hp -> Prop) (b : Bool) (s' : Shared) : Prop := ∃ H', Inv X pins σ H' s' /\ Q b H'
def AP (X : Cx) (pins : List (Addr × Obj)) (σ : St) (Q : List V -> Hp -> Prop) (us : List Value) (s' : Shared) : Prop := ∃ vs H', Inv X pins σ H' s' /\ yx vs us /\ Q vs H'
def SP (X : Cx) (pins : List (Addr × Obj)) (D : zeB) (f : Flow) (s' : Shared) : Prop :=
  match f with
  | .next => ∃ σ' H', Inv X pins σ' H' s' /\ D.nx σ' H'
  | .brk => ∃ σ' H', Inv X pins σ' H' s' /\ D.bk σ' H'
  | .cont => ∃ σ' H', Inv X pins σ' H' s' /\ D.ct σ' H'
  | .ret u => ∃ v σ' H', Inv X pins σ' H' s' /\ yq v u /\ D.rt v H'
def PE (X : Cx) (e : Expr) (t : TE) : Prop :=
  ∀ (pins : List (Addr × Obj)) (s : Shared) (σ : St) (H : Hp) (Q : VK), Inv X pins σ H s -> t σ H Q -> wpAny (model X.prog X.w) X.A (eval e X.env) (EP X pins σ Q) X.xe s
def PT (X : Cx) (e : Expr) (t : TT) : Prop :=
  ∀ (pins : List (Addr × Obj)) (s : Shared) (σ : St) (H : Hp) (Q : Bool -> Hp -> Prop), Inv X pins σ H s -> t σ H Q -> wpAny (model X.prog X.w) X.A (isTrue e X.env (eval e X.env)) (TP X pins σ Q) X.xe s
def PW (X : Cx) (e : Expr) (t : TT) : Prop :=
  ∀ (whole : Sem Value) (pins : List (Addr × Obj)) (s : Shared) (σ : St) (H : Hp) (Q : Bool -> Hp -> Prop), Inv X pins σ H s -> t σ H Q -> wpAny (model X.prog X.w) X.A (isTrue e X.env whole) (TP X pins σ Q) X.xe s
theorem PW.pt {X : Cx} {e : Expr} {t : TT} (h : PW X e t) : PT X e t := h _
def PA (X : Cx) (es : List Expr) (t : TA) : Prop :=
  ∀ (pos : Pos) (pins : List (Addr × Obj)) (s : Shared) (σ : St) (H : Hp) (Q : List V -> Hp -> Prop), Inv X pins σ H s -> t σ H Q -> wpAny (model X.prog X.w) X.A (spliced (backTo pos (starEach es X.env))) (AP X pins σ Q) X.xe s
def PS (X : Cx) (st : Stmt) (t : TS) : Prop :=
  ∀ (pins : List (Addr × Obj)) (s : Shared) (σ : St) (H : Hp) (D : zeB), Inv X pins σ H s -> t D σ H -> wpAny (model X.prog X.w) X.A (exec st X.env) (SP X pins D) X.xe s
def PSs (X : Cx) (st : List Stmt) (t : TS) : Prop :=
  ∀ (pins : List (Addr × Obj)) (s : Shared) (σ : St) (H : Hp) (D : zeB), Inv X pins σ H s -> t D σ H -> wpAny (model X.prog X.w) X.A (execs st X.env) (SP X pins D) X.xe s
theorem thn {α : Type} {t : Sem α} {Q Q' : α -> Shared -> Prop} {M : Model} {A : Around} {E : Value -> Shared -> Prop} {s : Shared} (h : wpAny M A t Q E s) (hQ : ∀ a s, Q a s -> Q' a s) : wpAny M A t Q' E s := wpAny_mono h hQ fun _ _ x => x
end L2
namespace L2
open PySem PySem.Spec PyProof.Rows
section
variable {X : Cx}
def zlL (i : Nat) : TE := fun σ H Q => ∃ v, σ[i]? = some (some v) /\ Q v H
def tC (v : V) : TE := fun _ H Q => Q v H
theorem zmG {i : Nat} {x : Str} {pos : Pos} (hN : X.N[i]? = some x) (hv : Vis X.env.scope x) (hd : (x == ("__debug__" : Str)) = false := by decide) (hcd : (x == ("__classdict__" : Str)) = false := by decide) : PE X (.Name x pos) (zlL i) := by
  intro pins s σ H Q I h
  obtain ⟨v, e, h⟩ := h
  obtain ⟨m, hn, hl⟩ := I.loc
  obtain ⟨u, r, l⟩ := hl i x v hN e hv
  have fin : EP X pins σ Q u s := ⟨v, H, I, r, h⟩
  rcases l with ⟨hk, hm⟩ | ⟨hk, c, hc, hcell⟩
  . exact wpAny_Name (wpAny_loadName_local I.ok.kind hk hn hm fin) hd
  . rcases hk with hk | hk
    . exact wpAny_Name (wpAny_loadName_cell I.ok.kind hk hc hcell fin) hd
    . exact wpAny_Name (wpAny_loadName_free I.ok.kind hk hc hcell fin hcd) hd
theorem zg {i j pos} : PE X (.Constant (.int i) j pos) (tC (.int i)) := fun _ _ _ H _ I h => wpAny_Constant_int ⟨.int i, H, I.tok _, ⟨_, rfl⟩, h⟩
theorem zc6 {j pos} : PE X (.Constant .none j pos) (tC .non) := fun _ _ _ H _ I h => Constant_none ⟨.non, H, I, rfl, h⟩
theorem zi7 {x j pos} : PE X (.Constant (.str x) j pos) (tC (.str x)) := fun _ _ _ H _ I h => Calls.Constant_str ⟨.str x, H, I.tok _, ⟨_, rfl⟩, h⟩
def Gl (X : Cx) (x : Str) : Prop := X.env.kindOf x = some .globalImplicit
theorem yL {E : Value -> Shared -> Prop} {pins : List (Addr × Obj)} {s : Shared} {σ : St} {H : Hp} {x : Str} {u : Value} {pos : Pos} {Q : Value -> Shared -> Prop} (I : Inv X pins σ H s) (hg : Gl X x) (hm : X.mg x = some u) (h : Q u s)
    (hd : (x == ("__debug__" : Str)) = false := by decide) : wpAny (model X.prog X.w) X.A (eval (.Name x pos) X.env) Q E s :=
  Calls.Name_function_global I.ok.kind hg (Calls.loadGlobal_global (by rw [I.ok.glob]; exact I.mod.glob.keeps I.bk) hm h) hd
theorem vV {E : Value -> Shared -> Prop} {pins : List (Addr × Obj)} {s : Shared} {σ : St} {H : Hp} {x : Str} {u : Value} {pos : Pos} {Q : Value -> Shared -> Prop} (I : Inv X pins σ H s) (hg : Gl X x) (hm : X.mg x = none) (hv : bootBuiltins x = some u) (h : Q u s)
    (hn : x ≠ "__name__" := by decide) (hd : (x == ("__debug__" : Str)) = false := by decide) : wpAny (model X.prog X.w) X.A (eval (.Name x pos) X.env) Q E s := by
  obtain ⟨mb, h1, h2⟩ := I.mod.blt
  exact Calls.Name_function_global I.ok.kind hg (Calls.loadGlobal_builtin (by rw [I.ok.glob]; exact I.mod.glob.keeps I.bk) hm (by rw [I.ok.blt]; exact h1.keeps I.bk) ((h2 x hn).trans hv) h) hd
theorem zH {x : Str} {v : V} {u : Value} {pos : Pos} (hg : Gl X x) (hm : X.mg x = some u) (r : yq v u) (hd : (x == ("__debug__" : Str)) = false := by decide) : PE X (.Name x pos) (tC v) :=
  fun _ _ _ H _ I h => yL I hg hm ⟨v, H, I, r, h⟩ hd
variable {a b : Expr} {ta tb : TE} {pos : Pos}
def PC (X : Cx) (op : CmpOp) (a b : Expr) (t : TE) : Prop :=
  ∀ (pins : List (Addr × Obj)) (s : Shared) (σ : St) (H : Hp) (Q : VK), Inv X pins σ H s -> t σ H Q ->
    wpAny (model X.prog X.w) X.A (eval a X.env) (fun v s₁ => wpAny (model X.prog X.w) X.A (eval b X.env) (fun u s₂ => wpAny (model X.prog X.w) X.A (compareOp op v u) (EP X pins σ Q) X.xe s₂) X.xe s₁) X.xe s
theorem ziA (b : Expr) {op : CmpOp} (h : op ≠ .In) (h2 : op ≠ .NotIn) : behindInMarks op b = false := by
  have e1 : (op == CmpOp.In) = false := by cases op <;> first | rfl | exact absurd rfl h
  have e2 : (op == CmpOp.NotIn) = false := by cases op <;> first | rfl | exact absurd rfl h2
  cases b <;> simp [behindInMarks, e1, e2]
def zoq (ta : TE) : TE := fun σ H Q => ta σ H fun x H1 => Q (.bl (decide (x = .non))) H1
def zmJ (ta : TE) : TE := fun σ H Q => ta σ H fun x H1 => Q (.bl (!decide (x = .non))) H1
theorem yq.none_iff {x : V} {v : Value} (r : yq x v) : (v == Value.none) = decide (x = .non) := by
  cases x with
  | non => cases r; rfl
  | bl _ => cases r; rfl
  | int _ => obtain ⟨t, rfl⟩ := r; rfl
  | str _ => obtain ⟨t, rfl⟩ := r; rfl
  | byt _ => obtain ⟨t, rfl⟩ := r; rfl
  | flt _ => obtain ⟨t, rfl⟩ := r; rfl
  | ref _ => cases r; rfl
  | ty _ => cases r; rfl
theorem zl5 {j pos'} (ha : PE X a ta) : PC X .Is a (.Constant .none j pos') (zoq ta) := by
  intro pins s σ H Q I h
  refine thn (ha pins s σ H _ I h) fun v s1 ⟨x, H1, I1, r1, q1⟩ => ?_
  exact Constant_none (is_none_gen ⟨.bl _, H1, I1, by rw [r1.none_iff]; rfl, q1⟩)
theorem zeF {j pos'} (ha : PE X a ta) : PC X .IsNot a (.Constant .none j pos') (zmJ ta) := by
  intro pins s σ H Q I h
  refine thn (ha pins s σ H _ I h) fun v s1 ⟨x, H1, I1, r1, q1⟩ => ?_
  exact Constant_none (isnot_none_gen ⟨.bl _, H1, I1, by rw [r1.none_iff]; rfl, q1⟩)
def tB (t : TE) : TT := fun σ H Q => t σ H fun x H1 => ∃ c, x = .bl c /\ Q c H1
theorem zhi {op : CmpOp} {t : TE} (h : PC X op a b t) (h1 : behindInMarks op b = false := by first | exact ziA _ (by decide) (by decide) | rfl) : PT X (.Compare a [op] [b] pos) (tB t) := by
  intro pins s σ H Q I hw
  refine wpAny_isTrue_Compare1 (thn (h pins s σ H _ I hw) fun v s1 h1 => thn h1 fun u s2 h2 => thn h2 fun c s3 ⟨x, H1, I1, r1, q1⟩ => ?_) h1
  obtain ⟨d, rfl, q⟩ := q1
  cases r1
  exact wpAny_truthy_bool ⟨H1, I1, q⟩
theorem zjd {e : Expr} {t : TE} (h : PE X e t) (he : ∀ whole, isTrue e X.env whole = (do let v <- whole; standAt e.pos; holding [v] (truthy v)) := by intro _; rfl) : PT X e (tB t) := by
  intro pins s σ H Q I hw
  refine isTrue_plain (thn (h pins s σ H _ I hw) fun v s1 ⟨x, H1, I1, r1, q1⟩ => ?_) (he _)
  obtain ⟨d, rfl, q⟩ := q1
  cases r1
  exact wpAny_truthy_bool ⟨H1, I1, q⟩
variable {tA tB' : TT} {rest : List Expr}
def znY (t u : TT) : TT := fun σ H Q => t σ H fun c H1 => if c = true then u σ H1 Q else Q false H1
def tOr (t u : TT) : TT := fun σ H Q => t σ H fun c H1 => if c = true then Q true H1 else u σ H1 Q
def zn8 (t : TT) : TT := fun σ H Q => t σ H fun c H1 => Q (!c) H1
theorem zbT (ha : PT X a tA) : PW X (.BoolOp .And [a] pos) tA := by
  intro wh pins s σ H Q I h
  refine isTrue_and (thn (ha pins s σ H Q I h) fun c s1 e => ?_)
  cases c with
  | true => exact isTrue_and_nil e
  | false => exact e
theorem we (ha : PT X a tA) : PW X (.BoolOp .Or [a] pos) tA := by
  intro wh pins s σ H Q I h
  refine isTrue_or (thn (ha pins s σ H Q I h) fun c s1 e => ?_)
  cases c with
  | false => exact isTrue_or_nil e
  | true => exact e
theorem zfa (ha : PT X a tA) (hb : PW X (.BoolOp .And (b :: rest) pos) tB') : PW X (.BoolOp .And (a :: b :: rest) pos) (znY tA tB') := by
  intro wh pins s σ H Q I h
  refine isTrue_and (thn (ha pins s σ H _ I h) fun c s1 ⟨H1, I1, q1⟩ => ?_)
  cases c with
  | true => exact hb wh pins s1 σ H1 Q I1 q1
  | false => exact ⟨H1, I1, q1⟩
theorem zer (ha : PT X a tA) (hb : PW X (.BoolOp .Or (b :: rest) pos) tB') : PW X (.BoolOp .Or (a :: b :: rest) pos) (tOr tA tB') := by
  intro wh pins s σ H Q I h
  refine isTrue_or (thn (ha pins s σ H _ I h) fun c s1 ⟨H1, I1, q1⟩ => ?_)
  cases c with
  | true => exact ⟨H1, I1, q1⟩
  | false => exact hb wh pins s1 σ H1 Q I1 q1
theorem zmH (ha : PT X a tA) : PT X (.UnaryOp .Not a pos) (zn8 tA) := by
  intro pins s σ H Q I h
  exact isTrue_not (ha pins s σ H (fun c H1 => Q (!c) H1) I h)
def zm7 (ta tb : TE) : TE := fun σ H Q => ta σ H fun x H1 => ∃ c, x = .bl c /\ if c = true then tb σ H1 Q else Q (.bl false) H1
theorem zmk (ha : PE X a ta) (hb : PE X (.BoolOp .And (b :: rest) pos) tb) : PE X (.BoolOp .And (a :: b :: rest) pos) (zm7 ta tb) := by
  intro pins s σ H Q I h
  refine BoolOp_and (thn (ha pins s σ H _ I h) fun v s1 ⟨x, H1, I1, r1, q1⟩ => ?_)
  obtain ⟨c, rfl, q1⟩ := q1
  cases r1
  refine wpAny_truthy_bool ?_
  cases c with
  | true => exact hb pins s1 σ H1 Q I1 q1
  | false => exact ⟨.bl false, H1, I1, rfl, q1⟩
def tIf (t : TT) (ta tb : TE) : TE := fun σ H Q => t σ H fun c H1 => if c = true then ta σ H1 Q else tb σ H1 Q
theorem xP {c : Expr} (hc : PT X c tA) (ha : PE X a ta) (hb : PE X b tb) : PE X (.IfExp c a b pos) (tIf tA ta tb) := by
  intro pins s σ H Q I h
  refine wpAny_IfExp (thn (hc pins s σ H _ I h) fun d s1 ⟨H1, I1, q1⟩ => ?_)
  cases d with
  | true => exact ha pins s1 σ H1 Q I1 q1
  | false => exact hb pins s1 σ H1 Q I1 q1
end
end L2
namespace L2
open PySem PySem.Spec PyProof.Rows
def SqL (K : PySem.W.Frag) (H : Hp) (a : Addr) (xs : List V) : Prop :=
  Rd H a (.lst xs) \/
    ∃ (o : Obj) (its : Array Value) (n : Nat), K.lookup a = some o /\ o.cls = .type "list" /\ o.dict = none /\ o.data = .seq its n /\ its.size <= sizeLine /\ yx xs its.toList
def SqT (K : PySem.W.Frag) (H : Hp) (a : Addr) (xs : List V) : Prop :=
  Rd H a (.tup xs) \/
    ∃ (o : Obj) (its : Array Value) (n : Nat), K.lookup a = some o /\ o.cls = .type "tuple" /\ o.data = .seq its n /\ its.size <= sizeLine /\ yx xs its.toList
def zn5 : Value -> Option V
  | .none => some .non
  | .bool b => some (.bl b)
  | .int i _ => some (.int i)
  | .str x _ => some (.str x)
  | .bytes b _ => some (.byt b)
  | .float b _ => some (.flt b)
  | .ref a => some (.ref a)
  | .type n => some (.ty n)
  | _ => none
theorem yq.abs {x : V} {u : Value} (r : yq x u) : zn5 u = some x := by
  cases x with
  | non => cases r; rfl
  | bl _ => cases r; rfl
  | int _ => obtain ⟨t, rfl⟩ := r; rfl
  | str _ => obtain ⟨t, rfl⟩ := r; rfl
  | byt _ => obtain ⟨t, rfl⟩ := r; rfl
  | flt _ => obtain ⟨t, rfl⟩ := r; rfl
  | ref _ => cases r; rfl
  | ty _ => cases r; rfl
theorem yq.inj {x y : V} {u : Value} (r : yq x u) (q : yq y u) : x = y := Option.some.inj (r.abs.symm.trans q.abs)
theorem yx.inj : ∀ {xs ys : List V} {us : List Value}, yx xs us -> yx ys us -> xs = ys
  | _, _, _, .nil, .nil => rfl
  | _, _, _, .cons r t, .cons r' t' => by rw [r.inj r', yx.inj t t']
section
variable {X : Cx} {pins : List (Addr × Obj)} {σ : St} {H : Hp} {s : Shared} {a : Addr} {xs ys : List V}
theorem SqL.of {K : PySem.W.Frag} (h : H a = some (.lst xs)) : SqL K H a xs := .inl (.inl h)
theorem SqT.of {K : PySem.W.Frag} (h : H a = some (.tup xs)) : SqT K H a xs := .inl (.inl h)
theorem Inv.list (I : Inv X pins σ H s) (h : SqL X.K H a xs) : ∃ its : List Value, yx xs its /\ PlainL s.heap a its.toArray /\ xs.length <= sizeLine := by
  rcases h with h | ⟨o, its, n, hk, hc, hd, hs, hz, r⟩
  . obtain ⟨z, its, n, r, e⟩ := h.ok I.hok
    exact ⟨its, r, ⟨_, n, e, rfl, rfl, rfl⟩, z⟩
  . refine ⟨its.toList, r, ⟨o, n, I.kIn a o hk, hc, hd, by simpa using hs⟩, ?_⟩
    have e := r.length
    simp only [Array.length_toList] at e
    omega
theorem Inv.tuple (I : Inv X pins σ H s) (h : SqT X.K H a xs) : ∃ its : List Value, yx xs its /\ IsTup s.heap a its.toArray /\ xs.length <= sizeLine := by
  rcases h with h | ⟨o, its, n, hk, hc, hs, hz, r⟩
  . obtain ⟨z, its, r, p⟩ := h.ok I.hok
    exact ⟨its, r, p, z⟩
  . refine ⟨its.toList, r, ⟨o, I.kIn a o hk, hc, n, by simpa using hs⟩, ?_⟩
    have e := r.length
    simp only [Array.length_toList] at e
    omega
theorem Inv.list_inj (I : Inv X pins σ H s) (h : SqL X.K H a xs) (h' : SqL X.K H a ys) : xs = ys := by
  obtain ⟨its, r, ⟨o, n, e, _, _, d⟩, _⟩ := I.list h
  obtain ⟨its', r', ⟨o', n', e', _, _, d'⟩, _⟩ := I.list h'
  rw [e] at e'; cases e'
  rw [d] at d'
  injection d' with d1 _
  have : its = its' := by simpa using congrArg Array.toList d1
  subst this
  exact r.inj r'
theorem Inv.tuple_inj (I : Inv X pins σ H s) (h : SqT X.K H a xs) (h' : SqT X.K H a ys) : xs = ys := by
  obtain ⟨its, r, ⟨o, e, _, n, d⟩, _⟩ := I.tuple h
  obtain ⟨its', r', ⟨o', e', _, n', d'⟩, _⟩ := I.tuple h'
  rw [e] at e'; cases e'
  rw [d] at d'
  injection d' with d1 _
  have : its = its' := by simpa using congrArg Array.toList d1
  subst this
  exact r.inj r'
end
abbrev Cx.wish (X : Cx) (E : Value -> Shared -> Prop) : Cx := { X with xe := E }
theorem Cx.Ok.wish {X : Cx} (ok : X.Ok) (E : Value -> Shared -> Prop) : (X.wish E).Ok :=
  ⟨ok.mod, ok.kind, ok.glob, ok.blt, ok.above, ok.inj, ok.has, ok.cab, ok.hd, ok.frames, ok.stk, ok.exf, ok.bs, ok.bsz, ok.noex, ok.exfs, ok.funs, ok.frf⟩
theorem Cx.Ok.unwish {X : Cx} {E : Value -> Shared -> Prop} (ok : (X.wish E).Ok) : X.Ok :=
  ⟨ok.mod, ok.kind, ok.glob, ok.blt, ok.above, ok.inj, ok.has, ok.cab, ok.hd, ok.frames, ok.stk, ok.exf, ok.bs, ok.bsz, ok.noex, ok.exfs, ok.funs, ok.frf⟩
section
variable {X : Cx} {pins : List (Addr × Obj)} {σ : St} {H : Hp} {s : Shared} {E : Value -> Shared -> Prop}
theorem Inv.wish (I : Inv X pins σ H s) (E : Value -> Shared -> Prop) : Inv (X.wish E) pins σ H s := ⟨I.ok.wish E, I.os, I.bare, I.base, I.loc, I.cell, I.free, I.freeC, I.pin, I.hok, I.len⟩
theorem Inv.unwish (I : Inv (X.wish E) pins σ H s) : Inv X pins σ H s := ⟨I.ok.unwish, I.os, I.bare, I.base, I.loc, I.cell, I.free, I.freeC, I.pin, I.hok, I.len⟩
theorem SP.unwish {D : zeB} {f : Flow} {s' : Shared} (h : SP (X.wish E) pins D f s') : SP X pins D f s' := by
  cases f with
  | next => obtain ⟨σ', H', I, q⟩ := h; exact ⟨σ', H', I.unwish, q⟩
  | brk => obtain ⟨σ', H', I, q⟩ := h; exact ⟨σ', H', I.unwish, q⟩
  | cont => obtain ⟨σ', H', I, q⟩ := h; exact ⟨σ', H', I.unwish, q⟩
  | ret u => obtain ⟨v, σ', H', I, r, q⟩ := h; exact ⟨v, σ', H', I.unwish, r, q⟩
end
section
variable {X : Cx} {st : Stmt} {rest : List Stmt} {t u : TS} {e : Expr} {te : TE} {pos : Pos}
def znd : TS := fun D σ H => D.nx σ H
def zn4 (t u : TS) : TS := fun D σ H => t { D with nx := u D } σ H
theorem zI : PSs X [] znd := fun _ _ σ H _ I h => wpAny_execs_nil ⟨σ, H, I, h⟩
theorem zb (h1 : PS X st t) (h2 : PSs X rest u) : PSs X (st :: rest) (zn4 t u) := by
  intro pins s σ H D I h
  refine wpAny_execs_cons (thn (h1 pins s σ H { D with nx := u D } I h) fun f s1 q => ?_)
  cases f with
  | next =>
    obtain ⟨σ', H', I', q⟩ := q
    exact h2 pins s1 σ' H' D I' q
  | ret v => exact q
  | brk => exact q
  | cont => exact q
theorem zf (h1 : PS X st t) : PSs X [st] t := by
  intro pins s σ H D I h
  refine wpAny_execs_cons (thn (h1 pins s σ H D I h) fun f s1 q => ?_)
  cases f with
  | next => exact wpAny_execs_nil q
  | ret v => exact q
  | brk => exact q
  | cont => exact q
theorem Inv.quiet {pins : List (Addr × Obj)} {σ : St} {H : Hp} {s : Shared} (I : Inv X pins σ H s) : interactive X.env = false := by simp [interactive, I.ok.kind]
def znB (te : TE) : TS := fun D σ H => te σ H fun _ H1 => D.nx σ H1
theorem zZ (he : PE X e te) (hs : swapsWith e none pos.line X.env = pure false := by rfl) : PS X (.Expr e pos) (znB te) := by
  intro pins s σ H D I h
  exact wpAny_Expr_any (thn (he pins s σ H _ I h) fun v s1 ⟨x, H1, I1, r1, q1⟩ => ⟨σ, H1, I1, q1⟩) I.quiet hs
def znX (te : TE) : TS := fun D σ H => te σ H D.rt
theorem zr (he : PE X e te) : PS X (.Return (some e) pos) (znX te) := by
  intro pins s σ H D I h
  exact wpAny_Return_some (thn (he pins s σ H _ I h) fun v s1 ⟨x, H1, I1, r1, q1⟩ => ⟨x, σ, H1, I1, r1, q1⟩)
def zoh (c : TT) (t u : TS) : TS := fun D σ H => c σ H fun b H1 => if b = true then t D σ H1 else u D σ H1
theorem yh {c : Expr} {a b : List Stmt} {tc : TT} (hc : PT X c tc) (ha : PSs X a t) (hb : PSs X b u) : PS X (.If c a b pos) (zoh tc t u) := by
  intro pins s σ H D I h
  refine wpAny_If (thn (hc pins s σ H _ I h) fun d s1 ⟨H1, I1, q1⟩ => ?_)
  cases d with
  | true => exact ha pins s1 σ H1 D I1 q1
  | false => exact hb pins s1 σ H1 D I1 q1
end
abbrev TG := V -> St -> Hp -> (St -> Hp -> Prop) -> Prop
abbrev TGs := List V -> St -> Hp -> (St -> Hp -> Prop) -> Prop
def PG (X : Cx) (target : Expr) (t : TG) : Prop :=
  ∀ (pins : List (Addr × Obj)) (s : Shared) (σ : St) (H : Hp) (v : V) (u : Value) (Q : St -> Hp -> Prop), Inv X pins σ H s -> yq v u -> t v σ H Q ->
    wpAny (model X.prog X.w) X.A (assign target X.env u) (fun _ s' => ∃ σ' H', Inv X pins σ' H' s' /\ Q σ' H') X.xe s
def PGs (X : Cx) (ts : List Expr) (t : TGs) : Prop :=
  ∀ (pins : List (Addr × Obj)) (s : Shared) (σ : St) (H : Hp) (vs : List V) (us : List Value) (Q : St -> Hp -> Prop), Inv X pins σ H s -> yx vs us -> t vs σ H Q ->
    wpAny (model X.prog X.w) X.A (assignInOrder ((assignEach ts X.env).map (·.2)) us) (fun _ s' => ∃ σ' H', Inv X pins σ' H' s' /\ Q σ' H') X.xe s
abbrev znI := V -> V -> V -> Hp -> (Hp -> Prop) -> Prop
def znP (X : Cx) (t : znI) : Prop :=
  ∀ (pins : List (Addr × Obj)) (s : Shared) (σ : St) (H : Hp) (o i v : V) (ov iv u : Value) (Q : Hp -> Prop), Inv X pins σ H s -> yq o ov -> yq i iv -> yq v u -> t o i v H Q ->
    wpAny (model X.prog X.w) X.A (setItem ov iv u) (fun _ s' => ∃ H', Inv X pins σ H' s' /\ Q H') X.xe s
abbrev TIp := V -> V -> Hp -> VK -> Prop
def PIp (X : Cx) (op : Operator) (t : TIp) : Prop :=
  ∀ (pins : List (Addr × Obj)) (s : Shared) (σ : St) (H : Hp) (x y : V) (v u : Value) (Q : VK), Inv X pins σ H s -> yq x v -> yq y u -> t x y H Q ->
    wpAny (model X.prog X.w) X.A (inplaceOp op v u) (EP X pins σ Q) X.xe s
section
variable {X : Cx} {pos : Pos}
def zhl (i : Nat) : TG := fun v σ H Q => Q (σ.set i (some v)) H
theorem z6 {i : Nat} {x : Str} (hN : X.N.Nodup) (hi : X.N[i]? = some x) (hx : Loc X.env.scope x) (hf : X.fn x = true \/ X.env.scope.names.lookup x = some .local := by first | exact .inl rfl | exact .inr rfl | assumption) : PG X (.Name x pos) (zhl i) := by
  intro pins s σ H v u Q I r h
  exact wpAny_assign_Name (wz I hN hi hx r (fun s' I' => ⟨_, H, I', h⟩) hf)
def zn7 : TGs := fun vs σ H Q => vs = [] /\ Q σ H
def znM (t : TG) (u : TGs) : TGs := fun vs σ H Q => ∃ v r, vs = v :: r /\ t v σ H fun σ' H' => u r σ' H' Q
theorem zgZ : PGs X [] zn7 := by
  intro pins s σ H vs us Q I r h
  obtain ⟨e, h⟩ := h
  subst e
  cases r
  exact assignInOrder_nil ⟨σ, H, I, h⟩
theorem j7 {e : Expr} {es : List Expr} {t : TG} {u : TGs} (h1 : PG X e t) (h2 : PGs X es u)
    (hs : (assignEach (e :: es) X.env).map (·.2) = assign e X.env :: (assignEach es X.env).map (·.2) := by rfl) : PGs X (e :: es) (znM t u) := by
  intro pins s σ H vs us Q I r h
  obtain ⟨v, vr, e1, h⟩ := h
  subst e1
  cases r with
  | cons r rr =>
    rw [hs]
    refine assignInOrder_cons (thn (h1 pins s σ H _ _ _ I r h) fun _ s1 ⟨σ1, H1, I1, q1⟩ => ?_)
    exact h2 pins s1 σ1 H1 _ _ Q I1 rr q1
def znT (K : PySem.W.Frag) (n : Nat) (t : TGs) : TG := fun v σ H Q => ∃ a xs, v = .ref a /\ SqT K H a xs /\ xs.length = n /\ t xs σ H Q
theorem zjc {es : List Expr} {k : Nat} {t : TGs} {n : Nat} (hc : X.calm = true) (h : PGs X es t)
    (hn : (assignEach es X.env).length = n := by rfl) (hst : (assignEach es X.env).findIdx? (·.1) = none := by rfl) : PG X (.Tuple es k pos) (znT X.K n t) := by
  intro pins s σ H v u Q I r hw
  obtain ⟨a, xs, e1, hq, hl, hw⟩ := hw
  subst e1
  cases r
  obtain ⟨its, rv, ht, hz⟩ := I.tuple hq
  refine assign_Tuple_tuple (I.ok.hd hc) ht (by simp [hn, <- hl, rv.length]) hst fun h' hx => ?_
  have I1 : Inv X pins σ H { s with heap := h' } := I.kept (t' := s.toks) fun b o e => hx b o (Nat.ne_of_lt (Heap.lt_size e)) e
  exact h pins _ σ H xs _ Q I1 (by simpa using rv) hw
def zon (to ti : TE) (t : znI) : TG := fun v σ H Q => to σ H fun o H1 => ti σ H1 fun i H2 => t o i v H2 fun H3 => Q σ H3
theorem zfs {o i : Expr} {to ti : TE} {t : znI} (ho : PE X o to) (hi : PE X i ti) (hs : znP X t)
    (ha : ∀ v, assign (.Subscript o i pos) X.env v = (do
      let ov <- holding [v] (eval o X.env)
      let iv <- holding [v, ov] (eval i X.env)
      standAt pos
      holding [v, ov, iv] (setItem ov iv v)
      release [v, ov, iv] []) := by intro _; rfl) : PG X (.Subscript o i pos) (zon to ti t) := by
  intro pins s σ H v u Q I r h
  rw [ha]
  refine wpAny_bind (wpAny_holding (thn (ho pins s σ H _ I h) fun ov s1 ⟨x, H1, I1, r1, q1⟩ => ?_))
  refine wpAny_bind (wpAny_holding (thn (hi pins s1 σ H1 _ I1 q1) fun iv s2 ⟨y, H2, I2, r2, q2⟩ => ?_))
  refine wpAny_bind (wpAny_standAt (wpAny_bind (wpAny_holding (thn (hs pins s2 σ H2 x y v ov iv u _ I2 r1 r2 r q2) fun _ s3 ⟨H3, I3, q3⟩ => ?_))))
  exact wpAny_release ⟨σ, H3, I3, q3⟩
def znv (te : TE) (g : TG) : TS := fun D σ H => te σ H fun x H1 => g x σ H1 D.nx
theorem zgm {tg e : Expr} {te : TE} {g : TG} (he : PE X e te) (hg : PG X tg g) (hs : swapsWithSole [tg] e pos.line X.env = pure false := by rfl) (hw : swappedStores [tg] e X.env = pure none := by rfl)
    (h1 : (assignEach [tg] X.env).map (·.2) = [assign tg X.env] := by rfl) : PS X (.Assign [tg] e pos) (znv te g) := by
  intro pins s σ H D I h
  refine wpAny_Assign_stores (thn (he pins s σ H _ I h) fun v s1 ⟨x, H1, I1, r1, q1⟩ => ?_) hs hw
  rw [h1]
  exact thn (hg pins s1 σ H1 x v _ I1 r1 q1) fun _ s2 q => q
theorem zp {i : Nat} {x : Str} {e : Expr} {te : TE} {pos' : Pos} (hN : X.N.Nodup) (hi : X.N[i]? = some x) (hx : Loc X.env.scope x) (he : PE X e te) (hs : swapsWith e (some (.Name x pos')) pos.line X.env = pure false := by rfl) (hf : X.fn x = true \/ X.env.scope.names.lookup x = some .local := by first | exact .inl rfl | exact .inr rfl | assumption) :
    PS X (.Assign [.Name x pos'] e pos) (znv te (zhl i)) := by
  intro pins s σ H D I h
  refine wpAny_Assign_Name (thn (he pins s σ H _ I h) fun v s1 ⟨y, H1, I1, r1, q1⟩ => ?_) hs
  exact wz I1 hN hi hx r1 (fun s2 I2 => ⟨_, H1, I2, q1⟩) hf
def zom (i : Nat) (te : TE) (ti : TIp) : TS := fun D σ H => ∃ x, σ[i]? = some (some x) /\ te σ H fun y H1 => ti x y H1 fun z H2 => D.nx (σ.set i (some z)) H2
theorem zba {i : Nat} {x : Str} {e : Expr} {te : TE} {op : Operator} {ti : TIp} {pos' : Pos} (hN : X.N.Nodup) (hi : X.N[i]? = some x) (hx : Loc X.env.scope x) (he : PE X e te) (ho : PIp X op ti) (hf : X.fn x = true \/ X.env.scope.names.lookup x = some .local := by first | exact .inl rfl | exact .inr rfl | assumption) :
    PS X (.AugAssign (.Name x pos') op e pos) (zom i te ti) := by
  intro pins s σ H D I h
  obtain ⟨v, e1, h⟩ := h
  obtain ⟨m, hn, hl⟩ := I.loc
  have vis : Vis X.env.scope x := by rcases hx with k | k; exact .inl k; exact .inr (.inl k)
  obtain ⟨u, r, l⟩ := hl i x v hi e1 vis
  refine wpAny_AugAssign_Name ?_
  have go : wpAny (model X.prog X.w) X.A (eval e X.env) (fun w s₂ => wpAny (model X.prog X.w) X.A (inplaceOp op u w) (fun r s₃ => wpAny (model X.prog X.w) X.A (storeName X.env x r) (fun _ => SP X pins D .next) X.xe s₃) X.xe s₂) X.xe s := by
    refine thn (he pins s σ H _ I h) fun w s1 ⟨y, H1, I1, r1, q1⟩ => ?_
    refine thn (ho pins s1 σ H1 v y u w _ I1 r r1 q1) fun z s2 ⟨zv, H2, I2, r2, q2⟩ => ?_
    exact wz I2 hN hi hx r2 (fun s3 I3 => ⟨_, H2, I3, q2⟩) hf
  rcases l with ⟨hk, hm⟩ | ⟨hk, c, hc, hcell⟩
  . exact wpAny_loadName_local I.ok.kind hk hn hm go
  . rcases hk with hk | hk
    . exact wpAny_loadName_cell I.ok.kind hk hc hcell go
    . rcases hx with k | k
      . have : X.env.scope.names.lookup x = some .free := hk
        rw [k] at this; cases this
      . have : X.env.scope.names.lookup x = some .free := hk
        rw [k] at this; cases this
def ipI (f : Int -> Int -> Int) : TIp := fun x y H Q => ∃ i j, x = .int i /\ y = .int j /\ Q (.int (f i j)) H
theorem zmf : PIp X .Add (ipI fun i j => i + j) := by
  intro pins s σ H x y v u Q I r1 r2 h
  obtain ⟨i, j, e1, e2, q⟩ := h
  subst e1; subst e2
  obtain ⟨t, rfl⟩ := r1
  obtain ⟨t', rfl⟩ := r2
  exact iadd_int ⟨.int _, H, I.tok _, ⟨_, rfl⟩, q⟩
theorem zl1 : PIp X .Sub (ipI fun i j => i - j) := by
  intro pins s σ H x y v u Q I r1 r2 h
  obtain ⟨i, j, e1, e2, q⟩ := h
  subst e1; subst e2
  obtain ⟨t, rfl⟩ := r1
  obtain ⟨t', rfl⟩ := r2
  exact isub_int ⟨.int _, H, I.tok _, ⟨_, rfl⟩, q⟩
end
section
variable {X : Cx} {pos : Pos}
def zl3 (c : TT) (tb : TS) : TS := fun D σ H => ∃ W : Nat -> St -> Hp -> Prop, (∃ m, W m σ H) /\ ∀ m σ H, W m σ H ->
  c σ H fun b H1 => if b = true then ∃ N : St -> Hp -> Prop, (∀ σ' H', N σ' H' -> ∃ m', m' < m /\ W m' σ' H') /\ tb { D with nx := N, ct := N, bk := D.nx } σ H1 else D.nx σ H1
theorem jl {c : Expr} {body : List Stmt} {tc : TT} {tb : TS} (hp : PassesOwn (model X.prog X.w) X.A X.env X.xe) (hc : PT X c tc) (hb : PSs X body tb) : PS X (.While c body [] pos) (zl3 tc tb) := by
  intro pins s σ H D I h
  obtain ⟨W, ⟨m0, w0⟩, turn⟩ := h
  refine wpAny_While (codeAny_whileLoop (fun n s' => ∃ σ' H', Inv X pins σ' H' s' /\ W n σ' H') ?_ m0 ⟨σ, H, I, w0⟩)
  rintro n s1 ⟨σ1, H1, I1, w1⟩
  refine wpAny_passesOwn hp (thn (hc pins s1 σ1 H1 _ I1 (turn n σ1 H1 w1)) fun b s2 ⟨H2, I2, q2⟩ => ?_)
  cases b with
  | true =>
    obtain ⟨N, hN, q2⟩ := q2
    rw [if_pos rfl]
    refine wpAny_passesOwn hp (thn (hb pins s2 σ1 H2 _ I2 q2) fun f s3 q3 => ?_)
    cases f with
    | next =>
      obtain ⟨σ3, H3, I3, n3⟩ := q3
      obtain ⟨m', hm, w3⟩ := hN σ3 H3 n3
      exact ⟨m', hm, σ3, H3, I3, w3⟩
    | cont =>
      obtain ⟨σ3, H3, I3, n3⟩ := q3
      obtain ⟨m', hm, w3⟩ := hN σ3 H3 n3
      exact ⟨m', hm, σ3, H3, I3, w3⟩
    | brk => exact q3
    | ret v => exact q3
  | false =>
    rw [if_neg Bool.false_ne_true]
    exact wpAny_execs_nil ⟨σ1, H2, I2, q2⟩
end
structure It where
  go : Nat -> Hp -> Prop
  yld : Nat -> Hp -> V -> Hp -> Prop
  stop : Nat -> Hp -> Prop
def zfA (X : Cx) (pins : List (Addr × Obj)) (H : Hp) (b : Addr) : Prop :=
  H b = none /\ b ≠ X.env.locals /\ b ∉ X.fs /\ (b ∈ X.ex \/ X.s_0.heap.objs.size <= b) /\ (∀ x c, X.env.cells.lookup x = some c -> c ≠ b) /\ ∀ p ∈ X.pn ++ pins, p.1 ≠ b
theorem Inv.fpOk {X : Cx} {pins : List (Addr × Obj)} {σ : St} {H H' : Hp} {s : Shared} {b : Addr} (I : Inv X pins σ H s) (hb : s.heap.objs.size <= b) (hn : H' b = none) : zfA X pins H' b := by
  refine ⟨hn, Nat.ne_of_gt (Nat.lt_of_lt_of_le I.lt hb), I.nofs hb, .inr (Nat.le_trans I.sz hb), fun x c e z => ?_, fun p hp z => ?_⟩
  . obtain ⟨v, q⟩ := I.cell x c e
    exact absurd (Nat.lt_of_lt_of_le q.lt (by rw [z]; exact hb)) (Nat.lt_irrefl _)
  . exact absurd (Nat.lt_of_lt_of_le (Heap.lt_size (I.pin p hp).1) (by rw [z]; exact hb)) (Nat.lt_irrefl _)
structure zhL (P : Program) (w : World) (K : PySem.W.Frag) (tg : Expr) (J : It) (fp : List Addr) (it : Addr) (tn : Nat -> Heap -> Prop) : Prop where
  mem : it ∈ fp
  obj : ∀ i h, tn i h -> ∀ b ∈ fp, ∃ o, h.get? b = some o /\ ∀ v, o.data ≠ .cell v
  keep : ∀ i h h', tn i h -> (∀ b ∈ fp, ∀ o, h.get? b = some o -> h'.get? b = some o) -> tn i h'
  item : ∀ (X : Cx), X.prog = P -> X.w = w -> X.K = K -> X.calm = true -> ∀ (i : Nat) (pins : List (Addr × Obj)) (s : Shared) (σ : St) (H : Hp) (E : Value -> Shared -> Prop), Inv X pins σ H s -> (∀ b ∈ fp, zfA X pins H b) -> tn i s.heap -> J.go i H ->
    wpAny (model P w) X.A (pyNext (.ref it)) (fun r s1 => ∃ u, r = some u /\
      wpAny (model P w) X.A (letOwnedTupleGo tg (.ref it) u) (fun _ s2 => ∃ x H', Inv X pins σ H' s2 /\ yq x u /\ J.yld i H x H' /\ tn (i + 1) s2.heap /\ ∀ b ∈ fp, H' b = none) E s1) E s
  done : ∀ (X : Cx), X.prog = P -> X.w = w -> X.K = K -> X.calm = true -> ∀ (i : Nat) (pins : List (Addr × Obj)) (s : Shared) (σ : St) (H : Hp) (E : Value -> Shared -> Prop), Inv X pins σ H s -> (∀ b ∈ fp, zfA X pins H b) -> tn i s.heap -> J.stop i H ->
    wpAny (model P w) X.A (pyNext (.ref it)) (fun r s1 => r = none /\ Inv X pins σ H s1) E s
  self : ∀ (A : Around) (i : Nat) (s : Shared) (Q : Value -> Shared -> Prop) (E : Value -> Shared -> Prop), tn i s.heap -> Q (.ref it) s -> wpAny (model P w) A (pyIter (.ref it)) Q E s
abbrev TI := St -> Hp -> (It -> Hp -> Prop) -> Prop
def PIE (X : Cx) (pins : List (Addr × Obj)) (σ : St) (tg : Expr) (R : It -> Hp -> Prop) (itv : Value) (s2 : Shared) : Prop :=
  ∃ (it : Addr) (fp : List Addr) (tn : Nat -> Heap -> Prop) (J : It) (H' : Hp), itv = .ref it /\ Inv X pins σ H' s2 /\ zhL X.prog X.w X.K tg J fp it tn /\ tn 0 s2.heap /\ (∀ b ∈ fp, zfA X pins H' b) /\ R J H'
def PI (X : Cx) (tg iter : Expr) (wi : TI) : Prop :=
  ∀ (pins : List (Addr × Obj)) (s : Shared) (σ : St) (H : Hp) (R : It -> Hp -> Prop), Inv X pins σ H s -> wi σ H R ->
    wpAny (model X.prog X.w) X.A (eval iter X.env) (fun v s1 => wpAny (model X.prog X.w) X.A (pyIter v) (PIE X pins σ tg R) X.xe s1) X.xe s
theorem zej {M : Model} {A : Around} {E : Value -> Shared -> Prop} {s : Shared} {tg : Expr} {it : Addr} {u : Value} {o : Obj} {n : String} {vs : Array Value} {Q : Unit -> Shared -> Prop} (ho : s.heap.get? it = some o) (hc : o.cls = .type n) (hd : o.data = .fields vs)
    (hn : ["enumerate", "zip", "dict_itemiterator", "dict_reverseitemiterator", "odict_iterator", "itertools.zip_longest", "itertools.pairwise"].contains n = false) (hQ : Q () s) : wpAny M A (letOwnedTupleGo tg (.ref it) u) Q E s := by
  unfold letOwnedTupleGo
  cases tg <;> first
    | exact wpAny_pure hQ
    | (cases u <;> first
        | exact wpAny_pure hQ
        | (refine wpAny_bind (wpAny_load ho ?_)
           rw [hc, hd]
           show wpAny M A (if (["enumerate", "zip", "dict_itemiterator", "dict_reverseitemiterator", "odict_iterator", "itertools.zip_longest", "itertools.pairwise"].contains n && vs[0]? == some (rawInt _)) = true then _ else _) Q E s
           rw [if_neg (by intro h; rw [hn, Bool.false_and] at h; cases h)]
           exact wpAny_pure hQ))
def Itl (K : PySem.W.Frag) (a : Addr) : It :=
  ⟨fun i H => ∃ xs x, SqL K H a xs /\ xs[i]? = some x, fun i H x H' => H' = H /\ ∀ xs, SqL K H a xs -> xs[i]? = some x, fun i H => ∃ xs, SqL K H a xs /\ xs.length <= i⟩
def Itt (K : PySem.W.Frag) (a : Addr) : It :=
  ⟨fun i H => ∃ xs x, SqT K H a xs /\ xs[i]? = some x, fun i H x H' => H' = H /\ ∀ xs, SqT K H a xs -> xs[i]? = some x, fun i H => ∃ xs, SqT K H a xs /\ xs.length <= i⟩
def Itr (lo : Int) (n : Nat) : It := ⟨fun i _ => i < n, fun i H x H' => H' = H /\ x = .int (lo + i), fun i _ => n <= i⟩
theorem zfb {P : Program} {w : World} {K : PySem.W.Frag} {tg : Expr} (a it : Addr) : zhL P w K tg (Itl K a) [it] it (fun i h => h.IsListIter it a i) where
  mem := by simp
  obj := fun i h st b hb => by
    have e : b = it := by simpa using hb
    subst e
    obtain ⟨o, e, c, d⟩ := st
    exact ⟨o, e, fun v z => by rw [d] at z; cases z⟩
  keep := fun i h h' st k => st.at fun o e => k it (by simp) o e
  item := by
    intro X hP hw hK hc i pins s σ H E I hf st hg
    subst hP hw hK
    obtain ⟨xs, x, hq, hx⟩ := hg
    obtain ⟨its, rv, p, hz⟩ := I.list hq
    obtain ⟨u, hu, ru⟩ := rv.get hx
    obtain ⟨f0, f1, f2, f3, f4, f5⟩ := hf it (by simp)
    refine wpAny_pyNext_list_item st p.isList (x := u) (by simpa using hu) fun h' st' sb => ?_
    have I1 : Inv X pins σ H { s with heap := h' } := I.turned (t' := s.toks) (fun b o hb e => (sb.2 b hb).trans e) f0 f1 f3 f4 f5
    obtain ⟨o, e, c, d⟩ := id st'
    exact ⟨u, rfl, zej (s := { s with heap := h' }) e c d (by decide) ⟨x, H, I1, ru, ⟨rfl, fun ys hy => by rw [I.list_inj hy hq]; exact hx⟩, st', fun b hb => (hf b hb).1⟩⟩
  done := by
    intro X hP hw hK hc i pins s σ H E I hf st hg
    subst hP hw hK
    obtain ⟨xs, hq, hx⟩ := hg
    obtain ⟨its, rv, p, hz⟩ := I.list hq
    obtain ⟨f0, f1, f2, f3, f4, f5⟩ := hf it (by simp)
    have hl := rv.length
    exact wpAny_pyNext_list_end (I.ok.hd hc) st p.isList (by simp; omega) fun h' eb => ⟨rfl, I.turned (t' := s.toks) (fun b o hb e => eb b o hb e) f0 f1 f3 f4 f5⟩
  self := fun _ _ _ _ _ st h => wpAny_pyIter_listiter st h
theorem zek {P : Program} {w : World} {K : PySem.W.Frag} {tg : Expr} (a it : Addr) : zhL P w K tg (Itt K a) [it] it (fun i h => h.IsTupleIter it a i) where
  mem := by simp
  obj := fun i h st b hb => by
    have e : b = it := by simpa using hb
    subst e
    obtain ⟨o, e, c, d⟩ := st
    exact ⟨o, e, fun v z => by rw [d] at z; cases z⟩
  keep := fun i h h' st k => st.at fun o e => k it (by simp) o e
  item := by
    intro X hP hw hK hc i pins s σ H E I hf st hg
    subst hP hw hK
    obtain ⟨xs, x, hq, hx⟩ := hg
    obtain ⟨its, rv, p, hz⟩ := I.tuple hq
    obtain ⟨u, hu, ru⟩ := rv.get hx
    obtain ⟨f0, f1, f2, f3, f4, f5⟩ := hf it (by simp)
    refine wpAny_pyNext_tuple_item st (show s.heap.IsTuple a its.toArray from p) (x := u) (by simpa using hu) fun h' st' sb => ?_
    have I1 : Inv X pins σ H { s with heap := h' } := I.turned (t' := s.toks) (fun b o hb e => (sb.2 b hb).trans e) f0 f1 f3 f4 f5
    obtain ⟨o, e, c, d⟩ := id st'
    exact ⟨u, rfl, zej (s := { s with heap := h' }) e c d (by decide) ⟨x, H, I1, ru, ⟨rfl, fun ys hy => by rw [I.tuple_inj hy hq]; exact hx⟩, st', fun b hb => (hf b hb).1⟩⟩
  done := by
    intro X hP hw hK hc i pins s σ H E I hf st hg
    subst hP hw hK
    obtain ⟨xs, hq, hx⟩ := hg
    obtain ⟨its, rv, p, hz⟩ := I.tuple hq
    obtain ⟨f0, f1, f2, f3, f4, f5⟩ := hf it (by simp)
    have hl := rv.length
    exact wpAny_pyNext_tuple_end (I.ok.hd hc) st (show s.heap.IsTuple a its.toArray from p) (by simp; omega) fun h' eb => ⟨rfl, I.turned (t' := s.toks) (fun b o hb e => eb b o hb e) f0 f1 f3 f4 f5⟩
  self := fun _ _ _ _ _ st h => wpAny_pyIter_tupleiter st h
theorem zeA {P : Program} {w : World} {K : PySem.W.Frag} {tg : Expr} (it : Addr) (lo : Int) (n : Nat) : zhL P w K tg (Itr lo n) [it] it (fun i h => IsRangeIter h it (lo + (i : Nat) * 1) ((n : Int) - (i : Nat)) 1) where
  mem := by simp
  obj := fun i h st b hb => by
    have e : b = it := by simpa using hb
    subst e
    exact ⟨_, st, fun v z => by
      have z' : Data.fields _ = Data.cell v := z
      cases z'⟩
  keep := fun i h h' st k => k it (by simp) _ st
  item := by
    intro X hP hw hK hc i pins s σ H E I hf st hg
    subst hP hw hK
    obtain ⟨f0, f1, f2, f3, f4, f5⟩ := hf it (by simp)
    have W := Walks.range (prog := X.prog) (w := X.w) (I.ok.hd hc) it lo 1 n
    refine W.item i s _ _ hg st fun v h' tk hv st' kk => ?_
    obtain ⟨t, rfl⟩ := hv
    have I1 : Inv X pins σ H { s with heap := h', toks := tk } := I.turned (fun b o hb e => kk b o (by simpa using hb) e) f0 f1 f3 f4 f5
    refine ⟨_, rfl, zej (s := { s with heap := h', toks := tk }) (n := "range_iterator") st' rfl rfl (by decide) ⟨.int (lo + i), H, I1, ⟨t, ?_⟩, ⟨rfl, rfl⟩, st', fun b hb => (hf b hb).1⟩⟩
    rw [Int.mul_one]
  done := by
    intro X hP hw hK hc i pins s σ H E I hf st hg
    subst hP hw hK
    obtain ⟨f0, f1, f2, f3, f4, f5⟩ := hf it (by simp)
    exact wpAny_pyNext_range_end (I.ok.hd hc) st (by have : n <= i := hg; omega) fun h' eb => ⟨rfl, I.turned (t' := s.toks) (fun b o hb e => eb b o hb e) f0 f1 f3 f4 f5⟩
  self := fun _ _ _ _ _ st h => wpAny_pyIter_rangeiter st h
end L2
namespace L2
open PySem PySem.Spec PyProof.Rows
section
variable {X : Cx} {tg : Expr}
def znk (K : PySem.W.Frag) (tl : TE) : TI := fun σ H R => tl σ H fun x H1 => ∃ a, x = .ref a /\ (∃ xs, SqL K H1 a xs) /\ R (Itl K a) H1
def zoi (K : PySem.W.Frag) (tl : TE) : TI := fun σ H R => tl σ H fun x H1 => ∃ a, x = .ref a /\ (∃ xs, SqT K H1 a xs) /\ R (Itt K a) H1
theorem kE {l : Expr} {tl : TE} (hl : PE X l tl) : PI X tg l (znk X.K tl) := by
  intro pins s σ H R I h
  refine thn (hl pins s σ H _ I h) fun v s1 ⟨x, H1, I1, r1, q1⟩ => ?_
  obtain ⟨a, e, ⟨xs, hq⟩, q⟩ := q1
  subst e
  cases r1
  obtain ⟨its, rv, p, hz⟩ := I1.list hq
  refine wpAny_pyIter_list p.isList ?_
  refine ⟨s1.heap.objs.size, [s1.heap.objs.size], _, _, H1, rfl, I1.kept (t' := s1.toks) fun b o e => Heap.get?_push_of_some _ e, zfb a _, ⟨_, Heap.get?_push_size _ rfl, rfl, rfl⟩, fun b hb => ?_, q⟩
  have e : b = s1.heap.objs.size := by simpa using hb
  subst e
  exact I1.fpOk (Nat.le_refl _) (I1.hok.fresh (Nat.le_refl _))
theorem zaI {l : Expr} {tl : TE} (hl : PE X l tl) : PI X tg l (zoi X.K tl) := by
  intro pins s σ H R I h
  refine thn (hl pins s σ H _ I h) fun v s1 ⟨x, H1, I1, r1, q1⟩ => ?_
  obtain ⟨a, e, ⟨xs, hq⟩, q⟩ := q1
  subst e
  cases r1
  obtain ⟨its, rv, p, hz⟩ := I1.tuple hq
  refine wpAny_pyIter_tuple (show s1.heap.IsTuple a its.toArray from p) ?_
  refine ⟨s1.heap.objs.size, [s1.heap.objs.size], _, _, H1, rfl, I1.kept (t' := s1.toks) fun b o e => Heap.get?_push_of_some _ e, zek a _, ⟨_, Heap.get?_push_size _ rfl, rfl, rfl⟩, fun b hb => ?_, q⟩
  have e : b = s1.heap.objs.size := by simpa using hb
  subst e
  exact I1.fpOk (Nat.le_refl _) (I1.hok.fresh (Nat.le_refl _))
theorem zcR {pins : List (Addr × Obj)} {σ : St} {H : Hp} {s : Shared} {R : It -> Hp -> Prop} {E : Value -> Shared -> Prop} {lo hi : Int} {t u v : Tok} {tk : Nat} (I : Inv X pins σ H s) (h1 : -(2 ^ 62) <= lo) (h2 : lo < 2 ^ 62) (h3 : -(2 ^ 62) <= hi) (h4 : hi < 2 ^ 62)
    (q : R (Itr lo (hi - lo).toNat) H) : wpAny (model X.prog X.w) X.A (pyIter (.ref s.heap.objs.size)) (PIE X pins σ tg R) E { s with heap := s.heap.push { cls := .type "range", data := .fields #[.int lo t, .int hi u, .int 1 v] }, toks := tk } := by
  refine wpAny_pyIter_range (IsRange.new ..) (small_one h1 h2 h3 h4) ?_
  have I1 : Inv X pins σ H { s with heap := s.heap.push { cls := .type "range", data := .fields #[.int lo t, .int hi u, .int 1 v] }, toks := tk } := I.kept fun b o e => Heap.get?_push_of_some _ e
  refine ⟨(s.heap.push { cls := .type "range", data := .fields #[.int lo t, .int hi u, .int 1 v] }).objs.size, [(s.heap.push { cls := .type "range", data := .fields #[.int lo t, .int hi u, .int 1 v] }).objs.size], _, _, H, rfl,
    I1.kept (t' := tk) fun b o e => Heap.get?_push_of_some _ e, zeA _ lo (hi - lo).toNat, ?_, fun b hb => ?_, q⟩
  . have e1 : lo + ((0 : Nat) : Int) * 1 = lo := by simp
    have e2 : (((hi - lo).toNat : Nat) : Int) - ((0 : Nat) : Int) = Builtin.Range.rangeSize lo hi 1 := by rw [rangeSize_one]; split <;> omega
    show IsRangeIter _ _ (lo + ((0 : Nat) : Int) * 1) ((((hi - lo).toNat : Nat) : Int) - ((0 : Nat) : Int)) 1
    rw [e1, e2]
    exact Heap.get?_push_size _ rfl
  . have e : b = (s.heap.push { cls := .type "range", data := .fields #[.int lo t, .int hi u, .int 1 v] }).objs.size := by simpa using hb
    subst e
    exact I1.fpOk (Nat.le_refl _) (I1.hok.fresh (Nat.le_refl _))
def zny (ta : TA) : TI := fun σ H R => ta σ H fun vs H1 => ∃ j : Int, vs = [.int j] /\ -(2 ^ 62) <= j /\ j < 2 ^ 62 /\ R (Itr 0 j.toNat) H1
def zm9 (ta : TA) : TI := fun σ H R => ta σ H fun vs H1 => ∃ i j : Int, vs = [.int i, .int j] /\ (-(2 ^ 62) <= i /\ i < 2 ^ 62 /\ -(2 ^ 62) <= j /\ j < 2 ^ 62) /\ R (Itr i (j - i).toNat) H1
theorem ql {a : Expr} {ta : TA} {p pos : Pos} (hg : Gl X "range") (hm : X.mg "range" = none) (ha : PA X [a] ta) (hs : starEach [a] X.env = [(false, eval a X.env)] := by rfl) : PI X tg (.Call (.Name "range" p) [a] [] pos) (zny ta) := by
  intro pins s σ H R I h
  refine Call_ (vV I hg hm boot_range (PyProof.Rows.callWith_type1 (thn (ha pos pins s σ H _ I h) fun us s1 ⟨vs, H1, I1, r1, q1⟩ => ?_) hs rfl))
  obtain ⟨j, e, q1, q2, q⟩ := q1
  subst e
  cases r1 with
  | cons r rr =>
    cases rr
    obtain ⟨t, rfl⟩ := r
    exact call_range_1 (zcR I1 (by omega) (by omega) q1 q2 (by simpa using q))
theorem jh {a b : Expr} {ta : TA} {p pos : Pos} (hg : Gl X "range") (hm : X.mg "range" = none) (ha : PA X [a, b] ta) (hs : starEach [a, b] X.env = [(false, eval a X.env), (false, eval b X.env)] := by rfl) (hs2 : starEach [b] X.env = [(false, eval b X.env)] := by rfl) :
    PI X tg (.Call (.Name "range" p) [a, b] [] pos) (zm9 ta) := by
  intro pins s σ H R I h
  refine Call_ (vV I hg hm boot_range (PyProof.Rows.callWith_type1 (thn (ha pos pins s σ H _ I h) fun us s1 ⟨vs, H1, I1, r1, q1⟩ => ?_) (by rw [hs, hs2]) (by rw [hs2]; rfl)))
  obtain ⟨i, j, e, ⟨q1, q2, q3, q4⟩, q⟩ := q1
  subst e
  cases r1 with
  | cons r rr =>
    cases rr with
    | cons r' rr =>
      cases rr
      obtain ⟨t, rfl⟩ := r
      obtain ⟨t', rfl⟩ := r'
      exact call_range_2 (zcR I1 q1 q2 q3 q4 q)
def zoo (wi : TI) (g : TG) (tb : TS) : TS := fun D σ H => wi σ H fun J H1 => ∃ W : Nat -> Nat -> St -> Hp -> Prop, (∃ m, W 0 m σ H1) /\ ∀ i m σ H, W i m σ H ->
  (J.stop i H /\ D.nx σ H) \/ (J.go i H /\ ∃ N : St -> Hp -> Prop, (∀ σ' H', N σ' H' -> ∃ m', m' < m /\ W (i + 1) m' σ' H') /\ ∀ x H', J.yld i H x H' -> g x σ H' fun σ2 H2 => tb { D with nx := N, ct := N, bk := D.nx } σ2 H2)
def zbg (fp : List Addr) (h : Heap) : List (Addr × Obj) := fp.filterMap fun b => (h.get? b).map fun o => (b, o)
theorem jw {fp : List Addr} {h : Heap} {b : Addr} {o : Obj} (hb : b ∈ fp) (e : h.get? b = some o) : (b, o) ∈ zbg fp h := List.mem_filterMap.mpr ⟨b, hb, by rw [e]; rfl⟩
theorem zgJ {fp : List Addr} {h : Heap} {p : Addr × Obj} (hp : p ∈ zbg fp h) : p.1 ∈ fp /\ h.get? p.1 = some p.2 := by
  obtain ⟨b, hb, e⟩ := List.mem_filterMap.mp hp
  cases q : h.get? b with
  | none => rw [q] at e; cases e
  | some o =>
    rw [q] at e
    have e' : (b, o) = p := Option.some.inj e
    subst e'
    exact ⟨hb, q⟩
theorem Inv.pinned {pins : List (Addr × Obj)} {σ : St} {H : Hp} {s : Shared} {fp : List Addr} (I : Inv X pins σ H s) (hf : ∀ b ∈ fp, zfA X pins H b) (ho : ∀ b ∈ fp, ∃ o, s.heap.get? b = some o /\ ∀ v, o.data ≠ .cell v) : Inv X (pins ++ zbg fp s.heap) σ H s :=
  I.pins_of fun p hp => (List.mem_append.mp hp).elim (fun z => I.pin p (List.mem_append_right _ z)) fun z => by
    obtain ⟨hb, e⟩ := zgJ z
    obtain ⟨f0, f1, f2, _⟩ := hf p.1 hb
    obtain ⟨o, e', d⟩ := ho p.1 hb
    rw [e] at e'; cases e'
    exact ⟨e, f0, f1, f2, d⟩
theorem Inv.unpinned {pins pl : List (Addr × Obj)} {σ : St} {H : Hp} {s : Shared} (I : Inv X (pins ++ pl) σ H s) : Inv X pins σ H s := I.pins_of fun p hp => I.pin p (List.mem_append_right _ (List.mem_append_left _ hp))
theorem yV {iter : Expr} {body : List Stmt} {wi : TI} {g : TG} {tb : TS} {pos : Pos} (hp : PassesOwn (model X.prog X.w) X.A X.env X.xe) (hc : X.calm = true) (hi : PI X tg iter wi) (hg : PG X tg g) (hb : PSs X body tb)
    (hs : ∀ x, foldedSetIterable iter X.env x = pure x := by intro _; rfl) : PS X (.For tg iter body [] pos) (zoo wi g tb) := by
  intro pins s σ H D I h
  refine wpAny_For (thn (hi pins s σ H _ I h) fun v s1 h1 => thn h1 fun itv s2 h2 => ?_) hs
  obtain ⟨it, fp, tn, J, H2, e, I2, T, st2, f2, W, ⟨m0, w0⟩, turn⟩ := h2
  subst e
  have stat : ∀ {H' : Hp}, (∀ b ∈ fp, H' b = none) -> ∀ b ∈ fp, zfA X pins H' b := fun hn b hb => ⟨hn b hb, (f2 b hb).2⟩
  refine codeAny_forLoop_any (fun n s' => ∃ i σ' H', Inv X pins σ' H' s' /\ tn i s'.heap /\ (∀ b ∈ fp, H' b = none) /\ W i n σ' H') ?_ m0 ⟨0, σ, H2, I2, st2, fun b hb => (f2 b hb).1, w0⟩
  rintro n s3 ⟨i, σ3, H3, I3, st3, fr3, w3⟩
  rcases turn i n σ3 H3 w3 with ⟨stop, qn⟩ | ⟨go, N, hN, step⟩
  . refine wpAny_passesOwn hp (thn (T.done X rfl rfl rfl hc i pins s3 σ3 H3 X.xe I3 (stat fr3) st3 stop) fun r s4 ⟨hr, I4⟩ => ?_)
    subst hr
    exact wpAny_execs_nil ⟨σ3, H3, I4, qn⟩
  . refine wpAny_passesOwn hp (thn (T.item X rfl rfl rfl hc i pins s3 σ3 H3 X.xe I3 (stat fr3) st3 go) fun r s4 ⟨u, hr, h4⟩ => ?_)
    subst hr
    refine wpAny_passesOwn hp (thn h4 fun _ s5 ⟨x, H5, I5, r5, y5, st5, fr5⟩ => ?_)
    have I5' := I5.pinned (stat fr5) (T.obj _ _ st5)
    refine wpAny_passesOwn hp (thn (hg _ s5 σ3 H5 x u _ I5' r5 (step x H5 y5)) fun _ s6 ⟨σ6, H6, I6, q6⟩ => ?_)
    refine wpAny_passesOwn hp (thn (hb _ s6 σ6 H6 _ I6 q6) fun f s7 q7 => ?_)
    have again : ∀ {σ7 : St} {H7 : Hp}, Inv X (pins ++ zbg fp s5.heap) σ7 H7 s7 -> N σ7 H7 -> ∃ m, m < n /\ ∃ i σ' H', Inv X pins σ' H' s7 /\ tn i s7.heap /\ (∀ b ∈ fp, H' b = none) /\ W i m σ' H' := fun {σ7 H7} I7 n7 => by
      obtain ⟨m', hm, w7⟩ := hN σ7 H7 n7
      refine ⟨m', hm, i + 1, σ7, H7, I7.unpinned, T.keep _ _ _ st5 fun b hb o e => (I7.pin (b, o) (List.mem_append_right _ (List.mem_append_right _ (jw hb e)))).1, fun b hb => ?_, w7⟩
      obtain ⟨o, e, d⟩ := T.obj _ _ st5 b hb
      exact (I7.pin (b, o) (List.mem_append_right _ (List.mem_append_right _ (jw hb e)))).2.1
    cases f with
    | next => obtain ⟨σ7, H7, I7, n7⟩ := q7; exact again I7 n7
    | cont => obtain ⟨σ7, H7, I7, n7⟩ := q7; exact again I7 n7
    | brk => obtain ⟨σ7, H7, I7, q7⟩ := q7; exact ⟨σ7, H7, I7.unpinned, q7⟩
    | ret v => obtain ⟨x7, σ7, H7, I7, r7, q7⟩ := q7; exact ⟨x7, σ7, H7, I7.unpinned, r7, q7⟩
end
theorem wF {K : PySem.W.Frag} {a : Addr} {xs : List V} {g : TG} {tb : TS} {D : zeB} {σ : St} {H : Hp} (Pv : Nat -> St -> Hp -> Prop) (h0 : Pv 0 σ H) (hl : ∀ i σ H, i <= xs.length -> Pv i σ H -> SqL K H a xs)
    (hs : ∀ i x σ H, xs[i]? = some x -> Pv i σ H -> g x σ H fun σ2 H2 => tb { D with nx := Pv (i + 1), ct := Pv (i + 1), bk := D.nx } σ2 H2) (hd : ∀ σ H, Pv xs.length σ H -> D.nx σ H) :
    ∃ W : Nat -> Nat -> St -> Hp -> Prop, (∃ m, W 0 m σ H) /\ ∀ i m σ H, W i m σ H ->
      ((Itl K a).stop i H /\ D.nx σ H) \/ ((Itl K a).go i H /\ ∃ N : St -> Hp -> Prop, (∀ σ' H', N σ' H' -> ∃ m', m' < m /\ W (i + 1) m' σ' H') /\ ∀ x H', (Itl K a).yld i H x H' -> g x σ H' fun σ2 H2 => tb { D with nx := N, ct := N, bk := D.nx } σ2 H2) := by
  refine ⟨fun i m σ H => m = xs.length - i /\ i <= xs.length /\ Pv i σ H, ⟨xs.length, by simp, Nat.zero_le _, h0⟩, ?_⟩
  rintro i m σ H ⟨rfl, hi, p⟩
  have q := hl i σ H hi p
  by_cases hlt : i < xs.length
  . refine .inr ⟨⟨xs, xs[i], q, by simp [hlt]⟩, Pv (i + 1), fun σ' H' p' => ⟨xs.length - (i + 1), by omega, rfl, hlt, p'⟩, fun x H' y => ?_⟩
    obtain ⟨e, y⟩ := y
    subst e
    exact hs i x σ _ (y xs q) p
  . have e : i = xs.length := by omega
    subst e
    exact .inl ⟨⟨xs, q, Nat.le_refl _⟩, hd σ H p⟩
theorem jv {K : PySem.W.Frag} {a : Addr} {xs : List V} {g : TG} {tb : TS} {D : zeB} {σ : St} {H : Hp} (Pv : Nat -> St -> Hp -> Prop) (h0 : Pv 0 σ H) (hl : ∀ i σ H, i <= xs.length -> Pv i σ H -> SqT K H a xs)
    (hs : ∀ i x σ H, xs[i]? = some x -> Pv i σ H -> g x σ H fun σ2 H2 => tb { D with nx := Pv (i + 1), ct := Pv (i + 1), bk := D.nx } σ2 H2) (hd : ∀ σ H, Pv xs.length σ H -> D.nx σ H) :
    ∃ W : Nat -> Nat -> St -> Hp -> Prop, (∃ m, W 0 m σ H) /\ ∀ i m σ H, W i m σ H ->
      ((Itt K a).stop i H /\ D.nx σ H) \/ ((Itt K a).go i H /\ ∃ N : St -> Hp -> Prop, (∀ σ' H', N σ' H' -> ∃ m', m' < m /\ W (i + 1) m' σ' H') /\ ∀ x H', (Itt K a).yld i H x H' -> g x σ H' fun σ2 H2 => tb { D with nx := N, ct := N, bk := D.nx } σ2 H2) := by
  refine ⟨fun i m σ H => m = xs.length - i /\ i <= xs.length /\ Pv i σ H, ⟨xs.length, by simp, Nat.zero_le _, h0⟩, ?_⟩
  rintro i m σ H ⟨rfl, hi, p⟩
  have q := hl i σ H hi p
  by_cases hlt : i < xs.length
  . refine .inr ⟨⟨xs, xs[i], q, by simp [hlt]⟩, Pv (i + 1), fun σ' H' p' => ⟨xs.length - (i + 1), by omega, rfl, hlt, p'⟩, fun x H' y => ?_⟩
    obtain ⟨e, y⟩ := y
    subst e
    exact hs i x σ _ (y xs q) p
  . have e : i = xs.length := by omega
    subst e
    exact .inl ⟨⟨xs, q, Nat.le_refl _⟩, hd σ H p⟩
theorem y2 {lo : Int} {n : Nat} {g : TG} {tb : TS} {D : zeB} {σ : St} {H : Hp} (Pv : Nat -> St -> Hp -> Prop) (h0 : Pv 0 σ H)
    (hs : ∀ i σ H, i < n -> Pv i σ H -> g (.int (lo + i)) σ H fun σ2 H2 => tb { D with nx := Pv (i + 1), ct := Pv (i + 1), bk := D.nx } σ2 H2) (hd : ∀ σ H, Pv n σ H -> D.nx σ H) :
    ∃ W : Nat -> Nat -> St -> Hp -> Prop, (∃ m, W 0 m σ H) /\ ∀ i m σ H, W i m σ H ->
      ((Itr lo n).stop i H /\ D.nx σ H) \/ ((Itr lo n).go i H /\ ∃ N : St -> Hp -> Prop, (∀ σ' H', N σ' H' -> ∃ m', m' < m /\ W (i + 1) m' σ' H') /\ ∀ x H', (Itr lo n).yld i H x H' -> g x σ H' fun σ2 H2 => tb { D with nx := N, ct := N, bk := D.nx } σ2 H2) := by
  refine ⟨fun i m σ H => m = n - i /\ i <= n /\ Pv i σ H, ⟨n, by simp, Nat.zero_le _, h0⟩, ?_⟩
  rintro i m σ H ⟨rfl, hi, p⟩
  by_cases hlt : i < n
  . refine .inr ⟨hlt, Pv (i + 1), fun σ' H' p' => ⟨n - (i + 1), by omega, rfl, hlt, p'⟩, fun x H' y => ?_⟩
    obtain ⟨e, y⟩ := y
    subst e y
    exact hs i σ _ hlt p
  . have e : i = n := by omega
    subst e
    exact .inl ⟨Nat.le_refl _, hd σ H p⟩
end L2
namespace L2
open PySem PySem.Spec PyProof.Rows
abbrev R2 := V -> V -> Hp -> VK -> Prop
def OpR (X : Cx) (f : Value -> Value -> Sem Value) (r : R2) : Prop :=
  ∀ (pins : List (Addr × Obj)) (s : Shared) (σ : St) (H : Hp) (x y : V) (v u : Value) (Q : VK), Inv X pins σ H s -> yq x v -> yq y u -> r x y H Q ->
    wpAny (model X.prog X.w) X.A (f v u) (EP X pins σ Q) X.xe s
def UnR (X : Cx) (f : Value -> Sem Value) (r : V -> Hp -> VK -> Prop) : Prop :=
  ∀ (pins : List (Addr × Obj)) (s : Shared) (σ : St) (H : Hp) (x : V) (v : Value) (Q : VK), Inv X pins σ H s -> yq x v -> r x H Q ->
    wpAny (model X.prog X.w) X.A (f v) (EP X pins σ Q) X.xe s
def vG (X : Cx) (f : Value) (r : List V -> Hp -> VK -> Prop) : Prop :=
  ∀ (pins : List (Addr × Obj)) (s : Shared) (σ : St) (H : Hp) (xs : List V) (us : List Value) (Q : VK), Inv X pins σ H s -> yx xs us -> r xs H Q ->
    wpAny (model X.prog X.w) X.A (call f us) (EP X pins σ Q) X.xe s
def tOp (r : R2) (ta tb : TE) : TE := fun σ H Q => ta σ H fun x H1 => tb σ H1 fun y H2 => r x y H2 Q
def tUn (r : V -> Hp -> VK -> Prop) (ta : TE) : TE := fun σ H Q => ta σ H fun x H1 => r x H1 Q
def rI (C : Int -> Int -> Prop) (g : Int -> Int -> V) : R2 := fun x y H Q => ∃ i j, x = .int i /\ y = .int j /\ C i j /\ Q (g i j) H
def rI0 (g : Int -> Int -> V) : R2 := fun x y H Q => ∃ i j, x = .int i /\ y = .int j /\ Q (g i j) H
def rU (g : Int -> V) : V -> Hp -> VK -> Prop := fun x H Q => ∃ i, x = .int i /\ Q (g i) H
section
variable {X : Cx} {a b c : Expr} {ta tb tc : TE} {pos : Pos}
theorem zno (ha : PE X a ta) (hb : PE X b tb) {pins : List (Addr × Obj)} {s : Shared} {σ : St} {H : Hp} {R : V -> V -> Hp -> Prop} (I : Inv X pins σ H s)
    (h : ta σ H fun x H1 => tb σ H1 fun y H2 => R x y H2) {Q : Value -> Shared -> Prop} {f : Value -> Value -> Sem Value}
    (hf : ∀ v u s2 x y H2, Inv X pins σ H2 s2 -> yq x v -> yq y u -> R x y H2 -> wpAny (model X.prog X.w) X.A (f v u) Q X.xe s2) :
    wpAny (model X.prog X.w) X.A (eval a X.env) (fun v s₁ => wpAny (model X.prog X.w) X.A (eval b X.env) (fun u s₂ => wpAny (model X.prog X.w) X.A (f v u) Q X.xe s₂) X.xe s₁) X.xe s := by
  refine thn (ha pins s σ H _ I h) fun v s1 ⟨x, H1, I1, r1, q1⟩ => ?_
  refine thn (hb pins s1 σ H1 _ I1 q1) fun u s2 ⟨y, H2, I2, r2, q2⟩ => ?_
  exact hf v u s2 x y H2 I2 r1 r2 q2
theorem zl {op : Operator} {r : R2} (ho : OpR X (binaryOp op) r) (ha : PE X a ta) (hb : PE X b tb) : PE X (.BinOp a op b pos) (tOp r ta tb) := by
  intro pins s σ H Q I h
  exact wpAny_BinOp (zno ha hb I h fun v u s2 x y H2 I2 rx ry q => ho pins s2 σ H2 x y v u Q I2 rx ry q)
theorem zl0 {op : UnaryOp} {r : V -> Hp -> VK -> Prop} (ho : UnR X (unaryOp op) r) (ha : PE X a ta) : PE X (.UnaryOp op a pos) (tUn r ta) := by
  intro pins s σ H Q I h
  exact UnaryOp_ (thn (ha pins s σ H _ I h) fun v s1 ⟨x, H1, I1, r1, q1⟩ => ho pins s1 σ H1 x v Q I1 r1 q1)
theorem opI {f : Value -> Value -> Sem Value} {C : Int -> Int -> Prop} {g : Int -> Int -> Int}
    (rule : ∀ (i j : Int) (t u : Tok) (s : Shared) (Q : Value -> Shared -> Prop) (E : Value -> Shared -> Prop), C i j -> Q (.int (g i j) s.toks) { s with toks := s.toks + 1 } -> wpAny (model X.prog X.w) X.A (f (.int i t) (.int j u)) Q E s) :
    OpR X f (rI C fun i j => .int (g i j)) := by
  intro pins s σ H x y v u Q I rx ry h
  obtain ⟨i, j, rfl, rfl, hc, q⟩ := h
  obtain ⟨t, rfl⟩ := rx
  obtain ⟨t', rfl⟩ := ry
  exact rule i j t t' s _ _ hc ⟨.int (g i j), H, I.tok _, ⟨_, rfl⟩, q⟩
theorem zlK {f : Value -> Value -> Sem Value} {g : Int -> Int -> Int}
    (rule : ∀ (i j : Int) (t u : Tok) (s : Shared) (Q : Value -> Shared -> Prop) (E : Value -> Shared -> Prop), Q (.int (g i j) s.toks) { s with toks := s.toks + 1 } -> wpAny (model X.prog X.w) X.A (f (.int i t) (.int j u)) Q E s) :
    OpR X f (rI0 fun i j => .int (g i j)) := by
  intro pins s σ H x y v u Q I rx ry h
  obtain ⟨i, j, rfl, rfl, q⟩ := h
  obtain ⟨t, rfl⟩ := rx
  obtain ⟨t', rfl⟩ := ry
  exact rule i j t t' s _ _ ⟨.int (g i j), H, I.tok _, ⟨_, rfl⟩, q⟩
theorem zm3 {f : Value -> Value -> Sem Value} {g : Int -> Int -> Bool}
    (rule : ∀ (i j : Int) (t u : Tok) (s : Shared) (Q : Value -> Shared -> Prop) (E : Value -> Shared -> Prop), Q (.bool (g i j)) s -> wpAny (model X.prog X.w) X.A (f (.int i t) (.int j u)) Q E s) :
    OpR X f (rI0 fun i j => .bl (g i j)) := by
  intro pins s σ H x y v u Q I rx ry h
  obtain ⟨i, j, rfl, rfl, q⟩ := h
  obtain ⟨t, rfl⟩ := rx
  obtain ⟨t', rfl⟩ := ry
  exact rule i j t t' s _ _ ⟨.bl (g i j), H, I, rfl, q⟩
def zod (i j : Int) : Prop := 0 < j /\ j < 1073741824
def zog (i j : Int) : Prop := 0 <= j /\ j <= 1000000 /\ i.natAbs < 2 ^ 64
def znJ (i j : Int) : Prop := (-(2 ^ 64) < i /\ i < 2 ^ 64) \/ (-(2 ^ 64) < j /\ j < 2 ^ 64)
theorem znJ.ok {i j : Int} (h : znJ i j) : IntMulOk i j := by
  rcases h with ⟨h1, h2⟩ | ⟨h1, h2⟩
  . exact .of_left (intBits_le_64 h1 h2)
  . exact .of_right (intBits_le_64 h1 h2)
theorem two_pow_nn (k : Nat) : (0 : Int) <= 2 ^ k := by
  rw [two_pow_cast]
  exact Int.natCast_nonneg _
theorem zL : OpR X (binaryOp .Add) (rI0 fun i j => .int (i + j)) := zlK fun _ _ _ _ _ _ _ q => add_int q
theorem yA : OpR X (binaryOp .Sub) (rI0 fun i j => .int (i - j)) := zlK fun _ _ _ _ _ _ _ q => sub_int q
theorem xA : OpR X (binaryOp .Mult) (rI znJ fun i j => .int (i * j)) := opI fun _ _ _ _ _ _ _ hc q => mul_int q hc.ok
theorem qJ : OpR X (binaryOp .FloorDiv) (rI zod fun i j => .int (i / j)) := opI fun i j _ _ _ _ _ hc q => by
  have h1 : (0 : Int) < j := hc.1
  have h2 : j < 1073741824 := hc.2
  exact floordiv_int (by omega) (by rw [Int.fdiv_eq_ediv_of_nonneg i (by omega)]; exact q) (.inl (PyProof.noPylong_small (by omega)))
theorem ze9 : OpR X (binaryOp .Mod) (rI (fun _ j => 0 < j) fun i j => .int (i % j)) := opI fun i j _ _ _ _ _ hc q => by
  have h1 : (0 : Int) < j := hc
  exact mod_int' (by omega) (by rw [Int.fmod_eq_emod_of_nonneg i (by omega)]; exact q)
theorem yT : OpR X (binaryOp .LShift) (rI zog fun i j => .int (i * 2 ^ j.toNat)) := opI fun _ _ _ _ _ _ _ hc q => lshift_int_small hc.1 hc.2.1 hc.2.2 q
theorem ya : OpR X (binaryOp .RShift) (rI (fun _ j => 0 <= j) fun i j => .int (i / 2 ^ j.toNat)) := opI fun i j _ _ _ _ _ hc q =>
  rshift_int hc (by rw [Int.fdiv_eq_ediv_of_nonneg i (two_pow_nn _)]; exact q)
theorem zW : OpR X (binaryOp .BitAnd) (rI0 fun i j => .int (Builtin.bitAnd i j)) := zlK fun _ _ _ _ _ _ _ q => and_int q
theorem vx : OpR X (binaryOp .BitOr) (rI0 fun i j => .int (Builtin.bitOr i j)) := zlK fun _ _ _ _ _ _ _ q => or_int q
theorem zmo : OpR X (binaryOp .BitXor) (rI0 fun i j => .int (Builtin.bitXor i j)) := zlK fun _ _ _ _ _ _ _ q => xor_int q
theorem zfU : OpR X (inplaceOp .BitOr) (rI0 fun i j => .int (Builtin.bitOr i j)) := zlK fun _ _ _ _ _ _ _ q => ior_int q
theorem unI {f : Value -> Sem Value} {g : Int -> Int}
    (rule : ∀ (i : Int) (t : Tok) (s : Shared) (Q : Value -> Shared -> Prop) (E : Value -> Shared -> Prop), Q (.int (g i) s.toks) { s with toks := s.toks + 1 } -> wpAny (model X.prog X.w) X.A (f (.int i t)) Q E s) :
    UnR X f (rU fun i => .int (g i)) := by
  intro pins s σ H x v Q I rx h
  obtain ⟨i, rfl, q⟩ := h
  obtain ⟨t, rfl⟩ := rx
  exact rule i t s _ _ ⟨.int (g i), H, I.tok _, ⟨_, rfl⟩, q⟩
theorem zi9 : UnR X (unaryOp .USub) (rU fun i => .int (-i)) := unI fun _ _ _ _ _ q => neg_int q
end
def znQ : V -> V -> Bool
  | .non, .non => true | .non, .int _ => true | .int _, .non => true | .non, .bl _ => true | .bl _, .non => true | .non, .str _ => true | .str _, .non => true
  | .int _, .int _ => true | .bl _, .bl _ => true | .str _, .str _ => true | .byt _, .byt _ => true
  | .int _, .str _ => true | .str _, .int _ => true | .bl _, .str _ => true | .str _, .bl _ => true
  | _, _ => false
def rEq : R2 := fun x y H Q => znQ x y = true /\ Q (.bl (decide (x = y))) H
def rNe : R2 := fun x y H Q => znQ x y = true /\ Q (.bl (!decide (x = y))) H
theorem zf4 {i j : Int} : decide (V.int i = V.int j) = (i == j) := by
  rw [Bool.eq_iff_iff]
  simp
theorem zjo {i j : Bool} : decide (V.bl i = V.bl j) = (i == j) := by
  rw [Bool.eq_iff_iff]
  simp
theorem zhh {i j : Str} : decide (V.str i = V.str j) = (i == j) := by
  rw [Bool.eq_iff_iff]
  simp
theorem zhf {i j : Array UInt8} : decide (V.byt i = V.byt j) = (i.toList == j.toList) := by
  rw [Bool.eq_iff_iff]
  cases i
  cases j
  simp
section
variable {X : Cx} {a b c : Expr} {ta tb tc : TE} {pos : Pos}
theorem yg {pins : List (Addr × Obj)} {σ : St} {H : Hp} {s : Shared} {Q : VK} {k k' : Bool} (I : Inv X pins σ H s) (q : Q (.bl k) H) (e : k = k') : EP X pins σ Q (.bool k') s := by
  subst e
  exact ⟨.bl k, H, I, rfl, q⟩
theorem xY : OpR X (compareOp .Eq) rEq := by
  intro pins s σ H x y v u Q I rx ry h
  obtain ⟨hs, q⟩ := h
  cases x with
  | non =>
    cases rx
    cases y with
    | non => cases ry; exact PySem.EqNone.eq_none_none (yg I q (by simp))
    | bl j => cases ry; exact PySem.EqNone.eq_none_bool (yg I q (by simp))
    | int j => obtain ⟨t', rfl⟩ := ry; exact PySem.EqNone.eq_none_int (yg I q (by simp))
    | str j => obtain ⟨t', rfl⟩ := ry; exact PySem.EqNone.eq_none_str (yg I q (by simp))
    | _ => exact absurd (show false = true from hs) Bool.false_ne_true
  | bl i =>
    cases rx
    cases y with
    | non => cases ry; exact PySem.EqNone.eq_bool_none (yg I q (by simp))
    | bl j => cases ry; exact eq_bool (yg I q zjo)
    | str j => obtain ⟨t', rfl⟩ := ry; exact PySem.EqMixed.eq_bool_str (yg I q (by simp))
    | _ => exact absurd (show false = true from hs) Bool.false_ne_true
  | int i =>
    obtain ⟨t, rfl⟩ := rx
    cases y with
    | non => cases ry; exact PySem.EqNone.eq_int_none (yg I q (by simp))
    | int j => obtain ⟨t', rfl⟩ := ry; exact eq_int (yg I q zf4)
    | str j => obtain ⟨t', rfl⟩ := ry; exact PySem.EqMixed.eq_int_str (yg I q (by simp))
    | _ => exact absurd (show false = true from hs) Bool.false_ne_true
  | str i =>
    obtain ⟨t, rfl⟩ := rx
    cases y with
    | non => cases ry; exact PySem.EqNone.eq_str_none (yg I q (by simp))
    | bl j => cases ry; exact PySem.EqMixed.eq_str_bool (yg I q (by simp))
    | int j => obtain ⟨t', rfl⟩ := ry; exact PySem.EqMixed.eq_str_int (yg I q (by simp))
    | str j => obtain ⟨t', rfl⟩ := ry; exact eq_str (yg I q zhh)
    | _ => exact absurd (show false = true from hs) Bool.false_ne_true
  | byt i =>
    obtain ⟨t, rfl⟩ := rx
    cases y with
    | byt j => obtain ⟨t', rfl⟩ := ry; exact PySem.W.eq_bytes (yg I q zhf)
    | _ => exact absurd (show false = true from hs) Bool.false_ne_true
  | _ => cases y <;> exact absurd (show false = true from hs) Bool.false_ne_true
theorem zdY : OpR X (compareOp .NotEq) rNe := by
  intro pins s σ H x y v u Q I rx ry h
  obtain ⟨hs, q⟩ := h
  cases x with
  | non =>
    cases rx
    cases y with
    | non => cases ry; exact PySem.EqNone.ne_none_none (yg I q (by simp))
    | bl j => cases ry; exact PySem.EqNone.ne_none_bool (yg I q (by simp))
    | int j => obtain ⟨t', rfl⟩ := ry; exact PySem.EqNone.ne_none_int (yg I q (by simp))
    | str j => obtain ⟨t', rfl⟩ := ry; exact PySem.EqNone.ne_none_str (yg I q (by simp))
    | _ => exact absurd (show false = true from hs) Bool.false_ne_true
  | bl i =>
    cases rx
    cases y with
    | non => cases ry; exact PySem.EqNone.ne_bool_none (yg I q (by simp))
    | bl j => cases ry; exact ne_bool (yg I q (congrArg not zjo))
    | str j => obtain ⟨t', rfl⟩ := ry; exact PySem.EqMixed.ne_bool_str (yg I q (by simp))
    | _ => exact absurd (show false = true from hs) Bool.false_ne_true
  | int i =>
    obtain ⟨t, rfl⟩ := rx
    cases y with
    | non => cases ry; exact PySem.EqNone.ne_int_none (yg I q (by simp))
    | int j => obtain ⟨t', rfl⟩ := ry; exact ne_int (yg I q (congrArg not zf4))
    | str j => obtain ⟨t', rfl⟩ := ry; exact PySem.EqMixed.ne_int_str (yg I q (by simp))
    | _ => exact absurd (show false = true from hs) Bool.false_ne_true
  | str i =>
    obtain ⟨t, rfl⟩ := rx
    cases y with
    | non => cases ry; exact PySem.EqNone.ne_str_none (yg I q (by simp))
    | bl j => cases ry; exact PySem.EqMixed.ne_str_bool (yg I q (by simp))
    | int j => obtain ⟨t', rfl⟩ := ry; exact PySem.EqMixed.ne_str_int (yg I q (by simp))
    | str j => obtain ⟨t', rfl⟩ := ry; exact ne_str (yg I q (congrArg not zhh))
    | _ => exact absurd (show false = true from hs) Bool.false_ne_true
  | byt i =>
    obtain ⟨t, rfl⟩ := rx
    cases y with
    | byt j => obtain ⟨t', rfl⟩ := ry; exact PySem.W.ne_bytes (yg I q (congrArg not zhf))
    | _ => exact absurd (show false = true from hs) Bool.false_ne_true
  | _ => cases y <;> exact absurd (show false = true from hs) Bool.false_ne_true
theorem jW : OpR X (compareOp .Lt) (rI0 fun i j => .bl (decide (i < j))) := zm3 fun _ _ _ _ _ _ _ q => lt_int q
theorem zf0 : OpR X (compareOp .LtE) (rI0 fun i j => .bl (decide (i <= j))) := zm3 fun _ _ _ _ _ _ _ q => le_int q
theorem qP : OpR X (compareOp .Gt) (rI0 fun i j => .bl (decide (j < i))) := zm3 fun _ _ _ _ _ _ _ q => gt_int q
theorem zgC : OpR X (compareOp .GtE) (rI0 fun i j => .bl (decide (j <= i))) := zm3 fun _ _ _ _ _ _ _ q => ge_int q
theorem zE (b : Expr) {op : CmpOp} (h : op ≠ .In := by decide) (h2 : op ≠ .NotIn := by decide) : behindInMarks op b = false := by
  have e1 : (op == CmpOp.In) = false := by cases op <;> first | rfl | exact absurd rfl h
  have e2 : (op == CmpOp.NotIn) = false := by cases op <;> first | rfl | exact absurd rfl h2
  cases b <;> simp [behindInMarks, e1, e2]
theorem zhr {op : CmpOp} {r : R2} (ho : OpR X (compareOp op) r) (ha : PE X a ta) (hb : PE X b tb) (hm : behindInMarks op b = false) : PE X (.Compare a [op] [b] pos) (tOp r ta tb) := by
  intro pins s σ H Q I h
  exact wpAny_Compare1 (zno ha hb I h fun v u s2 x y H2 I2 rx ry q => ho pins s2 σ H2 x y v u Q I2 rx ry q) hm
def zmP (t : TE) : TT := fun σ H Q => t σ H fun x H' => ∃ k, x = .bl k /\ Q k H'
theorem zw {op : CmpOp} {r : R2} (ho : OpR X (compareOp op) r) (ha : PE X a ta) (hb : PE X b tb) (hm : behindInMarks op b = false) : PT X (.Compare a [op] [b] pos) (zmP (tOp r ta tb)) := by
  intro pins s σ H Q I h
  refine wpAny_isTrue_Compare1 (thn (ha pins s σ H _ I h) fun v s1 ⟨x, H1, I1, r1, q1⟩ => thn (hb pins s1 σ H1 _ I1 q1) fun u s2 ⟨y, H2, I2, r2, q2⟩ =>
    thn (ho pins s2 σ H2 x y v u _ I2 r1 r2 q2) fun c s3 ⟨z, H3, I3, r3, k, e, q3⟩ => ?_) hm
  subst e
  cases r3
  exact wpAny_truthy_bool ⟨H3, I3, q3⟩
theorem zbp : (sizeLine : Nat) < 2 ^ 63 := by rw [sizeLine_eq]; decide
theorem zdQ {x : V} {us : List Value} (r : yx [x] us) : ∃ u, us = [u] /\ yq x u := by
  cases r with
  | cons r1 r2 => cases r2; exact ⟨_, rfl, r1⟩
theorem zmV {x y : V} {us : List Value} (r : yx [x, y] us) : ∃ u w', us = [u, w'] /\ yq x u /\ yq y w' := by
  cases r with
  | cons r1 r2 =>
    cases r2 with
    | cons r3 r4 => cases r4; exact ⟨_, _, rfl, r1, r3⟩
theorem jZ : vG X (.builtin "abs") (fun xs H Q => ∃ i, xs = [.int i] /\ Q (.int (if i < 0 then -i else i)) H) := by
  intro pins s σ H xs us Q I r h
  obtain ⟨i, rfl, q⟩ := h
  obtain ⟨u, rfl, t, rfl⟩ := zdQ r
  exact call_abs_int fun u tk => ⟨.int (if i < 0 then -i else i), H, I.tok _, ⟨_, rfl⟩, q⟩
theorem zbu (hc : X.calm = true) : vG X (.builtin "max") (fun xs H Q => ∃ i j, xs = [.int i, .int j] /\ Q (.int (if j > i then j else i)) H) := by
  intro pins s σ H xs us Q I r h
  obtain ⟨i, j, rfl, q⟩ := h
  obtain ⟨u, w', rfl, ⟨t, rfl⟩, ⟨t', rfl⟩⟩ := zmV r
  refine max_two_ints (I.ok.hd hc) fun h' tk k => ⟨_, H, I.kept k, ?_, q⟩
  by_cases hj : j > i
  . rw [if_pos hj, if_pos hj]; exact ⟨_, rfl⟩
  . rw [if_neg hj, if_neg hj]; exact ⟨_, rfl⟩
theorem zfd (hc : X.calm = true) : vG X (.builtin "min") (fun xs H Q => ∃ i j, xs = [.int i, .int j] /\ Q (.int (if j < i then j else i)) H) := by
  intro pins s σ H xs us Q I r h
  obtain ⟨i, j, rfl, q⟩ := h
  obtain ⟨u, w', rfl, ⟨t, rfl⟩, ⟨t', rfl⟩⟩ := zmV r
  refine min_two_ints (I.ok.hd hc) fun h' tk k => ⟨_, H, I.kept k, ?_, q⟩
  by_cases hj : j < i
  . rw [if_pos hj, if_pos hj]; exact ⟨_, rfl⟩
  . rw [if_neg hj, if_neg hj]; exact ⟨_, rfl⟩
theorem zix : vG X (.builtin "ord") (fun xs H Q => ∃ x, xs = [.str x] /\ x.length = 1 /\ Q (.int (x.cps.getD 0 0 : Nat)) H) := by
  intro pins s σ H xs us Q I r h
  obtain ⟨x, rfl, hz, q⟩ := h
  obtain ⟨u, rfl, t, rfl⟩ := zdQ r
  exact ord_of_one hz ⟨.int _, H, I.tok _, ⟨_, rfl⟩, q⟩
end
end L2
namespace L2
open PySem PySem.Spec PyProof.Rows
structure zlB (h : Heap) (x dx C : Addr) (mA : Str -> Option Value) : Prop where
  obj : h.get? x = some (PySem.W.instObj C dx)
  ns : h.Ns1 dx mA
  ne : dx ≠ x
theorem zgU {h : Heap} {dx : Addr} {mA : Str -> Option Value} (n : h.Ns1 dx mA) : ∃ od, h.get? dx = some od /\ ∀ name, PySem.W.lookIn name od = some (mA name) := by
  obtain ⟨o, es, ep, ho, hd, hk, _, hm⟩ := n
  refine ⟨o, ho, fun name => ?_⟩
  have e := hm name
  unfold nsFind findBy at e
  rw [<- Array.find?_toList] at e
  unfold PySem.W.lookIn
  rw [hd]
  dsimp only
  split
  . rename_i y q
    rw [q] at e
    exact congrArg some e
  . rename_i q
    rw [q] at e
    have a : es.toList.any (·.refKey) = false := by
      rw [List.any_eq_false]
      intro y hy
      obtain ⟨z, t, hkey⟩ := hk y (Array.mem_toList_iff.mp hy)
      simp [DictEntry.refKey, hkey]
    have a' : ¬ es.toList.any (·.refKey) = true := by rw [a]; exact Bool.false_ne_true
    rw [if_neg a']
    exact congrArg some e
theorem zlB.look {h : Heap} {x dx C : Addr} {mA : Str -> Option Value} (I : zlB h x dx C mA) : ∃ od, PySem.W.InstAt h x (PySem.W.instObj C dx) C (some od) /\ ∀ name, PySem.W.lookIn name od = some (mA name) :=
  let ⟨od, ho, hl⟩ := zgU I.ns
  ⟨od, ⟨I.obj, rfl, rfl, ho⟩, hl⟩
section
variable {prog : Program} {w : World} {A : Around} {E : Value -> Shared -> Prop} {s : Shared} {K : PySem.W.Frag} {x dx C f : Addr} {mA : Str -> Option Value} {name : Str} {v : Value}
theorem zk7 {expr : Bool} {Q : Value -> Shared -> Prop} (X : K.In s.heap) (I : zlB s.heap x dx C mA) (hg : PySem.W.plainGet K C name = true) (hh : PySem.W.hasDictIn K C = true)
    (ha : PySem.W.findIn K (.ref C) name = some none) (hv : mA name = some v) (hv' : PySem.W.handedIn v = true) (h : Q v { s with toks := s.toks + 1 }) :
    wpAny (model prog w) A (getAttr (.ref x) name expr) Q E s := by
  obtain ⟨od, J, hl⟩ := I.look
  exact PySem.W.get_value X J (PySem.W.plainGet_of hg).1 (PySem.W.findObj_own hh ha rfl (by rw [hl, hv])) hv' h
theorem zhA {pl : Sem Bool} {Q : Value × List Value -> Shared -> Prop} (X : K.In s.heap) (I : zlB s.heap x dx C mA) (hg : PySem.W.plainGet K C name = true)
    (hf : PySem.W.findIn K (.ref C) name = some (some (.ref f))) (ht : PySem.W.isFn K (.ref f) = true) (hv : mA name = none) (h : Q (.ref f, [.ref x]) s) :
    wpAny (model prog w) A (getMethod (.ref x) name pl) Q E s := by
  obtain ⟨od, J, hl⟩ := I.look
  exact PySem.W.method_fn X J (PySem.W.plainGet_of hg).1 (PySem.W.plainGet_of hg).2 hf (beq_iff_eq.mp ht) (by show (PySem.W.lookIn name od).map (·.isSome) = some false; rw [hl, hv]; rfl) h
theorem zkr {ns : List Str} {Q : Unit -> Shared -> Prop} (X : K.In s.heap) (I : zlB s.heap x dx C mA)
    (hs : PySem.W.findIn K (.ref C) "__setattr__" = some (some (.builtin "object.__setattr__"))) (hp : PySem.W.plainOver K C = true) (ht : PySem.W.takerIn K C name = some none) (hh : PySem.W.hasDictIn K C = true)
    (hw : PySem.Within mA ns) (hsz : ns.length <= sizeLine)
    (h : ∀ h', zlB h' x dx C (fun y => if y = name then some v else mA y) -> Heap.SameBut dx s.heap h' -> Q () { s with heap := h', toks := s.toks + 2 }) :
    wpAny (model prog w) A (setAttr (.ref x) name v) Q E s := by
  obtain ⟨od, J, hl⟩ := I.look
  refine PySem.W.set_plain X J hs (PySem.W.osa_open (s := { s with toks := s.toks + 1 }) (r := none) X J hp ht fun b => ?_)
  obtain ⟨cd, hc, hd'⟩ := PySem.W.any_some hh
  have hx : s.heap.get? x = some ⟨.ref C, some dx, .plain, #[]⟩ := I.obj
  refine wpAny_bind (wpAny_pure (wpAny_bind (wpAny_bind (wpAny_loadPart hx (wpAny_bind (PySem.W.Looks.here (s := { s with toks := s.toks + 1 }) (PySem.W.looks_clsIn X hc) ?_))))))
  rw [hd']
  refine wpAny_pure (a := some dx) (wpAny_bind (wpAny_pure (wpAny_bind ?_)))
  refine wpAny_nsSet1 (s := { s with toks := s.toks + 1 }) I.ns fun h' hn2 hs2 => ?_
  obtain ⟨oD, esD, epD, hoD, hdD, hcD⟩ := hn2.count (PySem.Within.cons name v hw)
  refine wpAny_bind (wpAny_lookBehind hoD (by rw [hdD]; exact pastItsLine_dict (Nat.le_trans hcD (by rw [List.length_cons]; omega))) ?_)
  exact wpAny_pure (h _ ⟨(hs2.2 _ (Ne.symm I.ne)).trans I.obj, hn2, I.ne⟩ hs2)
theorem zhY {R : Result -> Shared -> Prop} {vs : List Value} {kw : List (Str × Value)} (X : K.In s.heap) (hm : PySem.W.makesIn K C = true)
    (hi : PySem.W.findIn K (.ref C) "__init__" = some (some (.ref f))) (hf : PySem.W.typeIn K (.ref f) = some (.type "function"))
    (h : codeAny (model prog w) (A.under (.builtin "type.__call__" ⟨.ref C :: vs, kw⟩)) (.call (.ref f) ⟨.ref (s.heap.objs.size + 1) :: vs, kw⟩) (PySem.W.InitBack (s.heap.objs.size + 1) R)
      { s with heap := (s.heap.push PySem.W.emptyDict).push (PySem.W.instObj C s.heap.objs.size) }) :
    codeAny (model prog w) A (.call (.ref C) ⟨vs, kw⟩) R s := by
  obtain ⟨hh, g, d, t, os⟩ := s
  exact PySem.W.make_core (PySem.W.makes_of X hm) (PySem.W.looks_findIn X hi) (fun self => PySem.W.bind_fn X self hf) (.inl rfl) h
theorem zfo {R : Result -> Shared -> Prop} (X : K.In s.heap) (hm : PySem.W.makesIn K C = true)
    (hi : PySem.W.findIn K (.ref C) "__init__" = some (some (.builtin "object.__init__")))
    (hb : ∀ self, PySem.W.Looks (model prog w) s.heap (bindSpecial (.builtin "object.__init__") self) (.builtin "object.__init__", [self]))
    (h : codeAny (model prog w) (A.under (.builtin "type.__call__" ⟨[.ref C], []⟩)) (.call (.builtin "object.__init__") ⟨[.ref (s.heap.objs.size + 1)], []⟩) (PySem.W.InitBack (s.heap.objs.size + 1) R)
      { s with heap := (s.heap.push PySem.W.emptyDict).push (PySem.W.instObj C s.heap.objs.size) }) :
    codeAny (model prog w) A (.call (.ref C) ⟨[], []⟩) R s := by
  obtain ⟨hh, g, d, t, os⟩ := s
  exact PySem.W.make_core (PySem.W.makes_of X hm) (PySem.W.looks_findIn X hi) hb (.inr ⟨rfl, rfl⟩) h
end
def j1 (f : Str) (v : V) : List (Str × V) -> List (Str × V)
  | [] => [(f, v)]
  | (g, x) :: r => if g = f then (g, v) :: r else (g, x) :: j1 f v r
theorem vo (f g : Str) (v : V) : ∀ fs : List (Str × V), (j1 f v fs).lookup g = if g = f then some v else fs.lookup g
  | [] => by
    show List.lookup g [(f, v)] = _
    by_cases h : g = f
    . have hb : (g == f) = true := beq_iff_eq.mpr h
      simp only [List.lookup, hb, if_pos h]
    . have hb : (g == f) = false := beq_eq_false_iff_ne.mpr h
      simp only [List.lookup, hb, if_neg h]
  | (k, x) :: r => by
    have ih := vo f g v r
    rw [show j1 f v ((k, x) :: r) = (if k = f then (k, v) :: r else (k, x) :: j1 f v r) from rfl]
    by_cases hk : k = f
    . rw [if_pos hk]
      by_cases h : g = k
      . have hb : (g == k) = true := beq_iff_eq.mpr h
        simp only [List.lookup, hb, if_pos (h.trans hk)]
      . have hb : (g == k) = false := beq_eq_false_iff_ne.mpr h
        simp only [List.lookup, hb, if_neg (fun e : g = f => h (e.trans hk.symm))]
    . rw [if_neg hk]
      by_cases h : g = k
      . have hb : (g == k) = true := beq_iff_eq.mpr h
        simp only [List.lookup, hb, if_neg (fun e : g = f => hk (h.symm.trans e))]
      . have hb : (g == k) = false := beq_eq_false_iff_ne.mpr h
        simp only [List.lookup, hb]
        exact ih
theorem kH (f : Str) (v : V) : ∀ fs : List (Str × V), f ∈ (j1 f v fs).map (·.1) /\ ∀ g, g ∈ fs.map (·.1) -> g ∈ (j1 f v fs).map (·.1)
  | [] => ⟨by simp [j1], fun g h => by simp at h⟩
  | (k, x) :: r => by
    obtain ⟨i1, i2⟩ := kH f v r
    rw [show j1 f v ((k, x) :: r) = (if k = f then (k, v) :: r else (k, x) :: j1 f v r) from rfl]
    by_cases hk : k = f
    . rw [if_pos hk]
      subst hk
      exact ⟨by simp, fun g h => by simpa using h⟩
    . rw [if_neg hk]
      refine ⟨?_, fun g h => ?_⟩
      . rw [List.map_cons]
        exact List.mem_cons_of_mem _ i1
      . rw [List.map_cons] at h ⊢
        rcases List.mem_cons.mp h with e | e
        . exact List.mem_cons.mpr (.inl e)
        . exact List.mem_cons_of_mem _ (i2 g e)
theorem kv (f : Str) (v : V) : ∀ fs : List (Str × V), (j1 f v fs).length <= fs.length + 1
  | [] => by simp [j1]
  | (k, x) :: r => by
    have ih := kv f v r
    rw [show j1 f v ((k, x) :: r) = (if k = f then (k, v) :: r else (k, x) :: j1 f v r) from rfl]
    by_cases hk : k = f
    . rw [if_pos hk, List.length_cons, List.length_cons]; omega
    . rw [if_neg hk, List.length_cons, List.length_cons]; omega
theorem zht.some_of {v : V} {o : Option Value} (r : zht (some v) o) : ∃ u, o = some u /\ yq v u := by
  cases o with
  | none => exact (show False from r).elim
  | some u => exact ⟨u, rfl, r⟩
theorem zht.none_of {o : Option Value} (r : zht none o) : o = none := by
  cases o with
  | none => rfl
  | some u => exact (show False from r).elim
theorem zgQ {v : V} {u : Value} (r : yq v u) : PySem.W.handedIn u = true := by
  cases v with
  | non => cases (show u = Value.none from r); rfl
  | bl b => cases (show u = Value.bool b from r); rfl
  | int i => obtain ⟨t, e⟩ := (show ∃ t, u = Value.int i t from r); cases e; rfl
  | str x => obtain ⟨t, e⟩ := (show ∃ t, u = Value.str x t from r); cases e; rfl
  | byt b => obtain ⟨t, e⟩ := (show ∃ t, u = Value.bytes b t from r); cases e; rfl
  | flt b => obtain ⟨t, e⟩ := (show ∃ t, u = Value.float b t from r); cases e; rfl
  | ref a => cases (show u = Value.ref a from r); rfl
  | ty n => cases (show u = Value.type n from r); rfl
section
variable {P : Program} {w : World} {H H' : Hp} {h h' : Heap} {a C dx : Addr} {fs fs' : List (Str × V)}
theorem zbY (hok : HOk P w H h) (e : H a = some (.ins C dx fs)) : ∃ mA, zlB h a dx C mA /\ (∀ f, zht (fs.lookup f) (mA f)) /\ PySem.Within mA (fs.map (·.1)) /\ fs.length <= 1000 /\ H dx = some (.own a) := by
  obtain ⟨d, z, ne, ob, mA, n, r, q⟩ := (show qo P w H h a (.ins C dx fs) from hok a _ e)
  exact ⟨mA, ⟨ob, n, ne⟩, r, q, z, d⟩
end
structure Cls (K : PySem.W.Frag) (C : Addr) : Prop where
  pg : PySem.W.plainGet K C Str.empty = true
  hd : PySem.W.hasDictIn K C = true
  po : PySem.W.plainOver K C = true
  sa : PySem.W.findIn K (.ref C) "__setattr__" = some (some (.builtin "object.__setattr__"))
theorem Cls.get {K : PySem.W.Frag} {C : Addr} (c : Cls K C) (f : Str) : PySem.W.plainGet K C f = true := c.pg
def zX (K : PySem.W.Frag) (C : Addr) (f : Str) : Prop := PySem.W.findIn K (.ref C) f = some none
theorem zX.taker {K : PySem.W.Frag} {C : Addr} {f : Str} (n : zX K C f) : PySem.W.takerIn K C f = some none := by
  unfold PySem.W.takerIn
  rw [show PySem.W.findIn K (.ref C) f = some none from n]
  rfl
structure zmD (K : PySem.W.Frag) (C : Addr) (m : Str) (f : Addr) : Prop where
  at_ : PySem.W.findIn K (.ref C) m = some (some (.ref f))
  fn : PySem.W.isFn K (.ref f) = true
  kp : PySem.W.keepIn K (.ref f) = true
section
variable {X : Cx} {pins : List (Addr × Obj)} {σ : St} {H : Hp} {s : Shared} {a C dx : Addr} {fs : List (Str × V)} {f : Str} {v : V} {A : Around} {E : Value -> Shared -> Prop}
theorem zew {b : Bool} {Q : Value -> Shared -> Prop} (I : Inv X pins σ H s) (e : H a = some (.ins C dx fs)) (c : Cls X.K C) (n : zX X.K C f) (l : fs.lookup f = some v)
    (h : ∀ u s', Inv X pins σ H s' -> yq v u -> Q u s') : wpAny (model X.prog X.w) A (getAttr (.ref a) f b) Q E s := by
  obtain ⟨mA, O, r, _, _, _⟩ := zbY I.hok e
  obtain ⟨u, hu, ru⟩ := zht.some_of (v := v) (o := mA f) (by rw [<- l]; exact r f)
  exact zk7 I.kIn O (c.get f) c.hd n hu (zgQ ru) (h u _ (I.tok _) ru)
theorem vN {m : Str} {g : Addr} {pl : Sem Bool} {Q : Value × List Value -> Shared -> Prop} (I : Inv X pins σ H s) (e : H a = some (.ins C dx fs)) (c : Cls X.K C) (k : zmD X.K C m g) (l : fs.lookup m = none)
    (h : Q (.ref g, [.ref a]) s) : wpAny (model X.prog X.w) A (getMethod (.ref a) m pl) Q E s := by
  obtain ⟨mA, O, r, _, _, _⟩ := zbY I.hok e
  have hn : mA m = none := zht.none_of (by rw [<- l]; exact r m)
  exact zhA I.kIn O (c.get m) k.at_ k.fn hn h
theorem zdH {y : V} {u : Value} {Q : Unit -> Shared -> Prop} (I : Inv X pins σ H s) (e : H a = some (.ins C dx fs)) (c : Cls X.K C) (n : zX X.K C f) (hl : fs.length < 1000) (ry : yq y u)
    (h : ∀ s', Inv X pins σ (upd H a (.ins C dx (j1 f y fs))) s' -> Q () s') : wpAny (model X.prog X.w) A (setAttr (.ref a) f u) Q E s := by
  obtain ⟨mA, O, r, wi, _, ho⟩ := zbY I.hok e
  have hz : (fs.map (·.1)).length <= sizeLine := by rw [List.length_map, sizeLine_eq]; omega
  refine zkr I.kIn O c.sa c.po n.taker c.hd wi hz fun h' O' sb => h _ ?_
  have hd : ∃ o, h'.get? dx = some o := let ⟨o, _, _, e', _⟩ := O'.ns; ⟨o, e'⟩
  refine I.write (x := a) (e := dx) (by rw [e]; exact True.intro) (.inr ho) (fun b q hb z => (sb.2 b hb).trans z) hd ?_
  refine ⟨by rw [zk O.ne]; exact ho, ?_, O.ne, O'.obj, _, O'.ns, fun g => ?_, fun g hg => ?_⟩
  . have := kv f y fs; omega
  . show zht ((j1 f y fs).lookup g) (if g = f then some u else mA g)
    rw [vo]
    by_cases q : g = f
    . rw [if_pos q, if_pos q]; exact ry
    . rw [if_neg q, if_neg q]; exact r g
  . by_cases q : g = f
    . rw [q]; exact (kH f y fs).1
    . refine (kH f y fs).2 g (wi g fun z => hg ?_)
      show (if g = f then some u else mA g) = none
      rw [if_neg q]; exact z
theorem Inv.made (I : Inv X pins σ H s) : Inv X pins σ (upd (upd H s.heap.objs.size (.own (s.heap.objs.size + 1))) (s.heap.objs.size + 1) (.ins C s.heap.objs.size []))
    { s with heap := (s.heap.push PySem.W.emptyDict).push (PySem.W.instObj C s.heap.objs.size) } := by
  have e1 : (s.heap.push PySem.W.emptyDict).get? s.heap.objs.size = some PySem.W.emptyDict := Heap.get?_push_size s.heap rfl
  have e2 : ((s.heap.push PySem.W.emptyDict).push (PySem.W.instObj C s.heap.objs.size)).get? (s.heap.objs.size + 1) = some (PySem.W.instObj C s.heap.objs.size) := by
    have := Heap.get?_push_size (s.heap.push PySem.W.emptyDict) (o := PySem.W.instObj C s.heap.objs.size) rfl
    rwa [Heap.size_push] at this
  have e3 : (s.heap.push PySem.W.emptyDict).Ns s.heap.objs.size (fun _ => none) := ⟨PySem.W.emptyDict, #[], _, e1, rfl, (fun e he => absurd he (by simp)), fun _ => rfl⟩
  have I1 := I.laid (a := s.heap.objs.size) (o := .own (s.heap.objs.size + 1)) (h' := s.heap.push PySem.W.emptyDict) (t' := s.toks) (fun b u q => Heap.get?_push_of_some _ q) (Nat.le_refl _) ⟨_, e1⟩
  refine I1.laid (a := s.heap.objs.size + 1) (o := .ins C s.heap.objs.size []) (t' := s.toks) (fun b u q => Heap.get?_push_of_some _ q) (Nat.le_of_eq (Heap.size_push _ _)) ?_
  have ne : s.heap.objs.size ≠ s.heap.objs.size + 1 := Nat.ne_of_lt (Nat.lt_succ_self _)
  refine ⟨by rw [zk ne, zc], Nat.zero_le _, ne, e2, fun _ => none, (Heap.Ns1.of_empty e3).at fun o q => Heap.get?_push_of_some _ q, fun _ => True.intro, fun y hy => absurd rfl hy⟩
theorem zkz {prog : Program} {w : World} {env : Env} {e : Expr} {f : Str} {pos : Pos} {s : Shared} {Q : Value -> Shared -> Prop} (hb : attributeBase e f env (eval e env) = eval e env)
    (h : wpAny (model prog w) A (eval e env) (fun o s₁ => wpAny (model prog w) A (getAttr o f true) Q E s₁) E s) : wpAny (model prog w) A (eval (.Attribute e f pos) env) Q E s :=
  Attribute_any_ h (by rw [arm_eval_Attribute, hb])
end
def znG (K : PySem.W.Frag) (ta : TE) (f : Str) : TE := fun σ H Q => ta σ H fun x H1 => ∃ a C dx fs v, x = .ref a /\ H1 a = some (.ins C dx fs) /\ Cls K C /\ zX K C f /\ fs.lookup f = some v /\ Q v H1
def zop (K : PySem.W.Frag) (ta tv : TE) (f : Str) : TS := fun D σ H => tv σ H fun y H1 => ta σ H1 fun x H2 => ∃ a C dx fs, x = .ref a /\ H2 a = some (.ins C dx fs) /\ Cls K C /\ zX K C f /\ fs.length < 1000 /\
  D.nx σ (upd H2 a (.ins C dx (j1 f y fs)))
section
variable {X : Cx} {o e value : Expr} {f : Str} {pos pos' tpos : Pos} {ta tv : TE}
theorem zy (he : PE X e ta) (hb : attributeBase e f X.env (eval e X.env) = eval e X.env) : PE X (.Attribute e f pos) (znG X.K ta f) := by
  intro pins s σ H Q I h
  refine zkz hb (thn (he pins s σ H _ I h) fun u s1 ⟨x, H1, I1, rx, a, C, dx, fs, v, ex, ea, c, n, l, q⟩ => ?_)
  subst ex
  obtain rfl : u = Value.ref a := rx
  exact zew I1 ea c n l fun u' s2 I2 ru => ⟨v, H1, I2, ru, q⟩
theorem z9 (ha : PE X o ta) (hv : PE X value tv) (hs : swapsWith value (some (.Attribute o f pos')) pos.line X.env = pure false) : PS X (.Assign [.Attribute o f pos'] value pos) (zop X.K ta tv f) := by
  intro pins s σ H D I h
  refine plainObj_wpAny_Assign_Attribute (thn (hv pins s σ H _ I h) fun u s1 ⟨y, H1, I1, ry, q⟩ => thn (ha pins s1 σ H1 _ I1 q) fun ov s2 ⟨x, H2, I2, rx, a, C, dx, fs, ex, ea, c, n, l, q2⟩ => ?_) hs
  subst ex
  obtain rfl : ov = Value.ref a := rx
  exact zdH I2 ea c n l ry fun s3 I3 => ⟨σ, _, I3, q2⟩
end
section
variable {X : Cx} {pins : List (Addr × Obj)} {σ : St} {H : Hp} {s : Shared} {A : Around} {E : Value -> Shared -> Prop} {Q : Value -> Shared -> Prop} {c : Value} {b : Bool}
end
end L2
namespace L2
open PySem PySem.Spec PyProof.Rows
structure yC (k : Nat) (A : Around) : Prop where
  hd : A.handled = none
  dp : A.depth + 3 * k + 5 < recursionLimit
  un : A.units + 16 * k + 200 < cLine
theorem yC.mono {j k : Nat} {A : Around} (r : yC k A) (h : j <= k) : yC j A := ⟨r.hd, by have := r.dp; omega, by have := r.un; omega⟩
theorem yC.deeper {k : Nat} {A : Around} (r : yC (k + 1) A) (env : Env) : yC k (A.deeper env) :=
  ⟨r.hd, by have := r.dp; show A.depth + 1 + 3 * k + 5 < _; omega, by have := r.un; show A.units + 3 + 16 * k + 200 < _; omega⟩
theorem zem {A : Around} {C : Addr} {us : List Value} {kw : List (Str × Value)} : (A.under (.builtin "type.__call__" ⟨.ref C :: us, kw⟩)).depth = A.depth + 1 := by
  first | rfl | simp [Around.under, Code.weight, Code.isCreation, Code.isGuard, Code.isCaller, Code.frames, Code.isFrame, guardIds]
theorem zdX {A : Around} {C : Addr} {us : List Value} {kw : List (Str × Value)} : (A.under (.builtin "type.__call__" ⟨.ref C :: us, kw⟩)).units = A.units + 1 := by
  first | rfl | simp [Around.under, Code.cUnits, Code.frames, Code.isFrame]
theorem yC.make {k : Nat} {A : Around} (r : yC (k + 1) A) (C : Addr) (us : List Value) (kw : List (Str × Value)) : yC k (A.under (.builtin "type.__call__" ⟨.ref C :: us, kw⟩)) :=
  ⟨r.hd, by have := r.dp; rw [zem]; omega, by have := r.un; rw [zdX]; omega⟩
theorem yC.depth {k : Nat} {A : Around} (r : yC k A) : A.depth < recursionLimit := by have := r.dp; omega
theorem yC.units {k : Nat} {A : Around} (r : yC k A) : A.units + 64 < cLine := by have := r.un; omega
def znL : TA := fun _ H Q => Q [] H
def znc (ta : TE) (tr : TA) : TA := fun σ H Q => ta σ H fun x H1 => tr σ H1 fun xs H2 => Q (x :: xs) H2
section
variable {X : Cx} {e : Expr} {es : List Expr} {te : TE} {t : TA} {pos : Pos}
theorem ze : PA X [] znL := fun _ _ _ _ H Q I h => Calls.spliced_nil ⟨[], H, I, .nil, h⟩
theorem za (ha : PE X e te) (hr : PA X es t) (hs : starEach (e :: es) X.env = (false, eval e X.env) :: starEach es X.env := by rfl) : PA X (e :: es) (znc te t) := by
  intro pos pins s σ H Q I h
  rw [hs]
  show wpAny _ _ (spliced ((false, eval e X.env) :: backTo pos (starEach es X.env))) _ _ s
  refine Calls.spliced_cons (thn (ha pins s σ H _ I h) fun u s1 ⟨x, H1, I1, r1, q1⟩ => ?_)
  exact thn (hr pos pins s1 σ H1 _ I1 q1) fun us s2 ⟨xs, H2, I2, r2, q2⟩ => ⟨x :: xs, H2, I2, .cons r1 r2, q2⟩
def znZ (t : TA) : TE := fun σ H Q => t σ H fun xs H1 => xs.length <= sizeLine /\ ∀ p, H1 p = none -> Q (.ref p) (upd H1 p (.tup xs))
def zn3 (t : TA) : TE := fun σ H Q => t σ H fun xs H1 => xs.length <= sizeLine /\ ∀ p, H1 p = none -> Q (.ref p) (upd H1 p (.lst xs))
theorem zjn {x1} (h : PA X es t) : PE X (.Tuple es x1 pos) (znZ t) := by
  intro pins s σ H Q I hq
  refine wpAny_Tuple_spliced (thn (h pos pins s σ H _ I hq) fun us s1 ⟨xs, H1, I1, r, z, q⟩ => ⟨by rw [<- r.length]; exact z, ?_⟩)
  have hf : H1 s1.heap.objs.size = none := I1.hok.fresh (Nat.le_refl _)
  refine ⟨.ref s1.heap.objs.size, upd H1 s1.heap.objs.size (.tup xs), I1.laid (t' := s1.toks) (fun b u e => Heap.get?_push_of_some _ e) (Nat.le_refl _) ?_, rfl, q _ hf⟩
  exact ⟨z, us, r, ⟨_, Heap.get?_push_size _ rfl, rfl, _, rfl⟩⟩
theorem yc (h : PA X es t) : PE X (.List es pos) (zn3 t) := by
  intro pins s σ H Q I hq
  refine wpAny_List_spliced (thn (h pos pins s σ H _ I hq) fun us s1 ⟨xs, H1, I1, r, z, q⟩ => ⟨by rw [<- r.length]; exact z, ?_⟩)
  have hf : H1 s1.heap.objs.size = none := I1.hok.fresh (Nat.le_refl _)
  refine ⟨.ref s1.heap.objs.size, upd H1 s1.heap.objs.size (.lst xs), I1.laid (t' := s1.toks) (fun b u e => Heap.get?_push_of_some _ e) (Nat.le_refl _) ?_, rfl, q _ hf⟩
  exact ⟨z, us, 0, r, Heap.get?_push_size _ rfl⟩
end
abbrev Sp := List V -> Hp -> VK -> XK -> Prop
abbrev CXT := List Env -> Hp -> Shared -> XK -> Value -> Shared -> Prop
structure zjV (P : Program) (w : World) (K : PySem.W.Frag) (mg : Str -> Option Value) (base : Heap) (A : Around) (outer : List Env) (s : Shared) (H : Hp) : Prop where
  frames : A.frames = some outer
  mod : Mod K mg base
  bs : ∀ b o, base.get? b = some o -> s.heap.get? b = some o /\ H b = none
  bsz : base.objs.size <= s.heap.objs.size
  funs : s.heap.FunFrames base outer
  frf : ∀ b ∈ frs outer, H b = none
  hok : HOk P w H s.heap
  bare : AllBare s.gens
def CE (outer : List Env) (P : Program) (w : World) (H : Hp) (s : Shared) (Q : VK) (u : Value) (s' : Shared) : Prop :=
  ∃ v H', s'.os = s.os /\ AllBare s'.gens /\ Un (frs outer) [] H H' s.heap s'.heap /\ HOk P w H' s'.heap /\ yq v u /\ Q v H'
def CR (CX : CXT) (outer : List Env) (P : Program) (w : World) (H : Hp) (s : Shared) (Q : VK) (E : XK) (r : Result) (s' : Shared) : Prop :=
  match r with
  | .ok (.ret u) => CE outer P w H s Q u s'
  | .ok _ => False
  | .error e => CX outer H s E e s'
structure z0 (P : Program) (w : World) (K : PySem.W.Frag) (mg : Str -> Option Value) (base : Heap) (CX : CXT) (k : Nat) (f : Addr) (fd : FuncData) (ps : List Str) (sp : Sp) : Prop where
  len : ∀ vs H Q E, sp vs H Q E -> vs.length = ps.length
  run : ∀ (A : Around) (outer : List Env) (s : Shared) (H : Hp) (args : Args) (us : List Value) (vs : List V) (Q : VK) (E : XK), yC k A -> zjV P w K mg base A outer s H -> BindsTo s fd args (ps.zip us) -> yx vs us -> sp vs H Q E ->
    codeAny (model P w) A (.call (.ref f) args) (CR CX outer P w H s Q E) s
theorem zjV.make {P : Program} {w : World} {K : PySem.W.Frag} {mg : Str -> Option Value} {base : Heap} {A : Around} {outer : List Env} {s : Shared} {H : Hp} (e : zjV P w K mg base A outer s H) (C : Addr) (us : List Value) (kw : List (Str × Value)) :
    zjV P w K mg base (A.under (.builtin "type.__call__" ⟨.ref C :: us, kw⟩)) outer s H := ⟨by first | exact e.frames | (simpa [Around.under, Code.envs, Code.isFrame, pushEnvs] using e.frames), e.mod, e.bs, e.bsz, e.funs, e.frf, e.hok, e.bare⟩
section
variable {X : Cx} {pins : List (Addr × Obj)} {σ : St} {H : Hp} {s s' : Shared}
theorem Inv.env0 (I : Inv X pins σ H s) : zjV X.prog X.w X.K X.mg X.base X.A X.stack s H :=
  ⟨I.ok.frames, I.ok.mod, I.bs, Nat.le_trans I.ok.bsz I.sz, I.stack, I.stkFree, I.hok, I.bare⟩
theorem Inv.after {Q : VK} {u : Value} (I : Inv X pins σ H s) (h : CE X.stack X.prog X.w H s Q u s') : EP X pins σ Q u s' := by
  obtain ⟨v, H', os, bare, un, hok, r, q⟩ := h
  obtain ⟨hh, g, d, t, os'⟩ := s'
  obtain rfl : os' = s.os := os
  exact ⟨v, H', I.call (h' := hh) (g' := g) (d' := d) (t' := t) (ch := []) un hok bare (fun b z => absurd z (by simp)), r, q⟩
end
def zic (sp : Sp) (dvs : List V) (E : XK) (t : TA) : TE := fun σ H Q => t σ H fun vs H1 => sp (vs ++ dvs) H1 Q E
def zh1 (C : Addr) (m : Str) (sp : Sp) (dvs : List V) (E : XK) (ta : TE) (t : TA) : TE := fun σ H Q => ta σ H fun x H1 => ∃ a dx fs, x = .ref a /\ H1 a = some (.ins C dx fs) /\ fs.lookup m = none /\
  t σ H1 fun vs H2 => sp (x :: (vs ++ dvs)) H2 Q E
def zlY (C : Addr) (sp : Sp) (dvs : List V) (E : XK) (t : TA) : TE := fun σ H Q => t σ H fun vs H1 => ∀ x dx, H1 x = none -> H1 dx = none -> dx ≠ x ->
  sp (.ref x :: (vs ++ dvs)) (upd (upd H1 dx (.own x)) x (.ins C dx [])) (fun v H2 => v = .non /\ Q (.ref x) H2) E
def qL (K : PySem.W.Frag) (fd : FuncData) (ps : List Str) (ds : List Value) : Prop :=
  ∀ (s : Shared) (us : List Value), K.In s.heap -> (us ++ ds).length = ps.length -> BindsTo s fd ⟨us, []⟩ (ps.zip (us ++ ds))
theorem qL.all {K : PySem.W.Frag} {fd : FuncData} {ps : List Str} (h : ∀ us : List Value, us.length = ps.length -> bindArgs fd ⟨us, []⟩ = pure (ps.zip us)) : qL K fd ps [] := fun s us _ hl => by
  rw [List.append_nil] at hl ⊢
  exact .of_eq (h us hl)
def qF (CX : CXT) (X : Cx) (E : XK) : Prop := ∀ (pins : List (Addr × Obj)) (σ : St) (H : Hp) (s : Shared) (e : Value) (s' : Shared), Inv X pins σ H s -> CX X.stack H s E e s' -> X.xe e s'
section
variable {X : Cx} {CX : CXT} {k : Nat} {f C : Addr} {fd : FuncData} {ps : List Str} {sp : Sp} {dvs : List V} {ds : List Value} {E : XK} {x m : Str} {p pos apos : Pos} {e o : Expr} {es : List Expr} {ta : TE} {t : TA}
theorem zda {pins : List (Addr × Obj)} {σ : St} {H : Hp} {s : Shared} {Q : VK} {us : List Value} {vs : List V} (F : z0 X.prog X.w X.K X.mg X.base CX k f fd ps sp) (hr : yC k X.A) (hb : qL X.K fd ps ds) (hd : yx dvs ds) (hx : qF CX X E)
    (I : Inv X pins σ H s) (r : yx vs us) (h : sp (vs ++ dvs) H Q E) : wpAny (model X.prog X.w) X.A (call (.ref f) us) (EP X pins σ Q) X.xe s := by
  have r2 : yx (vs ++ dvs) (us ++ ds) := r.append hd
  have hl : (us ++ ds).length = ps.length := by rw [<- r2.length]; exact F.len _ _ _ _ h
  refine wpAny_call (codeAny_mono (F.run X.A X.stack s H ⟨us, []⟩ (us ++ ds) (vs ++ dvs) Q E hr I.env0 (hb s us I.kIn hl) r2 h) fun r s' hq => ?_)
  cases r with
  | error e => exact hx pins σ H s e s' I hq
  | ok fl =>
    cases fl with
    | ret u => exact I.after hq
    | next => exact False.elim hq
    | brk => exact False.elim hq
    | cont => exact False.elim hq
theorem zb5 (F : z0 X.prog X.w X.K X.mg X.base CX k f fd ps sp) (hr : yC k X.A) (hg : Gl X x) (hm : X.mg x = some (.ref f)) (hk : PySem.W.keepIn X.K (.ref f) = true) (hb : qL X.K fd ps ds) (hd : yx dvs ds) (hx : qF CX X E)
    (ha : PA X (e :: es) t) (hdb : (x == ("__debug__" : Str)) = false := by decide) (he : starEach (e :: es) X.env = (false, eval e X.env) :: starEach es X.env := by rfl) (hpl : (backTo pos (starEach es X.env)).any (·.1) = false := by rfl) :
    PE X (.Call (.Name x p) (e :: es) [] pos) (zic sp dvs E t) := by
  intro pins s σ H Q I h
  refine wpAny_Call_Name_kw (yL I hg hm ?_ hdb)
  refine PySem.W.callWith_K (h₀ := X.base) I.ok.mod.kin hk (thn (ha pos pins s σ H _ I h) fun us s1 ⟨vs, H1, I1, r, q⟩ => ⟨I1.kIn, ?_⟩) he hpl
  exact zda F hr hb hd hx I1 r q
theorem zlr {pl : Sem Bool} (he : PE X o ta) (c : Cls X.K C) (hm : zmD X.K C m f) (F : z0 X.prog X.w X.K X.mg X.base CX k f fd ps sp) (hr : yC k X.A) (hb : qL X.K fd ps ds) (hd : yx dvs ds) (hx : qF CX X E) (ha : PA X (e :: es) t)
    (hst : starEach (e :: es) X.env = (false, eval e X.env) :: starEach es X.env := by rfl) (hpl : (backTo pos (starEach es X.env)).any (·.1) = false := by rfl)
    (ht : eval (.Call (.Attribute o m apos) (e :: es) [] pos) X.env = (do
      let ov <- eval o X.env
      standAt apos.atName
      let (f, first) <- holding [ov] (getMethod ov m pl)
      callWith pos f first (backTo pos (starEach (e :: es) X.env)) (backToKw pos (keywordEach [] X.env))) := by rfl) :
    PE X (.Call (.Attribute o m apos) (e :: es) [] pos) (zh1 C m sp dvs E ta t) := by
  intro pins s σ H Q I h
  refine PySem.W.methodCall_KW (pl := pl) (thn (he pins s σ H _ I h) fun u s1 ⟨x, H1, I1, rx, a, dx, fs, ex, ea, l, q⟩ => ?_) ht
  subst ex
  obtain rfl : u = Value.ref a := rx
  refine vN I1 ea c hm l ?_
  refine PySem.W.callWith_K (first := [.ref a]) (h₀ := X.base) I.ok.mod.kin hm.kp (thn (ha pos pins s1 σ H1 _ I1 q) fun us s2 ⟨vs, H2, I2, r, q2⟩ => ⟨I2.kIn, ?_⟩) hst hpl
  exact zda (us := .ref a :: us) (vs := .ref a :: vs) F hr hb hd hx I2 (.cons rfl r) q2
theorem zhM {pl : Sem Bool} (he : PE X o ta) (c : Cls X.K C) (hm : zmD X.K C m f) (F : z0 X.prog X.w X.K X.mg X.base CX k f fd ps sp) (hr : yC k X.A) (hb : qL X.K fd ps ds) (hd : yx dvs ds) (hx : qF CX X E)
    (ht : eval (.Call (.Attribute o m apos) [] [] pos) X.env = (do
      let ov <- eval o X.env
      standAt apos.atName
      let (f, first) <- holding [ov] (getMethod ov m pl)
      callWith pos f first (backTo pos (starEach [] X.env)) (backToKw pos (keywordEach [] X.env))) := by rfl) :
    PE X (.Call (.Attribute o m apos) [] [] pos) (zh1 C m sp dvs E ta znL) := by
  intro pins s σ H Q I h
  refine PySem.W.methodCall_KW (pl := pl) (thn (he pins s σ H _ I h) fun u s1 ⟨x, H1, I1, rx, a, dx, fs, ex, ea, l, q⟩ => ?_) ht
  subst ex
  obtain rfl : u = Value.ref a := rx
  refine vN I1 ea c hm l ?_
  exact PySem.W.callWith_K0 (first := [.ref a]) I1.kIn hm.kp (zda (us := [.ref a]) (vs := [.ref a]) F hr hb hd hx I1 (.cons rfl .nil) q)
structure Mk (K : PySem.W.Frag) (C f : Addr) : Prop where
  makes : PySem.W.makesIn K C = true
  init : PySem.W.findIn K (.ref C) "__init__" = some (some (.ref f))
  fn : PySem.W.isFn K (.ref f) = true
  kp : PySem.W.keepIn K (.ref C) = true
theorem ziP {pins : List (Addr × Obj)} {σ : St} {H : Hp} {s : Shared} {Q : VK} {us : List Value} {vs : List V} (M : Mk X.K C f) (F : z0 X.prog X.w X.K X.mg X.base CX k f fd ps sp) (hr : yC (k + 1) X.A) (hb : qL X.K fd ps ds) (hd : yx dvs ds)
    (hx : qF CX X E) (I : Inv X pins σ H s) (r : yx vs us)
    (h : ∀ x dx, H x = none -> H dx = none -> dx ≠ x -> sp (.ref x :: (vs ++ dvs)) (upd (upd H dx (.own x)) x (.ins C dx [])) (fun v H2 => v = .non /\ Q (.ref x) H2) E) :
    wpAny (model X.prog X.w) X.A (call (.ref C) us) (EP X pins σ Q) X.xe s := by
  have hq := h (s.heap.objs.size + 1) s.heap.objs.size (I.hok.fresh (Nat.le_succ _)) (I.hok.fresh (Nat.le_refl _)) (Nat.ne_of_lt (Nat.lt_succ_self _))
  have I2 := Inv.made (C := C) I
  have r2 : yx (V.ref (s.heap.objs.size + 1) :: (vs ++ dvs)) (Value.ref (s.heap.objs.size + 1) :: (us ++ ds)) := .cons rfl (r.append hd)
  have hl : (Value.ref (s.heap.objs.size + 1) :: us ++ ds).length = ps.length := by
    have e := r2.length
    rw [F.len _ _ _ _ hq] at e
    exact e.symm
  refine wpAny_call (zhY (f := f) I.kIn M.makes M.init (beq_iff_eq.mp M.fn) (codeAny_mono (F.run _ X.stack _ _ ⟨Value.ref (s.heap.objs.size + 1) :: us, []⟩ (Value.ref (s.heap.objs.size + 1) :: (us ++ ds)) _ _ E (hr.make C us [])
    (I2.env0.make C us []) (hb _ (Value.ref (s.heap.objs.size + 1) :: us) I2.kIn hl) r2 hq) fun r s' hq' => ?_))
  cases r with
  | error e => exact hx pins σ _ _ e s' I2 hq'
  | ok fl =>
    cases fl with
    | ret u =>
      obtain ⟨v, H', I3, rv, ev, q3⟩ := I2.after hq'
      subst ev
      exact ⟨rv, ⟨V.ref (s.heap.objs.size + 1), H', I3, rfl, q3⟩⟩
    | next => exact False.elim hq'
    | brk => exact False.elim hq'
    | cont => exact False.elim hq'
theorem zlF (M : Mk X.K C f) (F : z0 X.prog X.w X.K X.mg X.base CX k f fd ps sp) (hr : yC (k + 1) X.A) (hg : Gl X x) (hm : X.mg x = some (.ref C)) (hb : qL X.K fd ps ds) (hd : yx dvs ds) (hx : qF CX X E)
    (ha : PA X (e :: es) t) (hdb : (x == ("__debug__" : Str)) = false := by decide) (he : starEach (e :: es) X.env = (false, eval e X.env) :: starEach es X.env := by rfl) (hpl : (backTo pos (starEach es X.env)).any (·.1) = false := by rfl) :
    PE X (.Call (.Name x p) (e :: es) [] pos) (zlY C sp dvs E t) := by
  intro pins s σ H Q I h
  refine wpAny_Call_Name_kw (yL I hg hm ?_ hdb)
  refine PySem.W.callWith_K (h₀ := X.base) I.ok.mod.kin M.kp (thn (ha pos pins s σ H _ I h) fun us s1 ⟨vs, H1, I1, r, q⟩ => ⟨I1.kIn, ?_⟩) he hpl
  exact ziP M F hr hb hd hx I1 r q
end
section
variable {X : Cx} {CX : CXT} {k : Nat} {f C : Addr} {fd : FuncData} {ps ks : List Str} {sp : Sp} {E : XK} {x m : Str} {p pos apos kpos : Pos} {e o : Expr} {es : List Expr} {kws : List Keyword} {te ta : TE} {t tk : TA} {nm : Option Str}
variable {g : List Value -> List Value -> List Value} {gV : List V -> List V -> List V}
end
structure zn (N P : List Str) (sc : Scope) : Prop where
  kind : sc.kind = .function
  co : sc.isCoroutine = false
  gen : sc.isGenerator = false
  nd : N.Nodup
  pre : N.take P.length = P
  par : ∀ x ∈ P, sc.names.lookup x = some .local \/ sc.names.lookup x = some .cell
  nofree : ∀ y ∈ sc.names, y.2 ≠ .free
theorem zbj {kindOf : Str -> Option NameKind} {x : Str} : ∀ {binds : List (Str × Value)} {m : Str -> Option Value}, (∀ v, (x, v) ∉ binds) -> bindL kindOf binds m x = m x
  | [], _, _ => rfl
  | (n, v) :: r, m, h => by
    unfold bindL
    rw [zbj fun w hw => h w (List.mem_cons_of_mem _ hw)]
    split
    . have : x ≠ n := by rintro rfl; exact h v List.mem_cons_self
      simp [this]
    . rfl
theorem zbq {kindOf : Str -> Option NameKind} {x : Str} : ∀ {binds : List (Str × Value)} {m : Str -> Option Value}, (∀ v, (x, v) ∉ binds) -> bindC kindOf binds m x = m x
  | [], _, _ => rfl
  | (n, v) :: r, m, h => by
    unfold bindC
    rw [zbq fun w hw => h w (List.mem_cons_of_mem _ hw)]
    split
    . rfl
    . have : x ≠ n := by rintro rfl; exact h v List.mem_cons_self
      simp [this]
theorem za8 {kindOf : Str -> Option NameKind} {x : Str} {v : Value} : ∀ {P : List Str} {vs : List Value} {i : Nat} {m : Str -> Option Value}, P.Nodup -> P[i]? = some x -> vs[i]? = some v -> kindOf x = some .local ->
    bindL kindOf (P.zip vs) m x = some v
  | [], _, _, _, _, h, _, _ => by simp at h
  | _ :: _, [], _, _, _, _, h, _ => by simp at h
  | p :: P, w :: vs, 0, m, nd, h1, h2, hk => by
    simp at h1 h2; subst h1; subst h2
    show bindL kindOf ((p, w) :: P.zip vs) m p = _
    unfold bindL
    rw [zbj fun v hv => (List.nodup_cons.mp nd).1 (List.of_mem_zip hv).1, if_pos hk]
    simp
  | p :: P, w :: vs, i + 1, m, nd, h1, h2, hk => by
    show bindL kindOf ((p, w) :: P.zip vs) m x = _
    unfold bindL
    exact za8 (i := i) (List.nodup_cons.mp nd).2 (by simpa using h1) (by simpa using h2) hk
theorem za1 {kindOf : Str -> Option NameKind} {x : Str} {v : Value} : ∀ {P : List Str} {vs : List Value} {i : Nat} {m : Str -> Option Value}, P.Nodup -> P[i]? = some x -> vs[i]? = some v -> kindOf x ≠ some .local ->
    bindC kindOf (P.zip vs) m x = some v
  | [], _, _, _, _, h, _, _ => by simp at h
  | _ :: _, [], _, _, _, _, h, _ => by simp at h
  | p :: P, w :: vs, 0, m, nd, h1, h2, hk => by
    simp at h1 h2; subst h1; subst h2
    show bindC kindOf ((p, w) :: P.zip vs) m p = _
    unfold bindC
    rw [zbq fun v hv => (List.nodup_cons.mp nd).1 (List.of_mem_zip hv).1, if_neg hk]
    simp
  | p :: P, w :: vs, i + 1, m, nd, h1, h2, hk => by
    show bindC kindOf ((p, w) :: P.zip vs) m x = _
    unfold bindC
    exact za1 (i := i) (List.nodup_cons.mp nd).2 (by simpa using h1) (by simpa using h2) hk
def zaX (N : List Str) (vs : List V) : St := vs.map some ++ List.replicate (N.length - vs.length) none
def zkt (CX : CXT) (P : Program) (w : World) (K : PySem.W.Frag) (mg : Str -> Option Value) (base : Heap) (N : List Str) (qual : Str) (scope : Scope) (f : Addr) (cd : Value) (A : Around) (outer : List Env) (s : Shared) (H : Hp) (E : XK) : Cx where
  prog := P
  w := w
  K := K
  mg := mg
  base := base
  A := A.deeper (envOfC qual scope s.heap.objs.size f cd)
  N := N
  s_0 := s
  H_0 := H
  env := envOfC qual scope s.heap.objs.size f cd
  outer := outer
  stack := envOfC qual scope s.heap.objs.size f cd :: outer
  ex := []
  calm := true
  fn := fun _ => true
  pn := []
  xe := fun e s' => wpAny (model P w) (A.deeper (envOfC qual scope s.heap.objs.size f cd)) (leaving (envOfC qual scope s.heap.objs.size f cd) e) (fun _ s'' => CX outer H s E e s'') (fun e' s'' => CX outer H s E e' s'') s'
theorem zcW {sc : Scope} {n : Nat} {x : Str} (h : sc.names.lookup x = some .cell) : ∃ c, (cellsFrom n sc.names []).lookup x = some c := by
  have q := PySem.W.cellsFrom_some sc.names n [] (.inl h)
  exact Option.isSome_iff_exists.mp q
theorem zf2 {CX : CXT} {P : Program} {w : World} {K : PySem.W.Frag} {mg : Str -> Option Value} {base : Heap} {N ps : List Str} {qual : Str} {scope : Scope} {f : Addr} {cd : Value} {A : Around} {outer : List Env} {s s1 : Shared} {H : Hp} {E : XK} {us : List Value} {vs : List V}
    (S : zn N ps scope) (hd : A.handled = none) (e0 : zjV P w K mg base A outer s H) (hl : vs.length = ps.length) (r : yx vs us)
    (x : InCallC s s.heap.objs.size (bindL (envOfC qual scope s.heap.objs.size f cd).kindOf (ps.zip us) fun _ => none) (cellsFrom (s.heap.objs.size + 1) scope.names []) (bindC (envOfC qual scope s.heap.objs.size f cd).kindOf (ps.zip us) fun _ => none) s1) :
    Inv (zkt CX P w K mg base N qual scope f cd A outer s H E) [] (zaX N vs) H s1 := by
  have hpl : ps.length <= N.length := by have := congrArg List.length S.pre; rw [List.length_take] at this; omega
  obtain ⟨h1, tk, rfl, hk⟩ := x.done
  have noA : ∀ b : Addr, b ∉ (zkt CX P w K mg base N qual scope f cd A outer s H E).ex := fun b z => absurd (show b ∈ ([] : List Addr) from z) (by simp)
  refine ⟨⟨e0.mod, S.kind, rfl, rfl, Nat.le_refl _, fun y z c h1 h2 => ?_, fun y hy => ?_, fun y c _ h => ?_, fun _ => hd, Around.frames_deeper e0.frames, .inr ⟨rfl, rfl⟩, fun b z => absurd z (noA b), e0.bs, e0.bsz, fun b _ _ => noA b, fun b z => absurd z (noA b), e0.funs, e0.frf⟩,
    rfl, e0.bare, Un.kept hk, ⟨_, x.toInCall.ns, fun i y v h1 h2 h3 => ?_⟩, fun y c h => ⟨_, x.cell y c h⟩, e0.hok.fresh (Nat.le_refl _), fun y c h => ?_, fun p hp => absurd (show p ∈ ([] : List (Addr × Obj)) from hp) (by simp), e0.hok.kept hk, ?_⟩
  . exact name_of_addr x.apart (PySem.mem_of_lookup h1) (PySem.mem_of_lookup h2)
  . have hy : scope.names.lookup y = some .cell \/ scope.names.lookup y = some .free := hy
    rcases hy with hy | hy
    . exact zcW hy
    . exact absurd rfl (S.nofree _ (PySem.mem_of_lookup hy))
  . exact Nat.le_of_lt (x.above y c (PySem.mem_of_lookup h))
  . have hi : i < vs.length := by
      unfold zaX at h2
      by_cases hi : i < vs.length
      . exact hi
      . rw [List.getElem?_append_right (by simpa using hi)] at h2
        rw [List.getElem?_replicate] at h2
        split at h2 <;> cases h2
    have ha : vs[i]? = some v := by
      unfold zaX at h2
      rw [List.getElem?_append_left (by simpa using hi), List.getElem?_map] at h2
      cases e : vs[i]? with
      | none => rw [e] at h2; cases h2
      | some a => rw [e] at h2; cases h2; rfl
    obtain ⟨u, hu, rv⟩ := r.get ha
    have hp : ps[i]? = some y := by
      rw [<- S.pre, List.getElem?_take_of_lt (by omega)]; exact h1
    have ndP : ps.Nodup := by rw [<- S.pre]; exact S.nd.sublist (List.take_sublist _ _)
    refine ⟨u, rv, ?_⟩
    rcases S.par y (List.mem_of_getElem? hp) with k | k
    . exact .inl ⟨k, za8 ndP hp hu k⟩
    . obtain ⟨c, e⟩ := zcW (n := s.heap.objs.size + 1) k
      refine .inr ⟨.inl k, c, e, ?_⟩
      have q := x.cell y c e
      rw [za1 ndP hp hu (by show scope.names.lookup y ≠ _; rw [k]; decide)] at q
      exact q
  . exact e0.hok.fresh (Nat.le_of_lt (x.above y c (PySem.mem_of_lookup h)))
  . unfold zaX
    show _ = N.length
    rw [List.length_append, List.length_map, List.length_replicate]
    omega
theorem znC {CX : CXT} {P : Program} {w : World} {K : PySem.W.Frag} {mg : Str -> Option Value} {base : Heap} {k : Nat} {f : Addr} {name qual : Str} {params : Arguments} {body : List Stmt} {scope : Scope} {dV kV doc pm cdv ct oc : Value} {an od : Option Addr}
    {osl : Array (Option Value)} {N ps : List Str} {sp : Sp} (lk : K.lookup f = some ⟨oc, od, .func (PySem.W.fnOf name qual params body scope dV kV doc pm an cdv ct), osl⟩) (hcd : PySem.W.codeIn K cdv qual = true) (S : zn N ps scope)
    (len : ∀ vs H Q E, sp vs H Q E -> vs.length = ps.length)
    (hbody : ∀ (A : Around) (outer : List Env) (s : Shared) (H : Hp) (vs : List V) (Q : VK) (E : XK), yC k (A.deeper (envOfC qual scope s.heap.objs.size f cdv)) -> sp vs H Q E ->
      ∃ t, PSs (zkt CX P w K mg base N qual scope f cdv A outer s H E) body t /\ t { nx := fun _ H' => Q .non H', rt := Q } (zaX N vs) H) :
    z0 P w K mg base CX (k + 1) f (PySem.W.fnOf name qual params body scope dV kV doc pm an cdv ct) ps sp := by
  refine ⟨len, fun A outer s H args us vs Q E hr e0 hb r hsp => ?_⟩
  have hl := len _ _ _ _ hsp
  have KX : K.In s.heap := e0.mod.kin.keeps fun b o e => (e0.bs b o e).1
  have lim : s.heap.NoLimit := e0.mod.nolimit.keeps fun b o e => (e0.bs b o e).1
  have hkind : ∀ y ∈ ps.zip us, scope.names.lookup y.1 = some .local \/ (scope.names.lookup y.1 = some .cell /\ ((cellsFrom (s.heap.objs.size + 1) scope.names []).lookup y.1).isSome = true) := fun ⟨n, v⟩ hy => by
    rcases S.par n (List.of_mem_zip hy).1 with q | q
    . exact .inl q
    . exact .inr ⟨q, PySem.W.cellsFrom_some _ _ _ (.inl q)⟩
  refine codeAny_call_function hr.depth (KX _ _ lk) rfl S.co S.gen rfl (PySem.W.codeRec_of KX hcd) (hb _ _ _ _ ?_)
  refine wpAny_newFunctionEnv_cells S.kind hkind fun env he s1 x => ?_
  subst he
  refine ⟨lim.keeps x.toInCall.keep, codeAny_func ?_⟩
  obtain ⟨t, ht, hq⟩ := hbody A outer s H vs Q E (hr.deeper _) hsp
  have I : Inv (zkt CX P w K mg base N qual scope f cdv A outer s H E) [] (zaX N vs) H s1 := zf2 S hr.hd e0 hl r x
  refine wpAny_mono (ht [] s1 (zaX N vs) H _ I hq) (fun fl s' hs => ?_) fun e s' hs => hs
  have fin : ∀ {σ' : St} {H' : Hp} {v : V} {u : Value}, Inv (zkt CX P w K mg base N qual scope f cdv A outer s H E) [] σ' H' s' -> yq v u -> Q v H' -> CE outer P w H s Q u s' :=
    fun {σ' H' v u} J rv q => ⟨v, H', J.os, J.bare, J.base, J.hok, rv, q⟩
  cases fl with
  | ret u =>
    obtain ⟨v, σ', H', J, rv, q⟩ := hs
    exact fin J rv q
  | next =>
    obtain ⟨σ', H', J, q⟩ := hs
    exact fin (v := V.non) (u := Value.none) J rfl q
  | brk =>
    obtain ⟨_, _, _, q⟩ := hs
    exact False.elim q
  | cont =>
    obtain ⟨_, _, _, q⟩ := hs
    exact False.elim q
end L2
namespace L2
open PySem PySem.Spec PyProof.Rows
section
variable {X : Cx} {x : Str} {p pos : Pos} {e : Expr} {es : List Expr} {t : TA} {id T : String} {r : List V -> Hp -> VK -> Prop}
def tCB (r : List V -> Hp -> VK -> Prop) (t : TA) : TE := fun σ H Q => t σ H fun vs H1 => r vs H1 Q
theorem zG (hc : vG X (.builtin id) r) (hg : Gl X x) (hm : X.mg x = none) (hv : bootBuiltins x = some (.builtin id)) (ha : PA X (e :: es) t) (hn : x ≠ "__name__" := by decide) (hdb : (x == ("__debug__" : Str)) = false := by decide)
    (he : starEach (e :: es) X.env = (false, eval e X.env) :: starEach es X.env := by rfl) (hpl : (backTo pos (starEach es X.env)).any (·.1) = false := by rfl) : PE X (.Call (.Name x p) (e :: es) [] pos) (tCB r t) := by
  intro pins s σ H Q I h
  refine wpAny_Call_Name_kw (vV I hg hm hv ?_ hn hdb)
  exact PyProof.Rows.callWith_builtin1 (thn (ha pos pins s σ H _ I h) fun us s1 ⟨vs, H1, I1, r1, q1⟩ => hc pins s1 σ H1 vs us Q I1 r1 q1) he hpl
end
end L2
namespace HT
open PySem PyProof.Rows
section
open PySem.SeqAt
open PySem.AutoSeq1 (wpAny_loadPart')
open PySem.MeetsSeq PySem.MeetsSeq2 PySem.MeetsSeq3
end
section
variable {prog : Program} {w : World} {A : Around} {E : Value -> Shared -> Prop} {s : Shared}
def sIx (n d : Nat) : Option Int -> Nat
  | none => d
  | some v => if v < 0 then (v + (n : Int)).toNat else min v.toNat n
theorem zma (n d : Nat) (hd : d <= n) (o : Option Int) : sIx n d o <= n := by
  cases o with
  | none => exact hd
  | some v =>
    show (if v < 0 then (v + (n : Int)).toNat else min v.toNat n) <= n
    by_cases hv : v < 0
    . rw [if_pos hv]; omega
    . rw [if_neg hv]; exact Nat.min_le_right _ _
theorem zhc (v : Int) (n d : Nat) : (if v < 0 then max (v + (n : Int)) 0 else min v (n : Int)) = ((sIx n d (some v) : Nat) : Int) := by
  show (if v < 0 then max (v + (n : Int)) 0 else min v (n : Int)) = (((if v < 0 then (v + (n : Int)).toNat else min v.toNat n) : Nat) : Int)
  by_cases hv : v < 0
  . simp only [if_pos hv]; omega
  . simp only [if_neg hv]; omega
theorem zd8 (lo hi : Option Int) (n : Nat) : Builtin.Slice.sliceAdjust lo hi 1 (n : Int) = (((sIx n 0 lo : Nat) : Int), ((sIx n n hi : Nat) : Int)) := by
  have h1 : ¬ ((1 : Int) < 0) := by omega
  unfold Builtin.Slice.sliceAdjust
  simp only [h1, if_false]
  refine Prod.ext ?_ ?_
  . cases lo with
    | none => rfl
    | some v => exact zhc v n 0
  . cases hi with
    | none => rfl
    | some v => exact zhc v n n
theorem zeu (i j : Nat) : Builtin.Slice.slicePlaces (i : Int) (j : Int) 1 = j - i := by
  unfold Builtin.Slice.slicePlaces
  have h1 : (1 : Int) > 0 := by omega
  simp only [h1, if_true, Int.ediv_one]
  split <;> omega
theorem wn {v : Value} {o : Option Int} {Q : Option Int -> Shared -> Prop} (p : IsPart v o) (h : Q o s) : wpAny (model prog w) A (Builtin.Slice.slicePartIndex v) Q E s := by
  cases p with
  | none => exact slicePart_none h
  | int i t => exact slicePart_int h
theorem sliceApplied_gen {sl : Addr} {vl vu : Value} {lo hi : Option Int} {n : Nat} {Q : Int × Int × Nat -> Shared -> Prop} (hs : s.heap.IsSliceOf sl vl vu .none) (pl : IsPart vl lo) (pu : IsPart vu hi)
    (h : Q (((sIx n 0 lo : Nat) : Int), 1, sIx n n hi - sIx n 0 lo) s) : wpAny (model prog w) A (Builtin.Slice.sliceApplied (.ref sl) (pure (n : Int))) Q E s := by
  obtain ⟨os, hos, hcs, hds⟩ := id hs
  unfold Builtin.Slice.sliceApplied Builtin.Slice.sliceFields
  refine wpAny_bind (wpAny_bind (wpAny_field hos hds (x := vl) rfl (wpAny_bind (wpAny_field hos hds (x := vu) rfl (wpAny_bind (wpAny_field hos hds (x := .none) rfl (wpAny_pure ?_)))))))
  refine wpAny_bind (slicePart_none ?_)
  show wpAny _ _ (if ((1 : Int) == 0) = true then _ else _) _ _ s
  rw [if_neg (by decide)]
  refine wpAny_bind (wn pl (wpAny_bind (wn pu (wpAny_bind (wpAny_pure ?_)))))
  show wpAny _ _ (match Builtin.Slice.sliceAdjust lo hi 1 (n : Int) with | (lo, hi) => pure (lo, (1 : Int), Builtin.Slice.slicePlaces lo hi 1)) _ _ s
  rw [zd8 lo hi n]
  show wpAny _ _ (pure (((sIx n 0 lo : Nat) : Int), (1 : Int), Builtin.Slice.slicePlaces ((sIx n 0 lo : Nat) : Int) ((sIx n n hi : Nat) : Int) 1)) _ _ s
  rw [zeu]
  exact wpAny_pure h
theorem zif (xs : Array Value) (i k : Nat) : ((List.range k).filterMap fun (m : Nat) => xs[((i : Int) + (m : Int) * 1).toNat]?).toArray = ((xs.toList.drop i).take k).toArray := by
  have e : (fun (m : Nat) => xs[((i : Int) + (m : Int) * 1).toNat]?) = fun m => xs[i + m]? := by
    funext m
    have : ((i : Int) + (m : Int) * 1).toNat = i + m := by omega
    rw [this]
  rw [e]
  have := pick_run xs i k
  rw [List.filterMap_map] at this
  have e2 : ((fun x => xs[x]?) ∘ fun x => i + x) = fun m => xs[i + m]? := rfl
  rw [e2] at this
  rw [this]
theorem getItem_tuple_cut {t sl : Addr} {items : Array Value} {vl vu : Value} {lo hi : Option Int} {Q : Value -> Shared -> Prop} (ht : IsTup s.heap t items) (hs : s.heap.IsSliceOf sl vl vu .none) (pl : IsPart vl lo) (pu : IsPart vu hi)
    (hw : ¬ (sIx items.size 0 lo = 0 /\ sIx items.size items.size hi = items.size))
    (h : Q (.ref s.heap.objs.size) { s with heap := s.heap.push { cls := .type "tuple", data := .seq ((items.toList.drop (sIx items.size 0 lo)).take (sIx items.size items.size hi - sIx items.size 0 lo)).toArray } })
    (hsz : items.size <= sizeLine) : wpAny (model prog w) A (getItem (.ref t) (.ref sl)) Q E s := by
  have htake : sizeOk (.seq ((items.toList.drop (sIx items.size 0 lo)).take (sIx items.size items.size hi - sIx items.size 0 lo)).toArray) := by
    show ((items.toList.drop (sIx items.size 0 lo)).take (sIx items.size items.size hi - sIx items.size 0 lo)).toArray.size <= sizeLine
    rw [List.size_toArray, List.length_take, List.length_drop, Array.length_toList]
    omega
  have hj : sIx items.size items.size hi <= items.size := zma _ _ (Nat.le_refl _) hi
  obtain ⟨os, hos, hcs, hds⟩ := id hs
  have hTs : s.TypeIs (.ref sl) "slice" := ⟨os, hos, hcs⟩
  unfold getItem
  try with_reducible refine wpAny_holding ?_
  first | refine wpAny_bind (wpAny_pure ?_) | skip
  refine wpAny_bind (wpAny_sequenceKey ht.typeIs (by decide) ?_)
  refine wpAny_bind (wpAny_callSpecial?_slot (name := Str.ofString "__getitem__") ht.typeIs PyProof.Rows.slot_tuple_getitem
    (wpAny_call_entry PyProof.Rows.slot_tuple_getitem ht.typeIs entry_tuple_getitem ?_ (args_tuple_getitem _ _)))
  show wpAny _ _ (Builtin.Tuple.tupleItemsOf (.ref t) >>= _) _ _ s
  refine wpAny_bind (tupleItemsOf_ ht ?_)
  refine wpAny_bind (wpAny_typeOf hTs ?_)
  rw [if_pos (by decide)]
  refine wpAny_bind (sliceApplied_gen hs pl pu ?_)
  have hno : ¬ ((((sIx items.size 0 lo : Nat) : Int) == 0 && (1 : Int) == 1 && (sIx items.size items.size hi - sIx items.size 0 lo) == items.size) = true) := by
    intro q
    rw [Bool.and_eq_true, Bool.and_eq_true] at q
    have q1 : ((sIx items.size 0 lo : Nat) : Int) = 0 := eq_of_beq q.1.1
    have q2 : sIx items.size items.size hi - sIx items.size 0 lo = items.size := eq_of_beq q.2
    exact hw ⟨by omega, by omega⟩
  show wpAny _ _ (if (((sIx items.size 0 lo : Nat) : Int) == 0 && (1 : Int) == 1 && (sIx items.size items.size hi - sIx items.size 0 lo) == items.size) = true then _ else _) _ _ s
  rw [if_neg hno, zif]
  first
    | exact wpAny_bind (m := Builtin.Tuple.tupleExact _) (wpAny_newObj_type (wpAny_pure ⟨_, rfl, wpAny_pure h⟩) htake)
    | exact wpAny_bind (m := Builtin.Tuple.tupleExact _) (wpAny_newObj_type (wpAny_bind (wpAny_pure (wpAny_pure ⟨_, rfl, wpAny_pure h⟩))) htake)
    | exact wpAny_bind (wpAny_bind (m := Builtin.Tuple.tupleExact _) (wpAny_newObj_type (wpAny_pure (wpAny_pure ⟨_, rfl, wpAny_pure h⟩)) htake))
    | exact wpAny_bind (wpAny_bind (m := Builtin.Tuple.tupleExact _) (wpAny_newObj_type (wpAny_pure ⟨_, rfl, wpAny_pure h⟩) htake))
end
end HT
namespace L2
open PySem PySem.Spec PyProof.Rows
abbrev TO := St -> Hp -> (Option Int -> Hp -> Prop) -> Prop
def PO (X : Cx) (e : Option Expr) (t : TO) : Prop :=
  ∀ (pins : List (Addr × Obj)) (s : Shared) (σ : St) (H : Hp) (Q : Option Int -> Hp -> Prop), Inv X pins σ H s -> t σ H Q ->
    wpAny (model X.prog X.w) X.A (evalPart e X.env) (fun u s' => ∃ o H', Inv X pins σ H' s' /\ IsPart u o /\ Q o H') X.xe s
def zlv : TO := fun _ H Q => Q none H
def zlq (t : TE) : TO := fun σ H Q => t σ H fun x H1 => ∃ i, x = .int i /\ Q (some i) H1
section
variable {X : Cx} {e : Expr} {te : TE} {lo hi : Option Expr} {tl th : TO} {pos p2 : Pos}
theorem zk3 : PO X none zlv := by
  intro pins s σ H Q I h
  rw [evalPart_none]
  exact wpAny_pure ⟨none, H, I, .none, h⟩
theorem qK (h : PE X e te) : PO X (some e) (zlq te) := by
  intro pins s σ H Q I hw
  rw [evalPart_some]
  refine thn (h pins s σ H _ I hw) fun u s1 ⟨x, H1, I1, r1, q1⟩ => ?_
  obtain ⟨i, rfl, q⟩ := q1
  obtain ⟨t, rfl⟩ := r1
  exact ⟨some i, H1, I1, .int i t, q⟩
def SlR (X : Cx) (r : V -> Option Int -> Option Int -> Hp -> VK -> Prop) : Prop :=
  ∀ (pins : List (Addr × Obj)) (s : Shared) (σ : St) (H : Hp) (x : V) (v vl vu : Value) (lo hi : Option Int) (sl : Addr) (Q : VK), Inv X pins σ H s -> yq x v -> s.heap.IsSliceOf sl vl vu .none -> IsPart vl lo -> IsPart vu hi -> r x lo hi H Q ->
    ∃ T id, typeLookup (.type T) "__getitem__" = pure (some (.builtin id)) /\ s.TypeIs v T /\ wpAny (model X.prog X.w) X.A (getItem v (.ref sl)) (EP X pins σ Q) X.xe s
theorem SlR.or {r r' : V -> Option Int -> Option Int -> Hp -> VK -> Prop} (h : SlR X r) (h' : SlR X r') : SlR X (fun x lo hi H Q => r x lo hi H Q \/ r' x lo hi H Q) := by
  intro pins s σ H x v vl vu lo hi sl Q I rx hs pl pu q
  rcases q with q | q
  . exact h pins s σ H x v vl vu lo hi sl Q I rx hs pl pu q
  . exact h' pins s σ H x v vl vu lo hi sl Q I rx hs pl pu q
def tSl (r : V -> Option Int -> Option Int -> Hp -> VK -> Prop) (te : TE) (tl th : TO) : TE := fun σ H Q => te σ H fun x H1 => tl σ H1 fun l H2 => th σ H2 fun u H3 => r x l u H3 Q
theorem j6 {r : V -> Option Int -> Option Int -> Hp -> VK -> Prop} (hr : SlR X r) (he : PE X e te) (hl : PO X lo tl) (hu : PO X hi th) : PE X (.Subscript e (.Slice lo hi none p2) pos) (tSl r te tl th) := by
  intro pins s σ H Q I h
  refine Subscript_ (thn (he pins s σ H _ I h) fun v s1 ⟨x, H1, I1, r1, q1⟩ => ?_)
  refine wpAny_Slice (thn (hl pins s1 σ H1 _ I1 q1) fun vl s2 ⟨l, H2, I2, pl, q2⟩ => thn (hu pins s2 σ H2 _ I2 q2) fun vu s3 ⟨u, H3, I3, pu, q3⟩ => ?_)
  rw [evalPart_none]
  refine wpAny_pure ?_
  have I4 : Inv X pins σ H3 { s3 with heap := s3.heap.push { cls := .type "slice", data := .fields #[vl, vu, .none] } } := I3.kept (t' := s3.toks) fun b ob q => Heap.get?_push_of_some _ q
  obtain ⟨T, id, hT, ht, hg⟩ := hr pins { s3 with heap := s3.heap.push { cls := .type "slice", data := .fields #[vl, vu, .none] } } σ H3 x v vl vu l u s3.heap.objs.size Q I4 r1 (Heap.IsSliceOf.new ..) pl pu q3
  show wpAny (model X.prog X.w) X.A (subscriptTail e (.Slice lo hi none p2) v (.ref s3.heap.objs.size)) (EP X pins σ Q) X.xe { s3 with heap := s3.heap.push { cls := .type "slice", data := .fields #[vl, vu, .none] } }
  exact tail_any (ops := [.ref s3.heap.objs.size, v]) ht hT hg (by with_unfolding_all rfl)
def zeb (xs : List V) (lo hi : Option Int) : List V := (xs.drop (HT.sIx xs.length 0 lo)).take (HT.sIx xs.length xs.length hi - HT.sIx xs.length 0 lo)
theorem kY (xs : List V) (lo hi : Option Int) : (zeb xs lo hi).length <= xs.length := by
  unfold zeb
  rw [List.length_take, List.length_drop]
  omega
def zn2 (K : PySem.W.Frag) : V -> Option Int -> Option Int -> Hp -> VK -> Prop := fun x lo hi H Q => ∃ a xs, x = .ref a /\ SqT K H a xs /\
  ¬ (HT.sIx xs.length 0 lo = 0 /\ HT.sIx xs.length xs.length hi = xs.length) /\ ∀ p, H p = none -> Q (.ref p) (upd H p (.tup (zeb xs lo hi)))
theorem zlS : SlR X (zn2 X.K) := by
  intro pins s σ H x v vl vu lo hi sl Q I rx hs pl pu h
  obtain ⟨a, xs, rfl, hx, hw, q⟩ := h
  cases rx
  obtain ⟨its, r, ht, hz⟩ := I.tuple hx
  have hlen : its.toArray.size = xs.length := by rw [List.size_toArray]; exact r.length.symm
  refine ⟨"tuple", _, PyProof.Rows.slot_tuple_getitem.lookup, ht.typeIs, ?_⟩
  refine HT.getItem_tuple_cut ht hs pl pu (by rw [hlen]; exact hw) ?_ (by rw [hlen]; exact hz)
  rw [hlen]
  refine ⟨.ref s.heap.objs.size, _, I.laid (t' := s.toks) (o := .tup (zeb xs lo hi)) (fun b ob q => Heap.get?_push_of_some _ q) (Nat.le_refl _) ?_, rfl, q _ (I.hok.fresh (Nat.le_refl _))⟩
  exact ⟨Nat.le_trans (kY xs lo hi) hz, _, (r.drop (HT.sIx xs.length 0 lo)).take (HT.sIx xs.length xs.length hi - HT.sIx xs.length 0 lo), IsTup.new _ _⟩
end
end L2
namespace L2
open PySem PySem.Spec PyProof.Rows
def ixN (n : Nat) (i : Int) : Option Nat := if 0 <= i then (if i < n then some i.toNat else none) else if -(n : Int) <= i then some (i + n).toNat else none
def atI {α : Type} (xs : List α) (i : Int) : Option α := (ixN xs.length i).bind fun j => xs[j]?
theorem zgT {n : Nat} {i : Int} {j : Nat} (h : ixN n i = some j) : seqIndex? i n = some j /\ j < n /\ -(n : Int) <= i /\ i < n := by
  unfold ixN at h
  by_cases h0 : 0 <= i
  . rw [if_pos h0] at h
    by_cases h1 : i < n
    . rw [if_pos h1] at h
      have e : i.toNat = j := Option.some.inj h
      exact ⟨by rw [seqIndex_of h0 h1, e], by omega, by omega, h1⟩
    . rw [if_neg h1] at h; cases h
  . rw [if_neg h0] at h
    by_cases h1 : -(n : Int) <= i
    . rw [if_pos h1] at h
      have e : (i + n).toNat = j := Option.some.inj h
      exact ⟨by rw [seqIndex_neg (by omega) h1, e], by omega, h1, by omega⟩
    . rw [if_neg h1] at h; cases h
theorem zgK {α : Type} {xs : List α} {i : Int} {v : α} (h : atI xs i = some v) : ∃ j, seqIndex? i xs.length = some j /\ xs[j]? = some v /\ j < xs.length /\ -(xs.length : Int) <= i /\ i < xs.length := by
  unfold atI at h
  cases e : ixN xs.length i with
  | none => rw [e] at h; cases h
  | some j =>
    rw [e] at h
    obtain ⟨h1, h2, h3, h4⟩ := zgT e
    exact ⟨j, h1, h, h2, h3, h4⟩
theorem zjT {α : Type} {xs : List α} {j : Nat} {v : α} (h : xs[j]? = some v) : atI xs (j : Int) = some v := by
  have hj : j < xs.length := (List.getElem?_eq_some_iff.mp h).1
  have e : ixN xs.length (j : Int) = some j := by
    unfold ixN
    rw [if_pos (by omega), if_pos (by omega)]; simp
  unfold atI; rw [e]; exact h
def zlH (b : Expr) : Prop := ∀ o i, subscripted b false o i = operate [o, i] (getItem o i)
def IxR (X : Cx) (r : R2) : Prop :=
  ∀ (value slice : Expr) (pins : List (Addr × Obj)) (s : Shared) (σ : St) (H : Hp) (x y : V) (v u : Value) (Q : VK), Inv X pins σ H s -> yq x v -> yq y u -> r x y H Q ->
    subscripted slice false v u = operate [v, u] (getItem v u) -> wpAny (model X.prog X.w) X.A (subscriptTail value slice v u) (EP X pins σ Q) X.xe s
def MtR (X : Cx) (id : String) (r : V -> List V -> Hp -> VK -> Prop) : Prop :=
  ∀ (pins : List (Addr × Obj)) (s : Shared) (σ : St) (H : Hp) (x : V) (xs : List V) (v : Value) (us : List Value) (Q : VK), Inv X pins σ H s -> yq x v -> yx xs us -> r x xs H Q ->
    wpAny (model X.prog X.w) X.A (call (.builtin id) (v :: us)) (EP X pins σ Q) X.xe s
section
variable {X : Cx} {a b : Expr} {ta tb : TE} {pos : Pos}
theorem yu {r : R2} (hr : IxR X r) (ha : PE X a ta) (hb : PE X b tb) (hs : zlH b) : PE X (.Subscript a b pos) (tOp r ta tb) := by
  intro pins s σ H Q I h
  exact Subscript_ (zno ha hb I h fun v u s2 x y H2 I2 rx ry q => hr a b pins s2 σ H2 x y v u Q I2 rx ry q (hs _ _))
def zoc (K : PySem.W.Frag) : R2 := fun x y H Q => ∃ p xs i v, x = .ref p /\ y = .int i /\ SqL K H p xs /\ atI xs i = some v /\ Q v H
def zol (K : PySem.W.Frag) : R2 := fun x y H Q => ∃ p xs i v, x = .ref p /\ y = .int i /\ SqT K H p xs /\ atI xs i = some v /\ Q v H
theorem zP : IxR X (zoc X.K) := by
  intro value slice pins s σ H x y v u Q I rx ry h hs
  obtain ⟨p, xs, i, z, rfl, rfl, hq, he, q⟩ := h
  cases rx
  obtain ⟨t, rfl⟩ := ry
  obtain ⟨its, r, pl, hz⟩ := I.list hq
  obtain ⟨j, h1, h2, h3, h4, h5⟩ := zgK he
  obtain ⟨w, ew, rw'⟩ := r.get h2
  have hl := r.length
  have hn := zbp
  have fin : EP X pins σ Q w s := ⟨z, H, I, rw', q⟩
  by_cases h0 : 0 <= i
  . have hj : i.toNat = j := by
      rw [seqIndex_of h0 h5] at h1
      exact Option.some.inj h1
    exact item_listR pl.isList h0 (by omega) (by rw [hj]; simpa using ew) fin hs
  . have hj : (i + (its.toArray.size : Int)).toNat = j := by
      rw [seqIndex_neg (by omega) h4] at h1
      rw [List.size_toArray, <- hl]
      exact Option.some.inj h1
    exact subscriptTail_builtinR (x := w) pl.isList.typeIs slot_list_getitem.lookup
      (wpAny_getItem_list_neg (Q := fun r s' => r = w /\ EP X pins σ Q r s') pl.isList (by omega) (by rw [List.size_toArray] <;> omega) (by omega) (by rw [hj]; simpa using ew) ⟨rfl, fin⟩) hs
theorem zcV : IxR X (zol X.K) := by
  intro value slice pins s σ H x y v u Q I rx ry h hs
  obtain ⟨p, xs, i, z, rfl, rfl, hq, he, q⟩ := h
  cases rx
  obtain ⟨t, rfl⟩ := ry
  obtain ⟨its, r, pl, hz⟩ := I.tuple hq
  obtain ⟨j, h1, h2, h3, h4, h5⟩ := zgK he
  obtain ⟨w, ew, rw'⟩ := r.get h2
  have hl := r.length
  have hn := zbp
  have fin : EP X pins σ Q w s := ⟨z, H, I, rw', q⟩
  exact subscriptTail_builtinR (x := w) pl.typeIs slot_tuple_getitem.lookup
    (getItem_tuple (j := j) (Q := fun r s' => r = w /\ EP X pins σ Q r s') pl (by omega) (by omega) (by rw [List.size_toArray, <- hl]; exact h1) (by simpa using ew) ⟨rfl, fin⟩) hs
theorem zen (its : List Value) (n j : Nat) (u : Value) : Obj.mapSeq (·.setIfInBounds j u) { cls := .type "list", data := .seq its.toArray n } = { cls := .type "list", data := .seq (its.set j u).toArray n } := by
  simp [Obj.mapSeq]
theorem Inv.lst {pins : List (Addr × Obj)} {σ : St} {H : Hp} {s : Shared} {p : Addr} {xs : List V} (I : Inv X pins σ H s) (h : H p = some (.lst xs)) :
    ∃ (its : List Value) (n : Nat), yx xs its /\ s.heap.get? p = some { cls := .type "list", data := .seq its.toArray n } /\ xs.length <= sizeLine := by
  obtain ⟨z, its, n, r, e⟩ := I.hok p _ h
  exact ⟨its, n, r, e, z⟩
theorem Inv.lstUpd {pins : List (Addr × Obj)} {σ : St} {H : Hp} {s : Shared} {p : Addr} {xs ys : List V} {its its' : List Value} {n n' : Nat} {f : Obj -> Obj} (I : Inv X pins σ H s) (h : H p = some (.lst xs))
    (ho : s.heap.get? p = some { cls := .type "list", data := .seq its.toArray n }) (hf : f { cls := .type "list", data := .seq its.toArray n } = { cls := .type "list", data := .seq its'.toArray n' }) (r : yx ys its') (hz : ys.length <= sizeLine) (t : Nat) :
    Inv X pins σ (upd H p (.lst ys)) { s with heap := s.heap.update p f, toks := t } := by
  have e : (s.heap.update p f).get? p = some { cls := .type "list", data := .seq its'.toArray n' } := by
    rw [Heap.get?_update_self f ho (by rw [hf] <;> rfl), hf]
  refine I.write (x := p) (e := p) (by rw [h]; trivial) (.inl rfl) (fun b u hb q => (Heap.get?_update_other _ _ (Ne.symm hb)).trans q) ⟨_, e⟩ ?_
  exact ⟨hz, its', n', r, e⟩
def znp : V -> V -> V -> Hp -> (Hp -> Prop) -> Prop := fun o i v H Q => ∃ p xs k j, o = .ref p /\ i = .int k /\ H p = some (.lst xs) /\ ixN xs.length k = some j /\ Q (upd H p (.lst (xs.set j v)))
theorem wQ : znP X znp := by
  intro pins s σ H o i v ov iv u Q I ro ri rv h
  obtain ⟨p, xs, k, j, rfl, rfl, hp, hj, q⟩ := h
  cases ro
  obtain ⟨t, rfl⟩ := ri
  obtain ⟨its, n, r, ho, hz⟩ := I.lst hp
  obtain ⟨h1, h2, h3, h4⟩ := zgT hj
  have hl := r.length
  have hn := zbp
  have I' : Inv X pins σ (upd H p (.lst (xs.set j v))) { s with heap := s.heap.update p (Obj.mapSeq (·.setIfInBounds j u)) } :=
    I.lstUpd hp ho (zen its n j u) (r.set rv j) (by rw [List.length_set]; exact hz) s.toks
  by_cases h0 : 0 <= k
  . have hk : k.toNat = j := by
      rw [seqIndex_of h0 h4] at h1
      exact Option.some.inj h1
    exact PySem.W.ki_setAt ho h0 (by omega) (by rw [List.size_toArray, <- hl]; exact h4) (by rw [hk]; exact ⟨_, I', q⟩)
  . have hk : (k + (its.toArray.size : Int)).toNat = j := by
      rw [seqIndex_neg (by omega) h3] at h1
      rw [List.size_toArray, <- hl]
      exact Option.some.inj h1
    exact PySem.W.ki_setBack ho (by omega) (by rw [List.size_toArray, <- hl]; exact h3) (by omega) (by rw [hk]; exact ⟨_, I', q⟩)
theorem za2 (lo hi : Option Int) (n : Nat) : (sliceBounds lo hi none n).1 = ((HT.sIx n 0 lo : Nat) : Int) /\ (sliceBounds lo hi none n).2.1 = ((HT.sIx n n hi : Nat) : Int) /\ (sliceBounds lo hi none n).2.2 = 1 := by
  refine ⟨?_, ?_, rfl⟩
  . cases lo with
    | none => simp [sliceBounds, HT.sIx]
    | some i =>
      simp only [sliceBounds, HT.sIx, Option.getD_none, show (1 : Int) > 0 by decide, if_true]
      by_cases h : i < 0
      . simp only [h, if_true] <;> omega
      . simp only [h, if_false] <;> omega
  . cases hi with
    | none => simp [sliceBounds, HT.sIx]
    | some i =>
      simp only [sliceBounds, HT.sIx, Option.getD_none, show (1 : Int) > 0 by decide, if_true]
      by_cases h : i < 0
      . simp only [h, if_true] <;> omega
      . simp only [h, if_false] <;> omega
theorem wJ (its : List Value) (lo hi : Option Int) : slicePick its.toArray lo hi none = ((its.drop (HT.sIx its.length 0 lo)).take (HT.sIx its.length its.length hi - HT.sIx its.length 0 lo)).toArray := by
  obtain ⟨h1, h2, h3⟩ := za2 lo hi its.toArray.size
  unfold slicePick
  rw [h1, h2, h3]
  simp only [sliceRange_one, pick_run, List.size_toArray] <;> rfl
def znR (K : PySem.W.Frag) : V -> Option Int -> Option Int -> Hp -> VK -> Prop := fun x lo hi H Q => ∃ a xs, x = .ref a /\ SqL K H a xs /\ ∀ p, H p = none -> Q (.ref p) (upd H p (.lst (zeb xs lo hi)))
theorem zcF : SlR X (znR X.K) := by
  intro pins s σ H x v vl vu lo hi sl Q I rx hs pl pu h
  obtain ⟨a, xs, rfl, hx, q⟩ := h
  cases rx
  obtain ⟨its, r, ht, hz⟩ := I.list hx
  have hlen := r.length
  refine ⟨"list", _, slot_list_getitem.lookup, ht.isList.typeIs, ?_⟩
  refine wpAny_getItem_list_slice ht.isList hs pl pu .none (by simp) ?_ (by rw [List.size_toArray] <;> omega)
  rw [wJ, <- hlen]
  refine ⟨.ref s.heap.objs.size, _, I.laid (t' := s.toks) (o := .lst (zeb xs lo hi)) (fun b ob q => Heap.get?_push_of_some _ q) (Nat.le_refl _) ?_, rfl, q _ (I.hok.fresh (Nat.le_refl _))⟩
  exact ⟨Nat.le_trans (kY xs lo hi) hz, _, 0, (r.drop (HT.sIx xs.length 0 lo)).take (HT.sIx xs.length xs.length hi - HT.sIx xs.length 0 lo), Heap.get?_push_size _ rfl⟩
def jx : V -> Bool
  | .non => true
  | .bl _ => true
  | .int _ => true
  | .str _ => true
  | _ => false
def eqV : V -> V -> Bool
  | .non, .non => true
  | .bl a, .bl b => a == b
  | .bl a, .int b => (if a then 1 else 0) == b
  | .int a, .bl b => a == (if b then 1 else 0)
  | .int a, .int b => a == b
  | .str a, .str b => a == b
  | _, _ => false
theorem zmv {A : Around} {s : Shared} {y x : V} {u v : Value} (ry : yq y u) (rx : yq x v) (fy : jx y = true) (fx : jx x = true) : SeqAt.EqAt A s u v (eqV y x) := by
  cases y with
  | non =>
    cases ry
    cases x with
    | non => cases rx; exact SeqAt.EqAt.same _
    | bl b => cases rx; exact SeqAt.EqAt.none_bool b
    | int b => obtain ⟨t, rfl⟩ := rx; exact SeqAt.EqAt.none_int b t
    | str b => obtain ⟨t, rfl⟩ := rx; exact SeqAt.EqAt.none_str b t
    | _ => exact absurd (show false = true from fx) Bool.false_ne_true
  | bl a =>
    cases ry
    cases x with
    | non => cases rx; exact SeqAt.EqAt.bool_none a
    | bl b => cases rx; exact SeqAt.EqAt.bool_bool a b
    | int b => obtain ⟨t, rfl⟩ := rx; exact SeqAt.EqAt.bool_int a b t
    | str b => obtain ⟨t, rfl⟩ := rx; exact SeqAt.EqAt.bool_str a b t
    | _ => exact absurd (show false = true from fx) Bool.false_ne_true
  | int a =>
    obtain ⟨t', rfl⟩ := ry
    cases x with
    | non => cases rx; exact SeqAt.EqAt.int_none a t'
    | bl b => cases rx; exact SeqAt.EqAt.int_bool a t' b
    | int b => obtain ⟨t, rfl⟩ := rx; exact SeqAt.EqAt.int_int a t' b t
    | str b => obtain ⟨t, rfl⟩ := rx; exact SeqAt.EqAt.int_str a t' b t
    | _ => exact absurd (show false = true from fx) Bool.false_ne_true
  | str a =>
    obtain ⟨t', rfl⟩ := ry
    cases x with
    | non => cases rx; exact SeqAt.EqAt.str_none a t'
    | bl b => cases rx; exact SeqAt.EqAt.str_bool a t' b
    | int b => obtain ⟨t, rfl⟩ := rx; exact SeqAt.EqAt.str_int a t' b t
    | str b => obtain ⟨t, rfl⟩ := rx; exact SeqAt.EqAt.str_str a t' b t
    | _ => exact absurd (show false = true from fx) Bool.false_ne_true
  | _ => exact absurd (show false = true from fy) Bool.false_ne_true
def eqU (x : V) (u : Value) : Bool := match u with
  | .none => eqV .non x
  | .bool b => eqV (.bl b) x
  | .int i _ => eqV (.int i) x
  | .str z _ => eqV (.str z) x
  | _ => false
theorem zc3 {x y : V} {u : Value} (r : yq y u) (f : jx y = true) : eqU x u = eqV y x := by
  cases y with
  | non => cases r; rfl
  | bl b => cases r; rfl
  | int i => obtain ⟨t, rfl⟩ := r; rfl
  | str z => obtain ⟨t, rfl⟩ := r; rfl
  | _ => exact absurd (show false = true from f) Bool.false_ne_true
theorem zcc {x : V} : ∀ {xs : List V} {us : List Value}, yx xs us -> xs.all jx = true -> us.any (eqU x) = xs.any fun y => eqV y x
  | _, _, .nil, _ => rfl
  | y :: xs, u :: us, .cons r t, f => by
    rw [List.all_cons, Bool.and_eq_true] at f
    rw [List.any_cons, List.any_cons, zc3 r f.1, zcc t f.2]
theorem ku {A : Around} {s : Shared} {x : V} {v : Value} (rx : yq x v) (fx : jx x = true) : ∀ {xs : List V} {us : List Value}, yx xs us -> xs.all jx = true -> ∀ u ∈ us, SeqAt.EqAt A s u v (eqU x u)
  | _, _, .nil, _ => fun u hu => by cases hu
  | y :: xs, u :: us, .cons r t, f => fun u' hu => by
    rw [List.all_cons, Bool.and_eq_true] at f
    rcases List.mem_cons.mp hu with rfl | hu
    . rw [zc3 r f.1]; exact zmv r rx f.1 fx
    . exact ku rx fx t f.2 u' hu
def inV (x : V) (xs : List V) : Bool := xs.any fun y => eqV y x
def rIn (K : PySem.W.Frag) (neg : Bool) : R2 := fun x y H Q => ∃ p xs, y = .ref p /\ (SqL K H p xs \/ SqT K H p xs) /\ jx x = true /\ xs.all jx = true /\ Q (.bl (if neg then !inV x xs else inV x xs)) H
theorem zeW : OpR X (compareOp .In) (rIn X.K false) := by
  intro pins s σ H x y v u Q I rx ry h
  obtain ⟨p, xs, rfl, hq, fx, fs, q⟩ := h
  cases ry
  rcases hq with hq | hq
  . obtain ⟨its, r, pl, hz⟩ := I.list hq
    refine SeqAt.in_listAt (eqU x) pl.isList (fun w hw => ku rx fx r fs w (by simpa using hw)) ⟨.bl _, H, I, rfl, ?_⟩
    rw [show its.toArray.any (eqU x) = its.any (eqU x) by simp, zcc r fs]
    exact q
  . obtain ⟨its, r, pl, hz⟩ := I.tuple hq
    refine SeqAt.in_tupleAt (eqU x) pl (fun w hw => ku rx fx r fs w (by simpa using hw)) ⟨.bl _, H, I, rfl, ?_⟩
    rw [show its.toArray.any (eqU x) = its.any (eqU x) by simp, zcc r fs]
    exact q
theorem zC : vG X (.builtin "len") (fun xs H Q => ∃ p ys, xs = [.ref p] /\ (SqL X.K H p ys \/ SqT X.K H p ys) /\ Q (.int ys.length) H) := by
  intro pins s σ H xs us Q I r h
  obtain ⟨p, ys, rfl, hq, q⟩ := h
  obtain ⟨u, rfl, rx⟩ := zdQ r
  cases rx
  have hn := zbp
  rcases hq with hq | hq
  . obtain ⟨its, r', pl, hz⟩ := I.list hq
    have hlen := r'.length
    exact Calls.call_len_list pl.isList (by simp only [List.size_toArray] <;> omega) ⟨.int ys.length, H, I.tok _, ⟨s.toks + 1, by rw [List.size_toArray, hlen]⟩, q⟩
  . obtain ⟨its, r', pl, hz⟩ := I.tuple hq
    have hlen := r'.length
    exact len_tuple pl (by simp only [List.size_toArray] <;> omega) ⟨.int ys.length, H, I.tok _, ⟨s.toks + 1, by rw [List.size_toArray, hlen]⟩, q⟩
theorem za5 : vG X (.builtin "len") (fun xs H Q => ∃ z, xs = [.str z] /\ z.length <= sizeLine /\ Q (.int z.length) H) := by
  intro pins s σ H xs us Q I r h
  obtain ⟨z, rfl, hz, q⟩ := h
  obtain ⟨u, rfl, t, rfl⟩ := zdQ r
  have hn := zbp
  exact len_str (by omega) ⟨.int z.length, H, I.tok _, ⟨_, rfl⟩, q⟩
def tyV (K : PySem.W.Frag) (T : String) (x : V) (H : Hp) : Prop := match x with
  | .str _ => T = "str"
  | .int _ => T = "int"
  | .ref p => (T = "list" /\ ∃ xs, SqL K H p xs) \/ (T = "tuple" /\ ∃ o, K.lookup p = some o /\ o.cls = .type "tuple" /\ o.dict = none) \/
      (T = "dict" /\ ((∃ kvs, H p = some (.dK kvs)) \/ ∃ kvs, H p = some (.dT kvs))) \/ (T = "set" /\ ∃ S n, H p = some (.set S n))
  | _ => False
theorem zmN {pins : List (Addr × Obj)} {σ : St} {H : Hp} {s : Shared} {T : String} {x : V} {v : Value} (I : Inv X pins σ H s) (r : yq x v) (ty : tyV X.K T x H) :
    s.TypeIs v T /\ ∀ a, v = .ref a -> ∃ ob, s.heap.get? a = some ob /\ ob.dict = none := by
  cases x with
  | str z =>
    obtain ⟨t, rfl⟩ := r
    cases (show T = "str" from ty)
    exact ⟨typeIs_str s z t, fun _ e => nomatch e⟩
  | int i =>
    obtain ⟨t, rfl⟩ := r
    cases (show T = "int" from ty)
    exact ⟨typeIs_int s i t, fun _ e => nomatch e⟩
  | ref p =>
    cases r
    rcases ty with ⟨rfl, xs, hq⟩ | ⟨rfl, o, hk, hc, hd⟩ | ⟨rfl, hk⟩ | ⟨rfl, S, n, hk⟩
    . obtain ⟨its, _, pl, _⟩ := I.list hq
      refine ⟨pl.isList.typeIs, fun a e => ?_⟩
      cases e
      obtain ⟨o, n, e, c, hd, _⟩ := pl
      exact ⟨o, e, hd⟩
    . refine ⟨⟨o, I.kIn p o hk, hc⟩, fun a e => ?_⟩
      cases e
      exact ⟨o, I.kIn _ o hk, hd⟩
    . have z : ∃ o, s.heap.get? p = some o /\ o.ExactDict := by
        rcases hk with ⟨kvs, hk⟩ | ⟨kvs, hk⟩
        . obtain ⟨_, _, _, _, o, _, _, e, ex, _⟩ := I.hok p _ hk
          exact ⟨o, e, ex⟩
        . obtain ⟨_, _, _, _, o, _, _, e, ex, _⟩ := I.hok p _ hk
          exact ⟨o, e, ex⟩
      obtain ⟨o, e, ex⟩ := z
      refine ⟨⟨o, e, ex.1⟩, fun a e2 => ?_⟩
      cases e2
      exact ⟨o, e, ex.2.1⟩
    . obtain ⟨o, _, _, _, e, ex, _⟩ := I.hok p _ hk
      refine ⟨⟨o, e, ex.1⟩, fun a e2 => ?_⟩
      cases e2
      exact ⟨o, e, ex.2.1⟩
  | _ => exact False.elim ty
def tBM (K : PySem.W.Frag) (T : String) (r : V -> List V -> Hp -> VK -> Prop) (to : TE) (t : TA) : TE := fun σ H Q => to σ H fun x H1 => tyV K T x H1 /\ t σ H1 fun xs H2 => r x xs H2 Q
variable {o e : Expr} {es : List Expr} {to : TE} {t : TA} {name : Str} {apos cpos : Pos} {T id : String} {r : V -> List V -> Hp -> VK -> Prop}
theorem xz (pa : PlainAttrs T) (slot : Slot T name id) (hty : typeOf (.builtin id) = pure (.type "method_descriptor")) (hm : MtR X id r) (ho : PE X o to) (ha : PA X (e :: es) t)
    (hbase : attributeBase o name X.env (eval o X.env) = eval o X.env := by rfl)
    (hfew : ((backTo cpos (starEach (e :: es) X.env)).all (fun x => !x.1) && (backToKw cpos (keywordEach [] X.env)).all (fun x => x.1.isSome)
      && decide ((e :: es).length + ([] : List Keyword).length + (if ([] : List Keyword).isEmpty then 0 else 1) < 30)) = true := by rfl)
    (hline : (apos.endLine == cpos.line) = true := by rfl) (hs : starEach (e :: es) X.env = (false, eval e X.env) :: starEach es X.env := by rfl) (hplain : (backTo cpos (starEach es X.env)).any (·.1) = false := by rfl) :
    PE X (.Call (.Attribute o name apos) (e :: es) [] cpos) (tBM X.K T r to t) := by
  intro pins s σ H Q I h
  refine wpAny_Call_method_late hbase hfew hline rfl (thn (ho pins s σ H _ I h) fun v s1 ⟨x, H1, I1, r1, ty, q1⟩ => ?_)
  obtain ⟨h1, h2⟩ := zmN I1 r1 ty
  refine ⟨T, id, pa, slot, hty, h1, h2, ?_⟩
  have hA := ha cpos pins s1 σ H1 _ I1 q1
  rw [hs] at hA ⊢
  refine Calls.callWith_builtin (by show (false || (backTo cpos (starEach es X.env)).any (·.1)) = false; rw [hplain] <;> rfl) (Calls.evalArgs_plain ?_)
  exact thn hA fun us s2 ⟨vs, H2, I2, r2, q2⟩ => hm pins s2 σ H2 x vs v us Q I2 r1 r2 q2
end
end L2
namespace L2
open PySem PySem.Spec PyProof.Rows
def MtM (X : Cx) (id : String) (r : V -> List V -> Hp -> VK -> Prop) : Prop :=
  ∀ (pins : List (Addr × Obj)) (s : Shared) (σ : St) (H : Hp) (x : V) (xs : List V) (v : Value) (us : List Value) (Q : VK), Inv X pins σ H s -> yq x v -> yx xs us -> r x xs H Q ->
    wpAny (model X.prog X.w) X.A (call (.builtin id) (v :: us)) (EP X pins σ Q) X.xe s
theorem yx.one : ∀ {x : V} {us : List Value}, yx [x] us -> ∃ u, us = [u] /\ yq x u
  | _, _, .cons r .nil => ⟨_, rfl, r⟩
theorem yx.rep {xs : List V} {us : List Value} (h : yx xs us) : ∀ k : Nat, yx (List.replicate k xs).flatten (List.replicate k us).flatten
  | 0 => .nil
  | k + 1 => by
    rw [List.replicate_succ, List.replicate_succ, List.flatten_cons, List.flatten_cons]
    exact yx.append h (yx.rep h k)
theorem zaP (its : List Value) : ∀ (k : Nat) (acc : List Value),
    List.foldl (fun x1 x2 => x1 ++ x2) acc.toArray (List.replicate k its.toArray) = (acc ++ (List.replicate k its).flatten).toArray
  | 0, acc => by simp
  | k + 1, acc => by
    have e : acc.toArray ++ its.toArray = (acc ++ its).toArray := by simp
    have e2 : (acc ++ its) ++ (List.replicate k its).flatten = acc ++ (List.replicate (k + 1) its).flatten := by
      rw [List.replicate_succ, List.flatten_cons, List.append_assoc]
    rw [<- e2, <- zaP its k (acc ++ its), <- e, List.replicate_succ, List.foldl_cons]
section
variable {X : Cx} {pins : List (Addr × Obj)} {σ : St} {H : Hp} {s : Shared} {l b : Addr} {xs ys zs : List V}
theorem Inv.lset {its its' : List Value} {n : Nat} {f : Array Value -> Array Value} {t' : Nat} (I : Inv X pins σ H s) (hH : H l = some (.lst xs))
    (e : s.heap.get? l = some { cls := .type "list", data := .seq its.toArray n }) (hf : f its.toArray = its'.toArray) (hv : yx ys its') (hz : ys.length <= sizeLine) :
    Inv X pins σ (upd H l (.lst ys)) { s with heap := s.heap.update l (Obj.mapSeq f), toks := t' } := by
  have q := PySem.IsL.update e f
  rw [hf] at q
  refine I.write (x := l) (e := l) (by rw [hH]; exact trivial) (.inl rfl) (fun b' u hb hu => (Heap.get?_update_other s.heap (Obj.mapSeq f) (Ne.symm hb)).trans hu) ⟨_, q⟩ ?_
  exact ⟨hz, its', _, hv, q⟩
theorem Inv.lnew {its : List Value} {t' : Nat} (I : Inv X pins σ H s) (hv : yx ys its) (hz : ys.length <= sizeLine) :
    Inv X pins σ (upd H s.heap.objs.size (.lst ys)) { s with heap := s.heap.push { cls := .type "list", data := .seq its.toArray }, toks := t' } :=
  I.laid (fun _ _ q => Heap.get?_push_of_some _ q) (Nat.le_refl _) ⟨hz, its, 0, hv, Heap.get?_push_size _ rfl⟩
theorem Inv.fresh (I : Inv X pins σ H s) : H s.heap.objs.size = none := I.hok.fresh (Nat.le_refl _)
theorem Inv.lstM (I : Inv X pins σ H s) (hH : H l = some (.lst xs)) : xs.length <= sizeLine /\ ∃ (its : List Value) (n : Nat), yx xs its /\ xs.length = its.length /\ s.heap.get? l = some { cls := .type "list", data := .seq its.toArray n } := by
  obtain ⟨z, its, n, r, e⟩ := I.hok l _ hH
  exact ⟨z, its, n, r, r.length, e⟩
theorem zah {n : Nat} (h : n <= sizeLine) : Builtin.List.listTooLong n = false := by
  unfold Builtin.List.listTooLong
  exact decide_eq_false (by omega)
end
section
variable {X : Cx}
def zjr : V -> List V -> Hp -> VK -> Prop := fun x vs H Q => ∃ l xs y, x = .ref l /\ vs = [y] /\ H l = some (.lst xs) /\ xs.length < sizeLine /\ Q .non (upd H l (.lst (xs ++ [y])))
theorem yb : MtM X "list.append" zjr := by
  intro pins s σ H x vs v us Q I rx rv h
  obtain ⟨l, xs, y, rfl, rfl, hH, hz, q⟩ := h
  cases rx
  obtain ⟨u, rfl, ru⟩ := rv.one
  obtain ⟨z, its, n, r, hl, e⟩ := I.lstM hH
  refine call_meets F.slot_list_append ⟨_, e, rfl⟩ F.entry_list_append (F.args_list_append_2 _ _) (PySem.list_append l its.toArray n u (by rw [List.size_toArray]; omega)) ⟨e, ?_⟩
  refine ⟨.non, _, I.lset (its' := its ++ [u]) hH e (by simp) (r.append (.cons ru .nil)) ?_, rfl, q⟩
  rw [List.length_append, List.length_singleton]
  omega
def zkh : V -> List V -> Hp -> VK -> Prop := fun x vs H Q => ∃ l b xs zs, x = .ref l /\ vs = [.ref b] /\ H l = some (.lst xs) /\ H b = some (.lst zs) /\ xs.length + zs.length <= sizeLine /\ Q .non (upd H l (.lst (xs ++ zs)))
theorem zbw : MtM X "list.extend" zkh := by
  intro pins s σ H x vs v us Q I rx rv h
  obtain ⟨l, b, xs, zs, rfl, rfl, hH, hB, hz, q⟩ := h
  cases rx
  obtain ⟨u, rfl, ru⟩ := rv.one
  cases ru
  obtain ⟨z, its, n, r, hl, e⟩ := I.lstM hH
  obtain ⟨z2, its2, n2, r2, hl2, e2⟩ := I.lstM hB
  have hsz : its.toArray.size + its2.toArray.size <= sizeLine := by rw [List.size_toArray, List.size_toArray]; omega
  have hlong : ¬ (!its.toArray.isEmpty && Builtin.List.listTooLong (its.toArray.size + its2.toArray.size)) = true := by
    rw [zah hsz, Bool.and_false]
    exact Bool.false_ne_true
  refine call_meets F.slot_list_extend ⟨_, e, rfl⟩ F.entry_list_extend (F.args_list_extend_2 _ _)
    (AutoSeq1.list_extend_list_list_0 l its.toArray n b its2.toArray n2 hlong (by rw [List.size_toArray]; omega) (by omega)) ⟨e, e2, ?_⟩
  refine ⟨.non, _, I.lset (its' := its ++ its2) hH e (by simp) (r.append r2) ?_, rfl, q⟩
  rw [List.length_append]
  omega
def zok : R2 := fun x y H Q => ∃ l b xs zs, x = .ref l /\ y = .ref b /\ H l = some (.lst xs) /\ H b = some (.lst zs) /\ xs.length + zs.length <= sizeLine /\ ∀ p, H p = none -> Q (.ref p) (upd H p (.lst (xs ++ zs)))
theorem zje : OpR X (binaryOp .Add) zok := by
  intro pins s σ H x y v u Q I rx ry h
  obtain ⟨l, b, xs, zs, rfl, rfl, hH, hB, hz, q⟩ := h
  cases rx
  cases ry
  obtain ⟨z, its, n, r, hl, e⟩ := I.lstM hH
  obtain ⟨z2, its2, n2, r2, hl2, e2⟩ := I.lstM hB
  refine PySem.P.add_list e e2 ?_ (by rw [List.size_toArray, List.size_toArray]; omega)
  have ea : its.toArray ++ its2.toArray = (its ++ its2).toArray := by simp
  rw [ea]
  exact ⟨.ref _, _, I.lnew (t' := s.toks) (r.append r2) (by rw [List.length_append]; omega), rfl, q _ I.fresh⟩
def zob : R2 := fun x y H Q => ∃ l k xs, x = .ref l /\ y = .int k /\ H l = some (.lst xs) /\ -(2 ^ 63) <= k /\ k < 2 ^ 63 /\ xs.length * k.toNat <= sizeLine /\
  ∀ p, H p = none -> Q (.ref p) (upd H p (.lst (List.replicate k.toNat xs).flatten))
theorem zjI {α : Type} (xs : List α) (k : Nat) : (List.replicate k xs).flatten.length = k * xs.length := by
  induction k with
  | zero => simp
  | succ k ih => rw [List.replicate_succ, List.flatten_cons, List.length_append, ih, Nat.succ_mul, Nat.add_comm]
theorem vX : OpR X (binaryOp .Mult) zob := by
  intro pins s σ H x y v u Q I rx ry h
  obtain ⟨l, k, xs, rfl, rfl, hH, h1, h2, hz, q⟩ := h
  cases rx
  obtain ⟨t, rfl⟩ := ry
  obtain ⟨z, its, n, r, hl, e⟩ := I.lstM hH
  have hlen : its.toArray.size * k.toNat <= sizeLine := by rw [List.size_toArray, <- hl]; exact hz
  have hcap : ¬ its.toArray.size * k.toNat > (2 ^ 63 - 1) / 8 := by
    have : (sizeLine : Nat) <= (2 ^ 63 - 1) / 8 := by decide
    omega
  have hfit : ¬ (!Builtin.List.listFitsIndex k) = true := by
    rw [fitsIndex_both h1 h2]
    exact Bool.false_ne_true
  have hlong : ¬ Builtin.List.listTooLong (its.toArray.size * k.toNat) = true := by
    rw [zah hlen]
    exact Bool.false_ne_true
  have hnew : List.foldl (fun x1 x2 => x1 ++ x2) #[] (List.replicate (if its.toArray.isEmpty = true then 0 else k.toNat) its.toArray) = (List.replicate k.toNat its).flatten.toArray := by
    have f0 : ∀ m : Nat, List.foldl (fun x1 x2 => x1 ++ x2) #[] (List.replicate m its.toArray) = (List.replicate m its).flatten.toArray := fun m => by
      have := zaP its m []
      rw [List.nil_append] at this
      exact this
    rw [f0]
    cases its with
    | nil => simp
    | cons a r' => rw [if_neg (by simp)]
  refine wpAny_binaryOp_repeat_ref (T := "list") (U := "int") (by decide) ⟨_, e, rfl⟩ (fun s' => typeIs_int s' k t) noFill_list_mul F.fills_int_mul F.slot_int_rmul repeat_list F.slot_int_index.lookup
    (call_meets F.slot_int_rmul (typeIs_int s k t) F.entry_int_rmul (F.args_int_rmul_2 _ _) (int___rmul___int_list k t l its.toArray n)
      ⟨e, rfl, ⟨_, e, rfl⟩, call_meets F.slot_list_mul ⟨_, e, rfl⟩ F.entry_list_mul (F.args_list_mul_2 _ _) (AutoListH.list___mul___list_int_3 l its.toArray n k t hfit hcap hlong) ⟨e, ?_⟩⟩)
  rw [hnew]
  exact ⟨.ref _, _, I.lnew (t' := s.toks) (r.rep k.toNat) (by rw [zjI, Nat.mul_comm]; exact hz), rfl, q _ I.fresh⟩
end
section
variable {prog : Program} {w : World} {A : Around} {E : Value -> Shared -> Prop} {s : Shared}
end
section
variable {X : Cx}
end
end L2
namespace L2
open PySem PySem.Spec PyProof.Rows
theorem yx.ints : ∀ {ns : List Int} {us : List Value}, yx (ns.map V.int) us -> IntsAre us ns
  | [], us, h => by
    rw [List.map_nil] at h
    cases h
    exact IntsAre.nil
  | n :: ns, us, h => by
    rw [List.map_cons] at h
    cases h with
    | cons r t =>
      obtain ⟨k, rfl⟩ := r
      exact IntsAre.cons n k (yx.ints t)
section
variable {prog : Program} {w : World} {A : Around} {E : Value -> Shared -> Prop} {s : Shared} {l : Addr} {its : List Value} {ns : List Int} {Q : Value -> Shared -> Prop}
end
section
variable {X : Cx}
end
section
variable {X : Cx}
def zmx (K : PySem.W.Frag) : V -> List V -> Hp -> VK -> Prop := fun x xs H Q => ∃ (a : Addr) (ys : List V) (y : V) (j : Nat) (z : V), x = V.ref a /\ xs = [y] /\ SqL K H a ys /\ jx y = true /\ ys.all jx = true /\ ys[j]? = some z /\ eqV z y = true /\
  (∀ (m : Nat) (z' : V), m < j -> ys[m]? = some z' -> eqV z' y = false) /\ Q (.int (j : Nat)) H
theorem zfL {ys : List V} (f : ys.all jx = true) {j : Nat} {z : V} (h : ys[j]? = some z) : jx z = true := List.all_eq_true.mp f z (List.mem_of_getElem? h)
theorem zio : MtR X "list.index" (zmx X.K) := by
  intro pins s σ H x xs v us Q I rx rxs h
  obtain ⟨a, ys, y, j, z, rfl, rfl, hs, fy, fys, hz, hzj, hno, q⟩ := h
  cases rx
  cases rxs with
  | cons ry rt =>
    rename_i uy ut
    cases rt
    obtain ⟨its, rv, ⟨⟨cls, dd, data, sl⟩, n, ho, hc, hdn, hd⟩, hlen⟩ := I.list hs
    simp only at hc hd
    subst hc hd
    obtain ⟨u, hu, ru⟩ := rv.get hz
    obtain ⟨hjl, hje⟩ := List.getElem?_eq_some_iff.mp hu
    have hvl := rv.length
    have hj : j < its.toArray.size := by simpa using hjl
    have hsl := sizeLine_eq
    refine call_meets PySem.F.slot_list_index ⟨_, ho, rfl⟩ PySem.F.entry_list_index (PySem.F.args_list_index_2 _ _)
      (SeqAt.list_indexAt a its.toArray n dd sl uy (eqU y) j hj (by omega) ?_ ?_) ⟨ho, fun u' hu' => ku ry fy rv fys u' (by simpa using hu'), ?_⟩
    . have e1 : its.toArray[j] = u := by simpa using hje
      rw [e1, zc3 ru (zfL fys hz)]
      exact hzj
    . intro m hm hmj
      have hml : m < its.length := by simpa using hm
      have hmy : m < ys.length := by omega
      have hy' : ys[m]? = some ys[m] := List.getElem?_eq_getElem hmy
      obtain ⟨u2, hu2, ru2⟩ := rv.get hy'
      obtain ⟨_, hme⟩ := List.getElem?_eq_some_iff.mp hu2
      have e1 : its.toArray[m] = u2 := by simpa using hme
      rw [e1, zc3 ru2 (zfL fys hy')]
      exact hno m _ hmj hy'
    . exact ⟨.int (j : Nat), H, I.tok _, ⟨_, rfl⟩, q⟩
end
section
variable {X : Cx}
end
section
variable {X : Cx}
end
mutual
inductive Dp (K : PySem.W.Frag) (H : Hp) : V -> PyData -> Prop
  | non : Dp K H .non .none
  | bl (b : Bool) : Dp K H (.bl b) (.bool b)
  | int (i : Int) : Dp K H (.int i) (.int i)
  | str (x : Str) : Dp K H (.str x) (.str x)
  | lst {a : Addr} {xs : List V} {ds : List PyData} : SqL K H a xs -> zb3 K H xs ds -> Dp K H (.ref a) (.list ds)
  | tup {a : Addr} {xs : List V} {ds : List PyData} : SqT K H a xs -> zb3 K H xs ds -> Dp K H (.ref a) (.tuple ds)
inductive zb3 (K : PySem.W.Frag) (H : Hp) : List V -> List PyData -> Prop
  | nil : zb3 K H [] []
  | cons {v : V} {vs : List V} {d : PyData} {ds : List PyData} : Dp K H v d -> zb3 K H vs ds -> zb3 K H (v :: vs) (d :: ds)
end
section
variable {X : Cx} {pins : List (Addr × Obj)} {σ : St} {H : Hp} {s : Shared}
mutual
theorem Dp.reads (I : Inv X pins σ H s) : ∀ (d : PyData) (v : V) (u : Value), Dp X.K H v d -> yq v u -> ∃ as, Reads s.heap u d as
  | .none, _, _, h, r => by
    cases h
    cases r
    exact ⟨_, Reads.none⟩
  | .bool b, _, _, h, r => by
    cases h
    cases r
    exact ⟨_, Reads.bool b⟩
  | .int i, _, _, h, r => by
    cases h
    obtain ⟨t, rfl⟩ := r
    exact ⟨_, Reads.int i t⟩
  | .str x, _, _, h, r => by
    cases h
    obtain ⟨t, rfl⟩ := r
    exact ⟨_, Reads.str x t⟩
  | .list ds, _, _, h, r => by
    cases h with
    | lst hs ha =>
      cases r
      obtain ⟨its, rv, ⟨o, n, ho, hc, _, hd⟩, _⟩ := I.list hs
      obtain ⟨as, hr⟩ := Dp.readsAll I ds _ its ha rv
      exact ⟨_, Reads.list ho hc hd hr⟩
  | .tuple ds, _, _, h, r => by
    cases h with
    | tup hs ha =>
      cases r
      obtain ⟨its, rv, ⟨o, ho, hc, n, hd⟩, _⟩ := I.tuple hs
      obtain ⟨as, hr⟩ := Dp.readsAll I ds _ its ha rv
      exact ⟨_, Reads.tuple ho hc hd hr⟩
  | .dict _, _, _, h, _ => by cases h
theorem Dp.readsAll (I : Inv X pins σ H s) : ∀ (ds : List PyData) (vs : List V) (us : List Value), zb3 X.K H vs ds -> yx vs us -> ∃ as, ReadsAll s.heap us ds as
  | [], _, _, h, r => by
    cases h
    cases r
    exact ⟨_, ReadsAll.nil⟩
  | d :: ds, _, _, h, r => by
    cases h with
    | cons h1 h2 =>
      cases r with
      | cons r1 r2 =>
        obtain ⟨as, q1⟩ := Dp.reads I d _ _ h1 r1
        obtain ⟨bs, q2⟩ := Dp.readsAll I ds _ _ h2 r2
        exact ⟨_, ReadsAll.cons q1 q2⟩
end
end
section
variable {X : Cx}
def zoj (K : PySem.W.Frag) : R2 := fun x y H Q => ∃ d e, Dp K H x d /\ Dp K H y e /\ SeqAt.shaped d = true /\ SeqAt.shaped e = true /\ Q (.bl (PyData.eqv d e)) H
theorem zmi (hu : X.A.units + 64 < cLine) : OpR X (compareOp .Eq) (zoj X.K) := by
  intro pins s σ H x y v u Q I rx ry h
  obtain ⟨d, e, hd, he, sd, se, q⟩ := h
  obtain ⟨as, r1⟩ := Dp.reads I d x v hd rx
  obtain ⟨bs, r2⟩ := Dp.reads I e y u he ry
  exact SeqAt.compareEq_shaped r1 r2 sd se hu ⟨.bl _, H, I, rfl, q⟩
end
end L2
namespace L2
open PySem PySem.Spec PyProof.Rows
abbrev zjk (h : Heap) (c : Addr) (v : Option Value) : Prop := h.IsCell c v
def zor (scope sc : Scope) : Scope :=
  { scope with names := scope.names.map fun (n, k) => if (k == .free && sc.kind == .function && sc.names.lookup n == some .cell) then (n, .cell) else (n, k) }
def yn (cells : List (Str × Addr)) : List (Str × NameKind) -> List (Str × Addr) -> List (Str × Addr)
  | [], acc => acc
  | (n, k) :: r, acc => if k == .free then yn cells r ((n, (cells.lookup n).getD 0) :: acc) else yn cells r acc
theorem jS (env : Env) (f : Str × NameKind -> List (Str × Addr) -> Sem (ForInStep (List (Str × Addr))))
    (hf : ∀ n k c, f (n, k) c = if k == .free then (do let a <- cellOf env n; pure (.yield ((n, a) :: c))) else pure (.yield c)) :
    ∀ (names : List (Str × NameKind)) (acc : List (Str × Addr)), (∀ y ∈ names, y.2 = .free -> ∃ c, env.cells.lookup y.1 = some c) -> forIn names acc f = pure (yn env.cells names acc)
  | [], acc, _ => by rw [List.forIn_nil]; rfl
  | (n, k) :: r, acc, h => by
    rw [List.forIn_cons, hf]
    have ih := fun acc => jS env f hf r acc fun y hy => h y (List.mem_cons_of_mem _ hy)
    unfold yn
    by_cases hk : (k == NameKind.free) = true
    . rw [if_pos hk, if_pos hk]
      obtain ⟨c, hc⟩ := h (n, k) List.mem_cons_self (by simpa using hk)
      have e : cellOf env n = pure c := by unfold cellOf; rw [hc]
      rw [e]
      have e2 : (env.cells.lookup n).getD 0 = c := by rw [hc]; rfl
      rw [e2]
      exact ih _
    . rw [if_neg hk, if_neg hk]
      exact ih _
theorem zd4 {scope : Scope} {env : Env} (h : ∀ y ∈ scope.names, y.2 = .free -> ∃ c, env.cells.lookup y.1 = some c) : closureFor scope env = pure (yn env.cells scope.names []) := by
  simp only [closureFor]
  rw [jS env _ (fun n k c => rfl) scope.names [] h]
  rfl
theorem jr {α : Type} : ∀ {l : List (Str × α)} {n : Str} {c : α}, (n, c) ∈ l -> ∃ c', l.lookup n = some c'
  | (k, v) :: r, n, c, h => by
    rw [List.lookup_cons]
    cases hb : n == k with
    | true => exact ⟨_, rfl⟩
    | false =>
      rcases List.mem_cons.mp h with e | h
      . cases e; simp at hb
      . exact jr h
theorem xG {cells : List (Str × Addr)} : ∀ {names : List (Str × NameKind)} {acc : List (Str × Addr)} {n : Str} {c : Addr}, (n, c) ∈ yn cells names acc -> (n, c) ∈ acc \/ ((n, .free) ∈ names /\ c = (cells.lookup n).getD 0)
  | [], _, _, _, h => .inl h
  | (m, k) :: r, acc, n, c, h => by
    unfold yn at h
    split at h
    . rename_i hk
      have hk : k = .free := by simpa using hk
      rcases xG h with h | ⟨h1, h2⟩
      . rcases List.mem_cons.mp h with e | h
        . cases e; exact .inr ⟨hk ▸ List.mem_cons_self, rfl⟩
        . exact .inl h
      . exact .inr ⟨List.mem_cons_of_mem _ h1, h2⟩
    . rcases xG h with h | ⟨h1, h2⟩
      . exact .inl h
      . exact .inr ⟨List.mem_cons_of_mem _ h1, h2⟩
theorem qM {cells : List (Str × Addr)} : ∀ {names : List (Str × NameKind)} {acc : List (Str × Addr)} {p : Str × Addr}, p ∈ acc -> p ∈ yn cells names acc
  | [], _, _, h => h
  | (m, k) :: r, acc, p, h => by
    unfold yn
    split
    . exact qM (List.mem_cons_of_mem _ h)
    . exact qM h
theorem qQ {cells : List (Str × Addr)} : ∀ {names : List (Str × NameKind)} {acc : List (Str × Addr)} {n : Str}, (n, .free) ∈ names -> (n, (cells.lookup n).getD 0) ∈ yn cells names acc
  | (m, k) :: r, acc, n, h => by
    unfold yn
    rcases List.mem_cons.mp h with e | h
    . cases e
      exact qM List.mem_cons_self
    . split
      . exact qQ h
      . exact qQ h
theorem x6 : ∀ {names : List (Str × NameKind)} {h : Heap} {acc : List (Str × Addr)} {x : Str} {c : Addr}, (x, c) ∈ cellsFrom h.objs.size names acc ->
    (x, c) ∈ acc \/ ((x, .cell) ∈ names /\ h.objs.size <= c /\ zjk (pushCells h names) c none)
  | [], _, _, _, _, h => .inl h
  | (n, k) :: r, h, acc, x, c, hm => by
    unfold cellsFrom at hm
    unfold pushCells
    split at hm
    . rename_i hk
      rw [if_pos hk]
      have hk : k = .cell := by simpa using hk
      rw [<- Heap.size_push h { cls := .type "cell", data := .cell none }] at hm
      rcases x6 hm with hm | ⟨h1, h2, h3⟩
      . rcases List.mem_cons.mp hm with e | hm
        . cases e
          exact .inr ⟨hk ▸ List.mem_cons_self, Nat.le_refl _, _, pushCells_keeps r _ _ _ (Heap.get?_push_size _ rfl), rfl⟩
        . exact .inl hm
      . rw [Heap.size_push] at h2
        exact .inr ⟨List.mem_cons_of_mem _ h1, Nat.le_of_succ_le h2, h3⟩
    . rename_i hk
      rw [if_neg hk]
      rcases x6 hm with hm | ⟨h1, h2, h3⟩
      . exact .inl hm
      . exact .inr ⟨List.mem_cons_of_mem _ h1, h2, h3⟩
theorem jk : ∀ {names : List (Str × NameKind)} {n : Nat} {acc : List (Str × Addr)} {p : Str × Addr}, p ∈ acc -> p ∈ cellsFrom n names acc
  | [], _, _, _, h => h
  | (m, k) :: r, n, acc, p, h => by
    unfold cellsFrom
    split
    . exact jk (List.mem_cons_of_mem _ h)
    . exact jk h
theorem kM : ∀ {names : List (Str × NameKind)} {n : Nat} {acc : List (Str × Addr)} {x : Str}, (x, .cell) ∈ names -> ∃ c, (x, c) ∈ cellsFrom n names acc
  | (m, k) :: r, n, acc, x, h => by
    unfold cellsFrom
    rcases List.mem_cons.mp h with e | h
    . cases e
      exact ⟨n, jk List.mem_cons_self⟩
    . split
      . exact kM h
      . exact kM h
theorem vh : ∀ {names : List (Str × NameKind)} {h : Heap} {acc : List (Str × Addr)} {x y : Str} {c : Addr}, (∀ p ∈ acc, p.2 < h.objs.size) -> (∀ x y c, (x, c) ∈ acc -> (y, c) ∈ acc -> x = y) ->
    (x, c) ∈ cellsFrom h.objs.size names acc -> (y, c) ∈ cellsFrom h.objs.size names acc -> x = y
  | [], _, _, _, _, _, _, hi, h1, h2 => hi _ _ _ h1 h2
  | (n, k) :: r, h, acc, x, y, c, hl, hi, h1, h2 => by
    unfold cellsFrom at h1 h2
    split at h1
    . rename_i hk
      rw [if_pos hk] at h2
      rw [<- Heap.size_push h { cls := .type "cell", data := .cell none }] at h1 h2
      refine vh (h := h.push _) (fun p hp => ?_) (fun x y c a b => ?_) h1 h2
      . rw [Heap.size_push]
        rcases List.mem_cons.mp hp with rfl | hp
        . exact Nat.lt_succ_self _
        . exact Nat.lt_succ_of_lt (hl p hp)
      . rcases List.mem_cons.mp a with e | a <;> rcases List.mem_cons.mp b with e' | b
        . cases e; cases e'; rfl
        . cases e; exact absurd (hl _ b) (Nat.lt_irrefl _)
        . cases e'; exact absurd (hl _ a) (Nat.lt_irrefl _)
        . exact hi _ _ _ a b
    . rename_i hk
      rw [if_neg hk] at h2
      exact vh hl hi h1 h2
theorem zbO {M : Model} {A : Around} {E : Value -> Shared -> Prop} {s : Shared} {scope : Scope} {globals : Addr} {closure : List (Str × Addr)} {qual : Str} {func : Option Addr} {code : Value} {around : Env} {builtins : Addr} {Q : Env -> Shared -> Prop}
    (h : Q (newEnv scope s.heap.objs.size globals (cellsFrom (s.heap.objs.size + 1) scope.names closure) qual func code (some around) builtins)
      { s with heap := pushCells (s.heap.push { cls := .type "dict", data := .dict #[] }) scope.names }) :
    wpAny M A (newFunctionEnv scope globals closure [] qual func code (some around) builtins) Q E s := by
  simp only [newFunctionEnv, Option.isSome_some, if_true]
  refine wpAny_bind (wpAny_alloc ?_)
  refine wpAny_bind (wpAny_layCells _ (fun n k c => rfl) scope.names closure _ _ ?_)
  rw [show ({ s with heap := s.heap.push { cls := .type "dict", data := .dict #[] } } : Shared).heap.objs.size = s.heap.objs.size + 1 from Heap.size_push ..]
  rw [List.forIn_nil]
  exact wpAny_bind (wpAny_pure (wpAny_pure h))
theorem qG {sc : Scope} : ∀ {names : List (Str × NameKind)} {x : Str} {k : NameKind},
    (names.map fun (n, k) => if (k == NameKind.free && sc.kind == .function && sc.names.lookup n == some .cell) then (n, NameKind.cell) else (n, k)).lookup x = some k ->
    ∃ k', names.lookup x = some k' /\ (k = k' \/ (k' = .free /\ k = .cell))
  | [], _, _, h => by simp at h
  | (n, k₀) :: r, x, k, h => by
    have ih := @qG sc r x k
    have h' : List.lookup x ((if (k₀ == NameKind.free && sc.kind == .function && sc.names.lookup n == some .cell) = true then (n, NameKind.cell) else (n, k₀)) :: (r.map _)) = some k := h
    cases hx : x == n with
    | true =>
      simp only [List.lookup_cons, hx]
      by_cases hc : (k₀ == NameKind.free && sc.kind == .function && sc.names.lookup n == some .cell) = true
      . rw [if_pos hc] at h'
        simp only [List.lookup_cons, hx] at h'
        cases h'
        simp only [Bool.and_eq_true, beq_iff_eq] at hc
        exact ⟨k₀, rfl, .inr ⟨hc.1.1, rfl⟩⟩
      . rw [if_neg hc] at h'
        simp only [List.lookup_cons, hx] at h'
        cases h'
        exact ⟨_, rfl, .inl rfl⟩
    | false =>
      simp only [List.lookup_cons, hx]
      by_cases hc : (k₀ == NameKind.free && sc.kind == .function && sc.names.lookup n == some .cell) = true
      . rw [if_pos hc] at h'
        simp only [List.lookup_cons, hx] at h'
        exact ih h'
      . rw [if_neg hc] at h'
        simp only [List.lookup_cons, hx] at h'
        exact ih h'
structure kO (N : List Str) (sc scope : Scope) (own : List (Str × Nat)) : Prop where
  kind : scope.kind = .function
  uniq : ∀ y ∈ scope.names, scope.names.lookup y.1 = some y.2
  ix : ∀ p ∈ own, N[p.2]? = some p.1
  free : ∀ y ∈ scope.names, y.2 = .free -> sc.names.lookup y.1 = some .cell \/ sc.names.lookup y.1 = some .free
  own : ∀ y ∈ scope.names, y.2 = .local \/ y.2 = .cell -> y.1 ∈ own.map (·.1) \/ y.1 ∉ N
def xr (σ : St) : List Nat -> St
  | [] => σ
  | v :: vs => (xr σ vs).set v none
theorem qR (σ : St) : ∀ vs : List Nat, (xr σ vs).length = σ.length
  | [] => rfl
  | v :: vs => by unfold xr; rw [List.length_set, qR σ vs]
theorem kP {σ : St} {i : Nat} {x : V} : ∀ {vs : List Nat}, (xr σ vs)[i]? = some (some x) -> σ[i]? = some (some x) /\ i ∉ vs
  | [], h => ⟨h, by simp⟩
  | v :: vs, h => by
    unfold xr at h
    by_cases hi : v = i
    . subst hi
      by_cases hv : v < (xr σ vs).length
      . rw [List.getElem?_set_self hv] at h; cases h
      . rw [List.getElem?_eq_none (by simpa using hv)] at h; cases h
    . rw [List.getElem?_set_ne hi] at h
      obtain ⟨h1, h2⟩ := kP h
      exact ⟨h1, by simp only [List.mem_cons, not_or]; exact ⟨fun e => hi e.symm, h2⟩⟩
abbrev Cx.blk (X : Cx) (s : Shared) (H : Hp) (scope : Scope) (cenv : Env) (fp : List Addr) : Cx := { X with s_0 := s, H_0 := H, env := cenv, outer := X.stack, ex := fp, fn := fun x => scope.names.lookup x == some .cell, pn := [], xe := fun _ _ => False }
section
variable {X : Cx} {pins : List (Addr × Obj)} {σ : St} {H : Hp} {s : Shared}
theorem zbR {scope : Scope} {own : List (Str × Nat)} {fp : List Addr} (I : Inv X pins σ H s) (ok : kO X.N X.env.scope scope own) (hN : X.N.Nodup) (hfp : ∀ b ∈ fp, zfA X pins H b /\ b < s.heap.objs.size) :
    Inv (X.blk s H scope (compEnvC scope (cellsFrom (s.heap.objs.size + 1) scope.names (yn X.env.cells scope.names [])) s.heap.objs.size X.env) fp) [] (xr σ (own.map (·.2))) H { s with heap := pushCells (s.heap.push { cls := .type "dict", data := .dict #[] }) scope.names } := by
  have hfree : ∀ y ∈ scope.names, y.2 = .free -> ∃ c, X.env.cells.lookup y.1 = some c := fun y hy e => by
    rcases ok.free y hy e with k | k
    . exact I.ok.has _ (.inl k)
    . exact I.ok.has _ (.inr k)
  generalize hcenv : compEnvC scope (cellsFrom (s.heap.objs.size + 1) scope.names (yn X.env.cells scope.names [])) s.heap.objs.size X.env = cenv
  have kp : ∀ b o, s.heap.get? b = some o -> (pushCells (s.heap.push { cls := .type "dict", data := .dict #[] }) scope.names).get? b = some o := fun b o e => pushCells_keeps _ _ _ _ (Heap.get?_push_of_some _ e)
  have hL : cenv.locals = s.heap.objs.size := by rw [<- hcenv]; rfl
  have hcl : cenv.cells = cellsFrom (s.heap.objs.size + 1) scope.names (yn X.env.cells scope.names []) := by rw [<- hcenv]; rfl
  have hsc : cenv.scope = zor scope X.env.scope := by rw [<- hcenv]; rfl
  rw [<- Heap.size_push s.heap { cls := .type "dict", data := .dict #[] }] at hcl
  have cm : ∀ {y c}, (y, c) ∈ yn X.env.cells scope.names [] -> X.env.cells.lookup y = some c /\ c < s.heap.objs.size := fun {y c} hm => by
    rcases xG hm with hm | ⟨h1, rfl⟩
    . cases hm
    . obtain ⟨c, hc⟩ := hfree _ h1 rfl
      rw [hc]
      obtain ⟨w, z⟩ := I.cell _ _ hc
      exact ⟨rfl, z.lt⟩
  have mem : ∀ {y c}, cenv.cells.lookup y = some c -> (X.env.cells.lookup y = some c /\ c < s.heap.objs.size) \/ (s.heap.objs.size + 1 <= c /\ zjk (pushCells (s.heap.push { cls := .type "dict", data := .dict #[] }) scope.names) c none) := fun {y c} e => by
    rw [hcl] at e
    rcases x6 (PySem.mem_of_lookup e) with hm | ⟨_, h2, h3⟩
    . exact .inl (cm hm)
    . rw [Heap.size_push] at h2; exact .inr ⟨h2, h3⟩
  have look : ∀ {y}, scope.names.lookup y = some .free -> ∃ c, cenv.cells.lookup y = some c /\ X.env.cells.lookup y = some c := fun {y} hl => by
    have hy : (y, NameKind.free) ∈ scope.names := PySem.mem_of_lookup hl
    obtain ⟨c', e'⟩ := jr (jk (names := scope.names) (n := (s.heap.push { cls := .type "dict", data := .dict #[] }).objs.size) (qQ (cells := X.env.cells) (acc := []) hy))
    rw [<- hcl] at e'
    refine ⟨c', e', ?_⟩
    rw [hcl] at e'
    rcases x6 (PySem.mem_of_lookup e') with hm | ⟨h1, _, _⟩
    . exact (cm hm).1
    . have := ok.uniq _ h1
      rw [hl] at this; cases this
  have okB : (X.blk s H scope cenv fp).Ok := by
    refine ⟨I.ok.mod, by show cenv.scope.kind = _; rw [hsc]; exact ok.kind, by show cenv.globals = _; rw [<- hcenv]; exact I.ok.glob, by show cenv.builtins = _; rw [<- hcenv]; exact I.ok.blt, by show s.heap.objs.size <= cenv.locals; rw [hL]; exact Nat.le_refl _,
      fun y z c e1 e2 => ?_, fun y hy => ?_, fun y c z e => ?_, I.ok.hd, I.ok.frames, .inl rfl, fun b hb => ⟨?_, fun y c e z => ?_⟩, I.bs, Nat.le_trans I.ok.bsz I.sz, fun b o e hb => ?_, fun b hb z => ?_, I.stack, I.stkFree⟩
    . have e1 : cenv.cells.lookup y = some c := e1
      have e2 : cenv.cells.lookup z = some c := e2
      rw [hcl] at e1 e2
      refine vh (fun p hp => ?_) (fun y z c a b => I.ok.inj y z c (cm a).1 (cm b).1) (PySem.mem_of_lookup e1) (PySem.mem_of_lookup e2)
      rw [Heap.size_push]
      exact Nat.lt_succ_of_lt (cm (y := p.1) (c := p.2) hp).2
    . show ∃ c, cenv.cells.lookup y = some c
      have key : ∀ k, cenv.kindOf y = some k -> (k = .cell \/ k = .free) -> ∃ c, cenv.cells.lookup y = some c := fun k hk hk' => by
        unfold Env.kindOf at hk
        rw [hsc] at hk
        obtain ⟨k', e, r⟩ := qG hk
        have : k' = .cell \/ k' = .free := by
          rcases r with rfl | ⟨rfl, _⟩
          . exact hk'
          . exact .inr rfl
        rcases this with rfl | rfl
        . obtain ⟨c, hm⟩ := kM (n := (s.heap.push { cls := .type "dict", data := .dict #[] }).objs.size) (acc := yn X.env.cells scope.names []) (PySem.mem_of_lookup e)
          obtain ⟨c', e'⟩ := jr hm
          exact ⟨c', by rw [hcl]; exact e'⟩
        . obtain ⟨c, h1, _⟩ := look e
          exact ⟨c, h1⟩
      rcases hy with hy | hy
      . exact key _ hy (.inl rfl)
      . exact key _ hy (.inr rfl)
    . have z : (scope.names.lookup y == some NameKind.cell) = true := z
      have z : scope.names.lookup y = some .cell := by simpa using z
      have e : cenv.cells.lookup y = some c := e
      rw [hcl] at e
      rcases x6 (PySem.mem_of_lookup e) with hm | ⟨_, h2, _⟩
      . rcases xG hm with hm | ⟨h1, _⟩
        . cases hm
        . have q := ok.uniq _ h1
          rw [z] at q; cases q
      . rw [Heap.size_push] at h2
        exact Nat.le_of_succ_le h2
    . show b ≠ cenv.locals
      rw [hL]; exact Nat.ne_of_lt (hfp b hb).2
    . have e : cenv.cells.lookup y = some c := e
      rcases mem e with ⟨h1, _⟩ | ⟨h1, _⟩
      . exact (hfp b hb).1.2.2.2.2.1 y c h1 z
      . have h2 : s.heap.objs.size + 1 <= b := by rw [<- z]; exact h1
        exact absurd (Nat.lt_of_lt_of_le (hfp b hb).2 (Nat.le_of_succ_le h2)) (Nat.lt_irrefl _)
    . rcases (hfp b hb).1.2.2.2.1 with z | z
      . exact I.ok.noex b o e z
      . exact absurd (Nat.lt_of_lt_of_le (Heap.lt_size e) (Nat.le_trans I.ok.bsz z)) (Nat.lt_irrefl _)
    . rcases List.mem_cons.mp (I.stkSub b z) with z | z
      . exact (hfp b hb).1.2.1 z
      . exact (hfp b hb).1.2.2.1 z
  refine ⟨okB, rfl, I.bare, Un.kept kp, ⟨fun _ => none, ?_, fun i y av e1 e2 e3 => ?_⟩, fun y c e => ?_, ?_, fun y c e => ?_, fun p hp => ?_, I.hok.kept kp, by rw [qR]; exact I.len⟩
  . show Heap.Ns _ cenv.locals _
    rw [hL]
    exact Heap.Ns.keeps (Heap.Ns.new ..) fun b o e => pushCells_keeps _ _ _ _ e
  . obtain ⟨e2, hne⟩ := kP e2
    have hfr : scope.names.lookup y = some .free /\ (cenv.kindOf y = some .cell \/ cenv.kindOf y = some .free) := by
      have key : ∀ k, cenv.scope.names.lookup y = some k -> k = .local \/ k = .cell \/ k = .free -> scope.names.lookup y = some .free /\ (cenv.kindOf y = some .cell \/ cenv.kindOf y = some .free) := fun k hk hk' => by
        have hk0 := hk
        rw [hsc] at hk
        obtain ⟨k', e, r⟩ := qG hk
        have no : ¬ (k' = .local \/ k' = .cell) := fun hh => by
          rcases ok.own _ (PySem.mem_of_lookup e) hh with e' | e'
          . obtain ⟨p, hp, hpy⟩ := List.mem_map.mp e'
            have e3 := ok.ix p hp
            have : p.1 = y := hpy
            rw [this] at e3
            exact hne (List.mem_map.mpr ⟨p, hp, w9 hN e3 e1⟩)
          . exact e' (List.mem_of_getElem? e1)
        rcases r with rfl | ⟨rfl, rfl⟩
        . rcases hk' with rfl | rfl | rfl
          . exact absurd (.inl rfl) no
          . exact absurd (.inr rfl) no
          . exact ⟨e, .inr hk0⟩
        . exact ⟨e, .inl hk0⟩
      have e3 : Vis cenv.scope y := e3
      rcases e3 with e3 | e3 | e3
      . exact key _ e3 (.inl rfl)
      . exact key _ e3 (.inr (.inl rfl))
      . exact key _ e3 (.inr (.inr rfl))
    obtain ⟨m, hn, hl⟩ := I.loc
    have hvis : Vis X.env.scope y := (ok.free _ (PySem.mem_of_lookup hfr.1) rfl).elim (fun k => .inr (.inl k)) (fun k => .inr (.inr k))
    obtain ⟨w, r, q⟩ := hl i y av e1 e2 hvis
    refine ⟨w, r, .inr ⟨hfr.2, ?_⟩⟩
    obtain ⟨c, h1, h2⟩ := look hfr.1
    rcases q with ⟨k, _⟩ | ⟨_, c', e', z⟩
    . have k : X.env.scope.names.lookup y = some .local := k
      rcases ok.free _ (PySem.mem_of_lookup hfr.1) rfl with k' | k' <;> rw [show X.env.scope.names.lookup y = _ from k'] at k <;> cases k
    . rw [h2] at e'; cases e'
      exact ⟨c, h1, z.keeps kp⟩
  . have e : cenv.cells.lookup y = some c := e
    rcases mem e with ⟨h1, _⟩ | ⟨_, z⟩
    . obtain ⟨w, z⟩ := I.cell y c h1
      exact ⟨w, z.keeps kp⟩
    . exact ⟨_, z⟩
  . show H cenv.locals = none
    rw [hL]; exact I.hok.fresh (Nat.le_refl _)
  . have e : cenv.cells.lookup y = some c := e
    rcases mem e with ⟨h1, _⟩ | ⟨h1, _⟩
    . exact I.freeC y c h1
    . exact I.hok.fresh (Nat.le_of_succ_le h1)
  . exact absurd (show p ∈ ([] : List (Addr × Obj)) ++ [] from hp) (by simp)
theorem zmC {E : Value -> Shared -> Prop} {D : Addr} {xs : List V} {y : V} {v : Value} {Q : Value -> Shared -> Prop} (I : Inv X pins σ H s) (hD : H D = some (.lst xs)) (hz : xs.length < sizeLine) (r : yq y v)
    (h : ∀ s', Inv X pins σ (upd H D (.lst (xs ++ [y]))) s' -> Q .none s') : wpAny (model X.prog X.w) X.A (call (.builtin "list.append") [.ref D, v]) Q E s := by
  obtain ⟨hz', its, n, ri, e⟩ := I.hok D _ hD
  have hl := ri.length
  refine append_at (hsz := by rw [List.size_toArray]; omega) e fun h' sb ho' => ?_
  refine h { s with heap := h' } (I.write (t' := s.toks) (by rw [hD]; trivial) (.inl rfl) (fun b u hb q => (sb.2 b hb).trans q) ⟨_, ho'⟩ ⟨by rw [List.length_append]; exact hz, its ++ [v], n + 1, ri.append (.cons r .nil), ?_⟩)
  rw [ho']
  simp
def PTs (X : Cx) (ifs : List Expr) (t : TT) : Prop :=
  ∀ (pins : List (Addr × Obj)) (s : Shared) (σ : St) (H : Hp) (Q : Bool -> Hp -> Prop), Inv X pins σ H s -> t σ H Q ->
    wpAny (model X.prog X.w) X.A (forIn ifs true fun c r => if r = true then do let ok <- isTrue c X.env (eval c X.env); pure (ForInStep.yield ok) else pure (ForInStep.yield r)) (TP X pins σ Q) X.xe s
def znO : TT := fun _ H Q => Q true H
theorem jz : PTs X [] znO := fun _ _ _ H _ I h => wpAny_tests_nil ⟨H, I, h⟩
end
theorem zlM {α : Type} {t : Sem α} {Q Q' : α -> Shared -> Prop} {M : Model} {A : Around} {E : Value -> Shared -> Prop} {s : Shared} (h : wpAny M A t Q (fun _ _ => False) s) (hQ : ∀ a s, Q a s -> Q' a s) : wpAny M A t Q' E s := wpAny_mono h hQ fun _ _ z => False.elim z
theorem zaT {prog : Program} {w : World} {A : Around} {R : Result -> Shared -> Prop} {s : Shared} {elt target iter : Expr} {ifs : List Expr} {scope : Scope} {pos : Pos} {it acc : Value} {env : Env} (I : Nat -> Shared -> Prop)
    (turn : ∀ n s, I n s -> wpAny (model prog w) A (pyNext it) (fun r s₁ => match r with
      | none => R (.ok .next) s₁
      | some v => wpAny (model prog w) A (letOwnedTupleGo target it v) (fun _ s₁' => wpAny (model prog w) A (assign target env v) (fun _ s₂ =>
          wpAny (model prog w) A (forIn ifs true fun c r => if r = true then do let ok <- isTrue c env (eval c env); pure (ForInStep.yield ok) else pure (ForInStep.yield r)) (fun ok s₃ =>
            if ok = true then wpAny (model prog w) A (eval elt env) (fun x s₄ =>
              wpAny (model prog w) A (call (.builtin "list.append") [acc, x]) (fun _ s₅ => ∃ m, m < n /\ I m s₅) (notedBy (model prog w) A env fun e s' => R (.error e) s') s₄) (notedBy (model prog w) A env fun e s' => R (.error e) s') s₃
            else ∃ m, m < n /\ I m s₃) (notedBy (model prog w) A env fun e s' => R (.error e) s') s₂) (notedBy (model prog w) A env fun e s' => R (.error e) s') s₁') (notedBy (model prog w) A env fun e s' => R (.error e) s') s₁) (notedBy (model prog w) A env fun e s' => R (.error e) s') s)
    (n : Nat) (h : I n s) :
    codeAny (model prog w) A (.compLoop (.ListComp elt [⟨target, iter, ifs, 0⟩] scope pos) 0 it acc env) R s := by
  refine codeAny_loop rfl I (fun n s hI => ?_) n h
  show wpAny _ A ((compTurn (.ListComp elt [⟨target, iter, ifs, 0⟩] scope pos) 0 it acc env).onRaise (fun x => do noteFrame x env; theTreesLotGoes x)) _ _ s
  refine wpAny_noted ?_
  rw [compTurn_list]
  refine wpAny_bind (wpAny_standAt (wpAny_bind (wpAny_mono (turn n s hI) (fun r s₁ h₁ => ?_) fun _ _ h' => h')))
  cases r with
  | none => exact wpAny_pure h₁
  | some v =>
    refine wpAny_bind (wpAny_mono h₁ (fun _ s₁' h₁' => ?_) fun _ _ h' => h')
    refine wpAny_bind (wpAny_mono h₁' (fun _ s₂ h₂ => wpAny_bind (wpAny_mono h₂ (fun ok s₃ h₃ => ?_) fun _ _ h' => h')) fun _ _ h' => h')
    cases ok with
    | false => exact wpAny_pure ⟨rfl, h₃⟩
    | true =>
      exact wpAny_bind (wpAny_bind (wpAny_mono h₃ (fun x s₄ h₄ => wpAny_bind (wpAny_mono h₄ (fun _ s₅ h₅ => wpAny_pure (wpAny_pure ⟨rfl, h₅⟩)) fun _ _ h' => h')) fun _ _ h' => h'))
section
variable {X : Cx}
def tLc (wi : TI) (g : TG) (tt : TT) (te : TE) (vs : List Nat) : TE := fun σ H Q => wi σ H fun J H1 => ∀ D, H1 D = none -> ∃ W : Nat -> Nat -> Hp -> Prop, (∃ m, W 0 m (upd H1 D (.lst []))) /\ ∀ i m H, W i m H ->
  (J.stop i H /\ Q (.ref D) H) \/ (J.go i H /\ ∃ Nx : Hp -> Prop, (∀ H', Nx H' -> ∃ m', m' < m /\ W (i + 1) m' H') /\ ∀ x H', J.yld i H x H' -> g x (xr σ vs) H' fun σ2 H2 => xr σ2 vs = xr σ vs /\ tt σ2 H2 fun b H3 =>
    if b = true then te σ2 H3 fun y H4 => ∃ acc, H4 D = some (.lst acc) /\ acc.length < sizeLine /\ Nx (upd H4 D (.lst (acc ++ [y]))) else Nx H3)
theorem zgl {pins : List (Addr × Obj)} {s : Shared} {σ : St} {H : Hp} {Q : VK} {elt tg iter : Expr} {ifs : List Expr} {scope : Scope} {own : List (Str × Nat)} {pos pos' : Pos} {wi : TI} {g : TG} {tt : TT} {te : TE} {use : Option (Value -> Sem Unit)} {Qf : Value -> Shared -> Prop}
    (hc : X.calm = true) (hN : X.N.Nodup) (I : Inv X pins σ H s) (hi : PI X tg iter wi) (ok : kO X.N X.env.scope scope own)
    (hg : ∀ (s : Shared) (H : Hp) (C : Addr) (cl : List (Str × Addr)) (fp : List Addr), PG (X.blk s H scope (compEnvC scope cl C X.env) fp) tg g) (ht : ∀ (s : Shared) (H : Hp) (C : Addr) (cl : List (Str × Addr)) (fp : List Addr), PTs (X.blk s H scope (compEnvC scope cl C X.env) fp) ifs tt)
    (he : ∀ (s : Shared) (H : Hp) (C : Addr) (cl : List (Str × Addr)) (fp : List Addr), PE (X.blk s H scope (compEnvC scope cl C X.env) fp) elt te) (hs : ∀ x, foldedSetIterable iter X.env x = pure x)
    (h : tLc wi g tt te (own.map (·.2)) σ H Q)
    (hRR : ∀ D C s' m H', Inv X pins σ H' s' -> Q (.ref D) H' -> s'.heap.Ns C m -> zfA X pins H' C -> compPost (model X.prog X.w) X.A X.xe use Qf (.ref D) C (.ok .next) s') :
    wpAny (model X.prog X.w) X.A (comprehension (.ListComp elt [⟨tg, iter, ifs, 0⟩] scope pos) scope X.env pos' (newList []) false (eval iter X.env) use) Qf X.xe s := by
  have hfree : ∀ y ∈ scope.names, y.2 = .free -> ∃ c, X.env.cells.lookup y.1 = some c := fun y hy e => by
    rcases ok.free y hy e with k | k
    . exact I.ok.has _ (.inl k)
    . exact I.ok.has _ (.inr k)
  refine wpAny_comprehension_free (use := use) rfl hs (zd4 hfree) ok.kind (fun y hy e => by rw [ok.uniq y hy, e])
    (thn (hi pins s σ H _ I h) fun xv s1 hx => thn hx fun itv s2 h2 => ?_)
  obtain ⟨it, fp, tn, J, H2, e, I2, T, st2, f2, q⟩ := h2
  subst e
  refine wpAny_newObj_type (zbO ?_) (by show 0 <= sizeLine; decide)
  generalize hD : s2.heap.objs.size = D
  have hDn : H2 D = none := I2.hok.fresh (Nat.le_of_eq hD)
  obtain ⟨W, ⟨m0, w0⟩, turn⟩ := q D hDn
  generalize hs3 : ({ s2 with heap := s2.heap.push { cls := .type "list", data := .seq ([] : List Value).toArray } } : Shared) = s3
  have I3 : Inv X pins σ (upd H2 D (.lst [])) s3 := by
    rw [<- hs3]
    refine I2.laid (t' := s2.toks) (fun b o e => Heap.get?_push_of_some _ e) (Nat.le_of_eq hD) ⟨Nat.zero_le _, [], 0, .nil, ?_⟩
    rw [<- hD]
    exact Heap.get?_push_size _ rfl
  have h3 : s3.heap = s2.heap.push { cls := .type "list", data := .seq ([] : List Value).toArray } := by rw [<- hs3]
  have sz : ∀ b ∈ fp, b < s2.heap.objs.size := fun b hb => by
    obtain ⟨o, e, _⟩ := T.obj _ _ st2 b hb
    exact Heap.lt_size e
  have f3 : ∀ b ∈ fp, zfA X pins (upd H2 D (.lst [])) b /\ b < s3.heap.objs.size := fun b hb => by
    have hlt := sz b hb
    refine ⟨⟨?_, (f2 b hb).2⟩, by rw [h3, Heap.size_push]; exact Nat.lt_succ_of_lt hlt⟩
    rw [zk (by rw [<- hD]; exact Nat.ne_of_lt hlt)]
    exact (f2 b hb).1
  have st3 : tn 0 s3.heap := T.keep _ _ _ st2 fun b _ o e => by rw [h3]; exact Heap.get?_push_of_some _ e
  have I4 := zbR I3 ok hN f3
  have pg := hg s3 (upd H2 D (.lst [])) s3.heap.objs.size (cellsFrom (s3.heap.objs.size + 1) scope.names (yn X.env.cells scope.names [])) fp
  have pt := ht s3 (upd H2 D (.lst [])) s3.heap.objs.size (cellsFrom (s3.heap.objs.size + 1) scope.names (yn X.env.cells scope.names [])) fp
  have pe := he s3 (upd H2 D (.lst [])) s3.heap.objs.size (cellsFrom (s3.heap.objs.size + 1) scope.names (yn X.env.cells scope.names [])) fp
  show codeAny _ _ (.compStart (.ListComp elt [⟨tg, iter, ifs, 0⟩] scope pos) 0 (.ref it) (.ref D) (compEnvC scope (cellsFrom (s3.heap.objs.size + 1) scope.names (yn X.env.cells scope.names [])) s3.heap.objs.size X.env)) (compPost (model X.prog X.w) X.A X.xe use Qf (.ref D) s3.heap.objs.size) { s3 with heap := pushCells (s3.heap.push { cls := .type "dict", data := .dict #[] }) scope.names }
  have nfp : ∀ b ∈ fp, (upd H2 D (.lst [])) b = none := fun b hb => (f3 b hb).1.1
  generalize hce : compEnvC scope (cellsFrom (s3.heap.objs.size + 1) scope.names (yn X.env.cells scope.names [])) s3.heap.objs.size X.env = ce at I4 pg pt pe ⊢
  have cL : ce.locals = s3.heap.objs.size := by subst hce; rfl
  generalize hH3 : upd H2 D (.lst []) = H3 at I3 I4 pg pt pe w0 nfp f3
  generalize hs4 : ({ s3 with heap := pushCells (s3.heap.push { cls := .type "dict", data := .dict #[] }) scope.names } : Shared) = s4 at I4 ⊢
  have st4 : tn 0 s4.heap := T.keep _ _ _ st3 fun b _ o e => by rw [<- hs4]; exact pushCells_keeps _ _ _ _ (Heap.get?_push_of_some _ e)
  have stat : ∀ {σ' : St} {H' : Hp} {s' : Shared}, Inv (X.blk s3 H3 scope ce fp) [] σ' H' s' -> (∀ b ∈ fp, H' b = none) -> ∀ b ∈ fp, zfA (X.blk s3 H3 scope ce fp) [] H' b := fun {σ' H' s'} I' hn b hb =>
    ⟨hn b hb, (I'.ok.exf b hb).1, I'.ok.exfs b hb, .inl hb, fun x c e => (I'.ok.exf b hb).2 x c e, fun p hp => absurd (show p ∈ ([] : List (Addr × Obj)) ++ [] from hp) (by simp)⟩
  have loop : codeAny (model X.prog X.w) X.A (.compLoop (.ListComp elt [⟨tg, iter, ifs, 0⟩] scope pos) 0 (.ref it) (.ref D) ce) (compPost (model X.prog X.w) X.A X.xe use Qf (.ref D) s3.heap.objs.size) s4 := by
    refine zaT (fun n s' => ∃ i H', Inv (X.blk s3 H3 scope ce fp) [] (xr σ (own.map (·.2))) H' s' /\ tn i s'.heap /\ (∀ b ∈ fp, H' b = none) /\ W i n H') ?_ m0 ⟨0, H3, I4, st4, nfp, w0⟩
    rintro n s5 ⟨i, H5, I5, st5, n5, w5⟩
    rcases turn i n H5 w5 with ⟨stop, qq⟩ | ⟨go, Nx, hNx, step⟩
    . have td := T.done (X.blk s3 H3 scope ce fp) rfl rfl rfl hc i [] s5 _ H5 (fun _ _ => False) I5 (stat I5 n5) st5 stop
      refine zlM td fun r s6 ⟨hr, I6⟩ => ?_
      subst hr
      have I7 : Inv X pins σ H5 s6 := I3.call' (ch := fp) I6.os I6.base I6.hok I6.bare fun b hb => ⟨(f3 b hb).1.2.2.2.1, (f3 b hb).1.2.1, (f3 b hb).1.2.2.2.2.1, (f3 b hb).1.2.2.2.2.2⟩
      have nC : H5 s3.heap.objs.size = none := by
        have z : H5 ce.locals = none := I6.free
        rw [cL] at z
        exact z
      obtain ⟨m, hn, _⟩ := I6.loc
      have hn : s6.heap.Ns ce.locals m := hn
      rw [cL] at hn
      exact hRR D s3.heap.objs.size s6 m H5 I7 qq hn (I3.fpOk (Nat.le_refl _) nC)
    . have ti := T.item (X.blk s3 H3 scope ce fp) rfl rfl rfl hc i [] s5 _ H5 (fun _ _ => False) I5 (stat I5 n5) st5 go
      refine zlM ti fun r s6 ⟨u, hr, h6⟩ => ?_
      subst hr
      refine zlM h6 fun _ s7 ⟨x, H7, I7, r7, y7, st7, n7⟩ => ?_
      have I7' := I7.pinned (stat I7 n7) (T.obj _ _ st7)
      refine zlM (pg _ s7 _ H7 x u _ I7' r7 (step x H7 y7)) fun _ s8 ⟨σ8, H8, I8, hw8, q8⟩ => ?_
      refine zlM (pt _ s8 σ8 H8 _ I8 q8) fun b s9 ⟨H9, I9, q9⟩ => ?_
      have fin : ∀ {s' : Shared} {H' : Hp}, Inv (X.blk s3 H3 scope ce fp) ([] ++ zbg fp s7.heap) σ8 H' s' -> Nx H' -> ∃ m, m < n /\ ∃ i H', Inv (X.blk s3 H3 scope ce fp) [] (xr σ (own.map (·.2))) H' s' /\ tn i s'.heap /\ (∀ b ∈ fp, H' b = none) /\ W i m H' := fun {s' H'} I' nx => by
        obtain ⟨m', hm, w'⟩ := hNx H' nx
        have pin' : ∀ b ∈ fp, ∀ o, s7.heap.get? b = some o -> s'.heap.get? b = some o /\ H' b = none := fun b hb o e =>
          let z := I'.pin (b, o) (List.mem_append_right _ (List.mem_append_right _ (jw hb e)))
          ⟨z.1, z.2.1⟩
        have hl : (xr σ (own.map (·.2))).length = σ8.length := by rw [<- hw8, qR]
        refine ⟨m', hm, i + 1, H', (I'.unpinned (pins := [])).weak hl (fun j v e => ?_), T.keep _ _ _ st7 fun b hb o e => (pin' b hb o e).1, fun b hb => ?_, w'⟩
        . rw [<- hw8] at e
          exact (kP e).1
        . obtain ⟨o, e, _⟩ := T.obj _ _ st7 b hb
          exact (pin' b hb o e).2
      cases b with
      | false =>
        simp only [Bool.false_eq_true, if_false] at q9 ⊢
        exact fin I9 q9
      | true =>
        simp only [if_true] at q9 ⊢
        refine zlM (pe _ s9 σ8 H9 _ I9 q9) fun z s10 ⟨yv, H10, I10, r10, acc, hD10, hz10, nx⟩ => ?_
        exact zmC (X := X.blk s3 H3 scope ce fp) I10 hD10 hz10 r10 fun s11 I11 => fin I11 nx
  exact codeAny_compStart_list loop (T.self X.A 0 _ _ _ st4 loop)
theorem zis {elt tg iter : Expr} {ifs : List Expr} {scope : Scope} {own : List (Str × Nat)} {pos : Pos} {wi : TI} {g : TG} {tt : TT} {te : TE} (hc : X.calm = true) (hN : X.N.Nodup) (hi : PI X tg iter wi) (ok : kO X.N X.env.scope scope own)
    (hg : ∀ (s : Shared) (H : Hp) (C : Addr) (cl : List (Str × Addr)) (fp : List Addr), PG (X.blk s H scope (compEnvC scope cl C X.env) fp) tg g) (ht : ∀ (s : Shared) (H : Hp) (C : Addr) (cl : List (Str × Addr)) (fp : List Addr), PTs (X.blk s H scope (compEnvC scope cl C X.env) fp) ifs tt)
    (he : ∀ (s : Shared) (H : Hp) (C : Addr) (cl : List (Str × Addr)) (fp : List Addr), PE (X.blk s H scope (compEnvC scope cl C X.env) fp) elt te) (hs : ∀ x, foldedSetIterable iter X.env x = pure x := by intro _; rfl) :
    PE X (.ListComp elt [⟨tg, iter, ifs, 0⟩] scope pos) (tLc wi g tt te (own.map (·.2))) := by
  intro pins s σ H Q I h
  rw [eval_ListComp]
  refine zgl hc hN I hi ok hg ht he hs h fun D C s' m H' I' q hn f => ⟨m, hn, fun h'' sb => ?_⟩
  obtain ⟨f0, f1, f2, f3, f4, f5⟩ := f
  exact ⟨.ref D, H', I'.turned (t' := s'.toks) (fun b o hb e => (sb.2 b hb).trans e) f0 f1 f3 f4 f5, rfl, q⟩
theorem zc0 {i : Nat} {y : Str} {py : Pos} {elt tg iter : Expr} {ifs : List Expr} {scope : Scope} {own : List (Str × Nat)} {pos spos : Pos} {wi : TI} {g : TG} {tt : TT} {te : TE} (hc : X.calm = true) (hN : X.N.Nodup) (hy : X.N[i]? = some y) (hyl : X.env.scope.names.lookup y = some .local)
    (hsw : swapsWith (.ListComp elt [⟨tg, iter, ifs, 0⟩] scope pos) (some (.Name y py)) spos.line X.env = pure true) (hi : PI X tg iter wi) (ok : kO X.N X.env.scope scope own)
    (hg : ∀ (s : Shared) (H : Hp) (C : Addr) (cl : List (Str × Addr)) (fp : List Addr), PG (X.blk s H scope (compEnvC scope cl C X.env) fp) tg g) (ht : ∀ (s : Shared) (H : Hp) (C : Addr) (cl : List (Str × Addr)) (fp : List Addr), PTs (X.blk s H scope (compEnvC scope cl C X.env) fp) ifs tt)
    (he : ∀ (s : Shared) (H : Hp) (C : Addr) (cl : List (Str × Addr)) (fp : List Addr), PE (X.blk s H scope (compEnvC scope cl C X.env) fp) elt te) (hs : ∀ x, foldedSetIterable iter X.env x = pure x := by intro _; rfl) :
    PS X (.Assign [.Name y py] (.ListComp elt [⟨tg, iter, ifs, 0⟩] scope pos) spos) (znv (tLc wi g tt te (own.map (·.2))) (zhl i)) := by
  intro pins s σ H D I h
  rw [exec_Assign_Name_used _ _ _ _ hsw]
  refine wpAny_bind (wpAny_standAt (wpAny_bind ?_))
  show wpAny _ X.A (do let _ <- comprehension (.ListComp elt [⟨tg, iter, ifs, 0⟩] scope pos) scope X.env (firstIterPos [⟨tg, iter, ifs, 0⟩] pos) (newList []) false (eval iter X.env) (some (assign (.Name y py) X.env))) _ _ s
  have h : tLc wi g tt te (own.map (·.2)) σ H (fun x H1 => zhl i x σ H1 D.nx) := h
  refine wpAny_bind (thn (zgl (Qf := fun _ s' => SP X pins D .next s') hc hN I hi ok hg ht he hs h fun L C s' m H' I' q hn f => ?_) fun _ s' hq => wpAny_pure (wpAny_pure hq))
  show wpAny _ _ (assign (.Name y py) X.env (.ref L)) _ _ _
  refine wpAny_assign_Name (za6 (v := V.ref L) I' hN hy (.inl hyl) rfl (fun s2 I2 ⟨a, sb, ha⟩ => ?_) (.inr hyl))
  obtain ⟨f0, f1, f2, f3, f4, f5⟩ := f
  have haC : C ≠ a := by
    rcases ha with z | z
    . rw [z]; exact f1
    . exact fun e => f4 y a z e.symm
  refine ⟨m, hn.sameBut sb haC, fun h3 sb3 => ?_⟩
  exact ⟨_, H', I2.turned (t' := s2.toks) (fun b o hb e => (sb3.2 b hb).trans e) f0 f1 f3 f4 f5, q⟩
theorem zeN {elt : Expr} {gs : List Comprehension} {scope : Scope} {pos py : Pos} {y : Str} {l : Nat} {env : Env} (hk : env.scope.kind = .function) (hy : env.scope.names.lookup y = some .local) (hl : (py.line == pos.line) = true)
    (ha : (scope.names.any fun (n, k) => n == y && (k == .local || k == .cell)) = false) : swapsWith (.ListComp elt gs scope pos) (some (.Name y py)) l env = pure true := by
  have ky : env.kindOf y = some .local := hy
  have hb : env.blockKind = .function := by unfold Env.blockKind; rw [hk]; rfl
  unfold swapsWith
  simp only [hb, ky, ha, Expr.pos, hl]
  rfl
end
theorem ziU {lo : Int} {n : Nat} {g : TG} {tt : TT} {te : TE} {vs : List Nat} {σ : St} {H1 : Hp} {D : Addr} {Qd : Hp -> Prop} (Pv : Nat -> Hp -> Prop) (h0 : Pv 0 (upd H1 D (.lst [])))
    (hs : ∀ i H, i < n -> Pv i H -> g (.int (lo + i)) (xr σ vs) H fun σ2 H2 => xr σ2 vs = xr σ vs /\ tt σ2 H2 fun b H3 =>
      if b = true then te σ2 H3 fun y H4 => ∃ acc, H4 D = some (.lst acc) /\ acc.length < sizeLine /\ Pv (i + 1) (upd H4 D (.lst (acc ++ [y]))) else Pv (i + 1) H3) (hd : ∀ H, Pv n H -> Qd H) :
    ∃ W : Nat -> Nat -> Hp -> Prop, (∃ m, W 0 m (upd H1 D (.lst []))) /\ ∀ i m H, W i m H ->
      ((Itr lo n).stop i H /\ Qd H) \/ ((Itr lo n).go i H /\ ∃ Nx : Hp -> Prop, (∀ H', Nx H' -> ∃ m', m' < m /\ W (i + 1) m' H') /\ ∀ x H', (Itr lo n).yld i H x H' -> g x (xr σ vs) H' fun σ2 H2 => xr σ2 vs = xr σ vs /\ tt σ2 H2 fun b H3 =>
        if b = true then te σ2 H3 fun y H4 => ∃ acc, H4 D = some (.lst acc) /\ acc.length < sizeLine /\ Nx (upd H4 D (.lst (acc ++ [y]))) else Nx H3) := by
  refine ⟨fun i m H => m = n - i /\ i <= n /\ Pv i H, ⟨n, by simp, Nat.zero_le _, h0⟩, ?_⟩
  rintro i m H ⟨rfl, hi, p⟩
  by_cases hlt : i < n
  . refine .inr ⟨hlt, Pv (i + 1), fun H' p' => ⟨n - (i + 1), by omega, rfl, hlt, p'⟩, fun x H' y => ?_⟩
    obtain ⟨e, y⟩ := y
    subst e y
    exact hs i _ hlt p
  . have e : i = n := by omega
    subst e
    exact .inl ⟨Nat.le_refl _, hd H p⟩
theorem ze4 {K : PySem.W.Frag} {a : Addr} {xs : List V} {g : TG} {tt : TT} {te : TE} {vs : List Nat} {σ : St} {H1 : Hp} {D : Addr} {Qd : Hp -> Prop} (Pv : Nat -> Hp -> Prop) (h0 : Pv 0 (upd H1 D (.lst []))) (hl : ∀ i H, i <= xs.length -> Pv i H -> SqL K H a xs)
    (hs : ∀ i x H, xs[i]? = some x -> Pv i H -> g x (xr σ vs) H fun σ2 H2 => xr σ2 vs = xr σ vs /\ tt σ2 H2 fun b H3 =>
      if b = true then te σ2 H3 fun y H4 => ∃ acc, H4 D = some (.lst acc) /\ acc.length < sizeLine /\ Pv (i + 1) (upd H4 D (.lst (acc ++ [y]))) else Pv (i + 1) H3) (hd : ∀ H, Pv xs.length H -> Qd H) :
    ∃ W : Nat -> Nat -> Hp -> Prop, (∃ m, W 0 m (upd H1 D (.lst []))) /\ ∀ i m H, W i m H ->
      ((Itl K a).stop i H /\ Qd H) \/ ((Itl K a).go i H /\ ∃ Nx : Hp -> Prop, (∀ H', Nx H' -> ∃ m', m' < m /\ W (i + 1) m' H') /\ ∀ x H', (Itl K a).yld i H x H' -> g x (xr σ vs) H' fun σ2 H2 => xr σ2 vs = xr σ vs /\ tt σ2 H2 fun b H3 =>
        if b = true then te σ2 H3 fun y H4 => ∃ acc, H4 D = some (.lst acc) /\ acc.length < sizeLine /\ Nx (upd H4 D (.lst (acc ++ [y]))) else Nx H3) := by
  refine ⟨fun i m H => m = xs.length - i /\ i <= xs.length /\ Pv i H, ⟨xs.length, by simp, Nat.zero_le _, h0⟩, ?_⟩
  rintro i m H ⟨rfl, hi, p⟩
  have q := hl i H hi p
  by_cases hlt : i < xs.length
  . refine .inr ⟨⟨xs, xs[i], q, by simp [hlt]⟩, Pv (i + 1), fun H' p' => ⟨xs.length - (i + 1), by omega, rfl, hlt, p'⟩, fun x H' y => ?_⟩
    obtain ⟨e, y⟩ := y
    subst e
    exact hs i x _ (y xs q) p
  . have e : i = xs.length := by omega
    subst e
    exact .inl ⟨⟨xs, q, Nat.le_refl _⟩, hd H p⟩
theorem zmY {K : PySem.W.Frag} {a : Addr} {xs : List V} {g : TG} {tt : TT} {te : TE} {vs : List Nat} {σ : St} {H1 : Hp} {D : Addr} {Qd : Hp -> Prop} (Pv : Nat -> Hp -> Prop) (h0 : Pv 0 (upd H1 D (.lst []))) (hl : ∀ i H, i <= xs.length -> Pv i H -> SqT K H a xs)
    (hs : ∀ i x H, xs[i]? = some x -> Pv i H -> g x (xr σ vs) H fun σ2 H2 => xr σ2 vs = xr σ vs /\ tt σ2 H2 fun b H3 =>
      if b = true then te σ2 H3 fun y H4 => ∃ acc, H4 D = some (.lst acc) /\ acc.length < sizeLine /\ Pv (i + 1) (upd H4 D (.lst (acc ++ [y]))) else Pv (i + 1) H3) (hd : ∀ H, Pv xs.length H -> Qd H) :
    ∃ W : Nat -> Nat -> Hp -> Prop, (∃ m, W 0 m (upd H1 D (.lst []))) /\ ∀ i m H, W i m H ->
      ((Itt K a).stop i H /\ Qd H) \/ ((Itt K a).go i H /\ ∃ Nx : Hp -> Prop, (∀ H', Nx H' -> ∃ m', m' < m /\ W (i + 1) m' H') /\ ∀ x H', (Itt K a).yld i H x H' -> g x (xr σ vs) H' fun σ2 H2 => xr σ2 vs = xr σ vs /\ tt σ2 H2 fun b H3 =>
        if b = true then te σ2 H3 fun y H4 => ∃ acc, H4 D = some (.lst acc) /\ acc.length < sizeLine /\ Nx (upd H4 D (.lst (acc ++ [y]))) else Nx H3) := by
  refine ⟨fun i m H => m = xs.length - i /\ i <= xs.length /\ Pv i H, ⟨xs.length, by simp, Nat.zero_le _, h0⟩, ?_⟩
  rintro i m H ⟨rfl, hi, p⟩
  have q := hl i H hi p
  by_cases hlt : i < xs.length
  . refine .inr ⟨⟨xs, xs[i], q, by simp [hlt]⟩, Pv (i + 1), fun H' p' => ⟨xs.length - (i + 1), by omega, rfl, hlt, p'⟩, fun x H' y => ?_⟩
    obtain ⟨e, y⟩ := y
    subst e
    exact hs i x _ (y xs q) p
  . have e : i = xs.length := by omega
    subst e
    exact .inl ⟨⟨xs, q, Nat.le_refl _⟩, hd H p⟩
def znU (N : List Str) (sc scope : Scope) (own : List (Str × Nat)) : Bool :=
  (match scope.kind with | .function => true | _ => false) && (scope.names.all fun y => decide (scope.names.lookup y.1 = some y.2)) && (own.all fun p => decide (N[p.2]? = some p.1)) &&
    (scope.names.all fun y => match y.2 with
      | .free => (match sc.names.lookup y.1 with | some .cell => true | some .free => true | _ => false)
      | .local => decide (y.1 ∈ own.map (·.1)) || decide (y.1 ∉ N)
      | .cell => decide (y.1 ∈ own.map (·.1)) || decide (y.1 ∉ N)
      | _ => true)
theorem qw {N : List Str} {sc scope : Scope} {own : List (Str × Nat)} (h : znU N sc scope own = true) : kO N sc scope own := by
  unfold znU at h
  simp only [Bool.and_eq_true, List.all_eq_true, decide_eq_true_eq] at h
  obtain ⟨⟨⟨h1, h2⟩, h3⟩, h4⟩ := h
  refine ⟨?_, h2, h3, fun y hy e => ?_, fun y hy e => ?_⟩
  . split at h1
    . assumption
    . cases h1
  . have q := h4 y hy
    simp only [e] at q
    split at q <;> first | exact .inl (by assumption) | exact .inr (by assumption) | cases q
  . have q := h4 y hy
    rcases e with e | e <;> (simp only [e, Bool.or_eq_true, decide_eq_true_eq] at q; exact q)
end L2
namespace L2
open PySem PySem.Spec PyProof.Rows
section
variable {prog : Program} {w : World} {A : Around} {R : Result -> Shared -> Prop} {s : Shared} {elt t0 i0 t1 i1 : Expr} {ifs0 ifs1 : List Expr} {scope : Scope} {pos : Pos} {it acc : Value} {env : Env}
end
section
variable {X : Cx}
end
end L2
namespace L2
open PySem PySem.Spec PyProof.Rows
section
variable {κ : Type} [DecidableEq κ]
end
section
variable {P : Program} {w : World} {H : Hp} {h : Heap} {a : Addr}
end
section
variable {X : Cx} {pins : List (Addr × Obj)} {σ : St} {H : Hp} {s : Shared} {a : Addr} {y v : V} {u r : Value} {o : Option V} {A : Around} {E : Value -> Shared -> Prop}
end
section
variable {X : Cx} {pins : List (Addr × Obj)} {σ : St} {H : Hp} {s : Shared} {a : Addr} {kvs : List (Key × V)} {k : Key} {u : Value} {A : Around} {E : Value -> Shared -> Prop}
end
section
variable {X : Cx} {o i e value : Expr} {pos pos' tpos : Pos} {td ty tv : TE}
end
section
variable {X : Cx} {pos : Pos}
end
section
variable {X : Cx} {pins : List (Addr × Obj)} {σ : St} {H : Hp} {s : Shared} {a : Addr} {y d : V} {u r : Value} {o : Option V} {A : Around} {E : Value -> Shared -> Prop}
end
section
variable {X : Cx} {o e f : Expr} {apos cpos : Pos} {td ty tx : TE}
end
section
variable {X : Cx} {pins : List (Addr × Obj)} {σ : St} {H : Hp} {s : Shared} {a : Addr} {kvs : List (Key × V)} {A : Around} {E : Value -> Shared -> Prop}
end
section
variable {X : Cx} {pins : List (Addr × Obj)} {σ : St} {H : Hp} {s : Shared} {a : Addr} {y : V} {u : Value} {A : Around} {E : Value -> Shared -> Prop}
end
end L2
namespace L2
open PySem PySem.Spec PyProof.Rows
section
variable {prog : Program} {w : World} {A : Around} {E : Value -> Shared -> Prop}
end
section
variable {X : Cx}
end
end L2
namespace L2
open PySem PySem.Spec PyProof.Rows
theorem vz : bootBuiltins "reversed" = some (.type "reversed") := by decide +kernel
section
variable {X : Cx} {pins : List (Addr × Obj)} {σ : St} {H : Hp} {s : Shared} {h' : Heap}
theorem Inv.turnedNew {t' : Nat} {ch : List Addr} {T : Addr} {ob : HO} (I : Inv X pins σ H s) (k : ∀ b o, b ∉ ch -> s.heap.get? b = some o -> h'.get? b = some o) (hf : ∀ b ∈ ch, zfA X pins H b) (hT : s.heap.objs.size <= T)
    (new : qo X.prog X.w (upd H T ob) h' T ob) : Inv X pins σ (upd H T ob) { s with heap := h', toks := t' } := by
  have hn : H T = none := I.hok.fresh hT
  have nit : ∀ b u, H b = some u -> b ∉ ch := fun b u e z => by
    have q := (hf b z).1
    rw [q] at e; cases e
  refine I.step (g' := s.gens) (d' := s.drawn) (ch := ch) (fun b hb => ⟨(hf b hb).2.2.2.1, (hf b hb).2.1, (hf b hb).2.2.2.2.1, (hf b hb).2.2.2.2.2⟩) (fun b o _ _ hc e _ => k b o hc e) (fun b o _ _ hc e _ => ⟨o.slots, k b o hc e⟩)
    (fun b o _ e n => ?_) (fun b o hc e => ⟨o, k b o hc e⟩) (fun b xs e => ?_) (fun b o u e => ?_) (fun b ps e => ⟨#[], ?_⟩) (fun m hm => ?_) (fun b u e => ?_) I.bare
  . rw [zk (Nat.ne_of_lt (Nat.lt_of_lt_of_le (Heap.lt_size e) hT))]; exact n
  . rw [zk (zd e hn)]; exact e
  . rw [zk (zd e hn)]; exact e
  . rw [zk (zd e hn), e]; simp
  . obtain ⟨o, es, ep, ho, r⟩ := hm
    exact ⟨o, es, ep, k _ o (fun z => (hf _ z).2.1 rfl) ho, r⟩
  . by_cases hb : b = T
    . subst hb
      rw [zc] at e
      cases e
      exact new
    . rw [zk hb] at e
      refine (I.hok b u e).stay (fun c v hc q => k c v ?_ q) (fun c q => by rw [zk (zd q hn)]; exact q) fun c xs q => by rw [zk (zd q hn)]; exact q
      rcases hc with z | z
      . rw [z]; exact nit b u e
      . exact nit c _ z
end
section
variable {X : Cx}
theorem zdx {tg : Expr} {pins : List (Addr × Obj)} {σ : St} {H : Hp} {s : Shared} {R : It -> Hp -> Prop} {J : It} {tn : Nat -> Heap -> Prop} {tk : Nat} (I : Inv X pins σ H s) (o : Obj)
    (T : zhL X.prog X.w X.K tg J [s.heap.objs.size] s.heap.objs.size tn) (st : tn 0 (s.heap.push o)) (q : R J H) : PIE X pins σ tg R (.ref s.heap.objs.size) { s with heap := s.heap.push o, toks := tk } := by
  refine ⟨s.heap.objs.size, [s.heap.objs.size], tn, J, H, rfl, I.kept fun b ob e => Heap.get?_push_of_some _ e, T, st, fun b hb => ?_, q⟩
  have e : b = s.heap.objs.size := by simpa using hb
  subst e
  exact I.fpOk (Nat.le_refl _) (I.hok.fresh (Nat.le_refl _))
end
def Itc (lo c : Int) (n : Nat) : It := ⟨fun i _ => i < n, fun i H x H' => H' = H /\ x = .int (lo + (i : Nat) * c), fun i _ => n <= i⟩
theorem zbI {P : Program} {w : World} {K : PySem.W.Frag} {tg : Expr} (it : Addr) (lo c : Int) (n : Nat) : zhL P w K tg (Itc lo c n) [it] it (fun i h => IsRangeIter h it (lo + (i : Nat) * c) ((n : Int) - (i : Nat)) c) where
  mem := by simp
  obj := fun i h st b hb => by
    have e : b = it := by simpa using hb
    subst e
    exact ⟨_, st, fun v z => nomatch z⟩
  keep := fun i h h' st k => k it (by simp) _ st
  item := by
    intro X hP hw hK hc i pins s σ H E I hf st hg
    subst hP hw hK
    obtain ⟨f0, f1, f2, f3, f4, f5⟩ := hf it (by simp)
    have W := Walks.range (prog := X.prog) (w := X.w) (I.ok.hd hc) it lo c n
    refine W.item i s _ _ hg st fun v h' tk hv st' kk => ?_
    obtain ⟨t, rfl⟩ := hv
    have I1 : Inv X pins σ H { s with heap := h', toks := tk } := I.turned (fun b o hb e => kk b o (by simpa using hb) e) f0 f1 f3 f4 f5
    exact ⟨_, rfl, zej (s := { s with heap := h', toks := tk }) (n := "range_iterator") st' rfl rfl (by decide) ⟨.int (lo + (i : Nat) * c), H, I1, ⟨t, rfl⟩, ⟨rfl, rfl⟩, st', fun b hb => (hf b hb).1⟩⟩
  done := by
    intro X hP hw hK hc i pins s σ H E I hf st hg
    subst hP hw hK
    obtain ⟨f0, f1, f2, f3, f4, f5⟩ := hf it (by simp)
    exact wpAny_pyNext_range_end (I.ok.hd hc) st (by have : n <= i := hg; omega) fun h' eb => ⟨rfl, I.turned (t' := s.toks) (fun b o hb e => eb b o hb e) f0 f1 f3 f4 f5⟩
  self := fun A i s Q E st h => wpAny_pyIter_rangeiter st h
def RgC (i j c : Int) (n : Nat) : Prop := c ≠ 0 /\ c.natAbs < 1073741824 /\ Builtin.Range.small i j c = true /\ Builtin.Range.rangeSize i j c = n
def znD (ta : TA) : TI := fun σ H R => ta σ H fun vs H1 => ∃ (i j c : Int) (n : Nat), vs = [.int i, .int j, .int c] /\ RgC i j c n /\ R (Itc i c n) H1
section
variable {X : Cx} {tg : Expr}
theorem zfH {a b c : Expr} {ta : TA} {p pos : Pos} (hg : Gl X "range") (hm : X.mg "range" = none) (ha : PA X [a, b, c] ta)
    (hs : starEach [a, b, c] X.env = (false, eval a X.env) :: starEach [b, c] X.env := by rfl) (hpl : (backTo pos (starEach [b, c] X.env)).any (·.1) = false := by rfl) :
    PI X tg (.Call (.Name "range" p) [a, b, c] [] pos) (znD ta) := by
  intro pins s σ H R I h
  refine Call_ (vV I hg hm boot_range (PyProof.Rows.callWith_type1 (thn (ha pos pins s σ H _ I h) fun us s1 ⟨vs, H1, I1, r1, q1⟩ => ?_) hs hpl))
  obtain ⟨i, j, k, n, e, ⟨c0, c1, c2, c3⟩, q⟩ := q1
  subst e
  cases r1 with
  | cons r rr =>
    cases rr with
    | cons r' rr =>
      cases rr with
      | cons r'' rr =>
        cases rr
        obtain ⟨t, rfl⟩ := r
        obtain ⟨t', rfl⟩ := r'
        obtain ⟨t'', rfl⟩ := r''
        refine call_range_3 c0 ?_ (.inl (PyProof.noPylong_small c1))
        refine wpAny_pyIter_range (IsRange.new ..) c2 ?_
        have I2 : Inv X pins σ H1 { s1 with heap := s1.heap.push { cls := .type "range", data := .fields #[.int i t, .int j t', .int k t''] } } := I1.kept (t' := s1.toks) fun b o e => Heap.get?_push_of_some _ e
        refine zdx (tk := s1.toks) I2 _ (zbI _ i k n) ?_ q
        have e1 : i + ((0 : Nat) : Int) * k = i := by simp
        have e2 : (n : Int) - ((0 : Nat) : Int) = Builtin.Range.rangeSize i j k := by rw [c3]; simp
        show IsRangeIter _ _ (i + ((0 : Nat) : Int) * k) ((n : Int) - ((0 : Nat) : Int)) k
        rw [e1, e2]
        exact Heap.get?_push_size _ rfl
end
theorem zd0 {lo c : Int} {n : Nat} {g : TG} {tb : TS} {D : zeB} {σ : St} {H : Hp} (Pv : Nat -> St -> Hp -> Prop) (h0 : Pv 0 σ H)
    (hs : ∀ i σ H, i < n -> Pv i σ H -> g (.int (lo + (i : Nat) * c)) σ H fun σ2 H2 => tb { D with nx := Pv (i + 1), ct := Pv (i + 1), bk := D.nx } σ2 H2) (hd : ∀ σ H, Pv n σ H -> D.nx σ H) :
    ∃ W : Nat -> Nat -> St -> Hp -> Prop, (∃ m, W 0 m σ H) /\ ∀ i m σ H, W i m σ H ->
      ((Itc lo c n).stop i H /\ D.nx σ H) \/ ((Itc lo c n).go i H /\ ∃ N : St -> Hp -> Prop, (∀ σ' H', N σ' H' -> ∃ m', m' < m /\ W (i + 1) m' σ' H') /\ ∀ x H', (Itc lo c n).yld i H x H' -> g x σ H' fun σ2 H2 => tb { D with nx := N, ct := N, bk := D.nx } σ2 H2) := by
  refine ⟨fun i m σ H => m = n - i /\ i <= n /\ Pv i σ H, ⟨n, by simp, Nat.zero_le _, h0⟩, ?_⟩
  rintro i m σ H ⟨rfl, hi, p⟩
  by_cases hlt : i < n
  . refine .inr ⟨hlt, Pv (i + 1), fun σ' H' p' => ⟨n - (i + 1), by omega, rfl, hlt, p'⟩, fun x H' y => ?_⟩
    obtain ⟨e, y⟩ := y
    subst e y
    exact hs i σ _ hlt p
  . have e : i = n := by omega
    subst e
    exact .inl ⟨Nat.le_refl _, hd σ H p⟩
def Itv (K : PySem.W.Frag) (a : Addr) (n : Nat) : It :=
  ⟨fun i H => i < n /\ ∃ (xs : List V) (x : V), SqL K H a xs /\ xs[n - 1 - i]? = some x, fun i H x H' => H' = H /\ ∀ xs, SqL K H a xs -> xs[n - 1 - i]? = some x, fun i _ => n <= i⟩
theorem zi4 {P : Program} {w : World} {K : PySem.W.Frag} {tg : Expr} (a it : Addr) (n : Nat) : zhL P w K tg (Itv K a n) [it] it (fun i h => i <= n /\ h.IsRevIter it a ((n : Int) - 1 - (i : Nat))) where
  mem := by simp
  obj := fun i h st b hb => by
    have e : b = it := by simpa using hb
    subst e
    obtain ⟨_, o, e, c, d⟩ := st
    exact ⟨o, e, fun v z => by rw [d] at z; cases z⟩
  keep := fun i h h' st k => ⟨st.1, st.2.at fun o e => k it (by simp) o e⟩
  item := by
    intro X hP hw hK hc i pins s σ H E I hf st hg
    subst hP hw hK
    obtain ⟨hin, xs, x, hq, hx⟩ := hg
    obtain ⟨its, rv, p, hz⟩ := I.list hq
    obtain ⟨u, hu, ru⟩ := rv.get hx
    obtain ⟨f0, f1, f2, f3, f4, f5⟩ := hf it (by simp)
    obtain ⟨_, hit⟩ := st
    have e1 : (n : Int) - 1 - ((i : Nat) : Int) = ((n - 1 - i : Nat) : Int) := by omega
    rw [e1] at hit
    refine wpAny_pyNext_rev_item hit p.isList (x := u) (by simpa using hu) fun h' st' sb => ?_
    have e2 : ((n - 1 - i : Nat) : Int) - 1 = (n : Int) - 1 - ((i + 1 : Nat) : Int) := by omega
    rw [e2] at st'
    have I1 : Inv X pins σ H { s with heap := h' } := I.turned (t' := s.toks) (fun b o hb e => (sb.2 b hb).trans e) f0 f1 f3 f4 f5
    obtain ⟨o, e, c, d⟩ := id st'
    exact ⟨u, rfl, zej (s := { s with heap := h' }) e c d (by decide) ⟨x, H, I1, ru, ⟨rfl, fun ys hy => by rw [I.list_inj hy hq]; exact hx⟩, ⟨hin, st'⟩, fun b hb => (hf b hb).1⟩⟩
  done := by
    intro X hP hw hK hc i pins s σ H E I hf st hg
    subst hP hw hK
    obtain ⟨f0, f1, f2, f3, f4, f5⟩ := hf it (by simp)
    obtain ⟨hin, hit⟩ := st
    have hge : n <= i := hg
    have e1 : (n : Int) - 1 - ((i : Nat) : Int) = -1 := by omega
    rw [e1] at hit
    exact wpAny_pyNext_rev_end (I.ok.hd hc) hit fun h' eb => ⟨rfl, I.turned (t' := s.toks) (fun b o hb e => eb b o hb e) f0 f1 f3 f4 f5⟩
  self := fun A i s Q E st h => wpAny_pyIter_revIter st.2 h
def zn0 (K : PySem.W.Frag) (ta : TA) : TI := fun σ H R => ta σ H fun vs H1 => ∃ (a : Addr) (xs : List V), vs = [.ref a] /\ SqL K H1 a xs /\ R (Itv K a xs.length) H1
section
variable {X : Cx} {tg : Expr}
theorem zbB {e : Expr} {ta : TA} {p pos : Pos} (hg : Gl X "reversed") (hm : X.mg "reversed" = none) (ha : PA X [e] ta) (hs : starEach [e] X.env = [(false, eval e X.env)] := by rfl) : PI X tg (.Call (.Name "reversed" p) [e] [] pos) (zn0 X.K ta) := by
  intro pins s σ H R I h
  refine Call_ (vV I hg hm vz (PyProof.Rows.callWith_type1 (thn (ha pos pins s σ H _ I h) fun us s1 ⟨vs, H1, I1, r1, q1⟩ => ?_) hs rfl))
  obtain ⟨a, xs, e, hq, q⟩ := q1
  subst e
  cases r1 with
  | cons r rr =>
    cases rr
    cases r
    obtain ⟨its, rv, p', hz⟩ := I1.list hq
    have hl := rv.length
    have e1 : ((its.toArray.size : Nat) : Int) - 1 = (xs.length : Int) - 1 - ((0 : Nat) : Int) := by simp only [List.size_toArray]; omega
    refine call_reversed_list p'.isList (wpAny_pyIter_revIter (l := a) (i := ((its.toArray.size : Nat) : Int) - 1) ⟨_, Heap.get?_push_size _ rfl, rfl, rfl⟩ ?_)
    refine zdx (tk := s1.toks) I1 _ (zi4 a _ xs.length) ⟨Nat.zero_le _, ?_⟩ q
    rw [<- e1]
    exact ⟨_, Heap.get?_push_size _ rfl, rfl, rfl⟩
end
def Its (x : Str) : It := ⟨fun i _ => i < x.cps.size, fun i H v H' => H' = H /\ ∃ c, x.cps[i]? = some c /\ v = .str ⟨#[c]⟩, fun i _ => x.cps.size <= i⟩
theorem zdl {P : Program} {w : World} {K : PySem.W.Frag} {tg : Expr} (it : Addr) (x : Str) (t : Tok) (ty : String) (hty : ty = "str_ascii_iterator" \/ ty = "str_iterator") :
    zhL P w K tg (Its x) [it] it (fun i h => h.IsStrIter it ty x t i) where
  mem := by simp
  obj := fun i h st b hb => by
    have e : b = it := by simpa using hb
    subst e
    obtain ⟨o, e, c, d⟩ := st
    exact ⟨o, e, fun v z => by rw [d] at z; cases z⟩
  keep := fun i h h' st k => let ⟨o, ho, r⟩ := st; ⟨o, k it (by simp) o ho, r⟩
  item := by
    intro X hP hw hK hc i pins s σ H E I hf st hg
    subst hP hw hK
    obtain ⟨f0, f1, f2, f3, f4, f5⟩ := hf it (by simp)
    have W : Walks X.prog X.w X.A it [it] [it] x.cps.size (SignAt x) (fun i h => h.IsStrIter it ty x t i) := by
      rcases hty with e | e
      . rw [e]; exact Walks.strAscii (I.ok.hd hc) it x t
      . rw [e]; exact Walks.strWide (I.ok.hd hc) it x t
    have hno : ["enumerate", "zip", "dict_itemiterator", "dict_reverseitemiterator", "odict_iterator", "itertools.zip_longest", "itertools.pairwise"].contains ty = false := by
      rcases hty with e | e
      . rw [e]; decide
      . rw [e]; decide
    refine W.item i s _ _ hg st fun v h' tk hv st' kk => ?_
    obtain ⟨c, u, hcx, rfl⟩ := hv
    have I1 : Inv X pins σ H { s with heap := h', toks := tk } := I.turned (fun b o hb e => kk b o (by simpa using hb) e) f0 f1 f3 f4 f5
    obtain ⟨oi, e, cc, dd⟩ := id st'
    exact ⟨_, rfl, zej (s := { s with heap := h', toks := tk }) e cc dd hno ⟨.str ⟨#[c]⟩, H, I1, ⟨u, rfl⟩, ⟨rfl, c, hcx, rfl⟩, st', fun b hb => (hf b hb).1⟩⟩
  done := by
    intro X hP hw hK hc i pins s σ H E I hf st hg
    subst hP hw hK
    obtain ⟨f0, f1, f2, f3, f4, f5⟩ := hf it (by simp)
    have hx : x.cps[i]? = none := Array.getElem?_eq_none hg
    rcases hty with e | e
    . rw [e] at st
      exact wpAny_pyNext_ascii_end (I.ok.hd hc) st hx fun h' eb => ⟨rfl, I.turned (t' := s.toks) (fun b o hb e => eb b o hb e) f0 f1 f3 f4 f5⟩
    . rw [e] at st
      exact wpAny_pyNext_wide_end (I.ok.hd hc) st hx fun h' eb => ⟨rfl, I.turned (t' := s.toks) (fun b o hb e => eb b o hb e) f0 f1 f3 f4 f5⟩
  self := fun A i s Q E st h => by
    rcases hty with e | e
    . rw [e] at st; exact wpAny_pyIter_striter_ascii st h
    . rw [e] at st; exact wpAny_pyIter_striter_wide st h
def zof (te : TE) : TI := fun σ H R => te σ H fun v H1 => ∃ x, v = .str x /\ R (Its x) H1
theorem zmX {X : Cx} {tg e : Expr} {te : TE} (he : PE X e te) : PI X tg e (zof te) := by
  intro pins s σ H R I h
  refine thn (he pins s σ H _ I h) fun v s1 ⟨y, H1, I1, r1, x, ex, q⟩ => ?_
  subst ex
  obtain ⟨t, rfl⟩ := r1
  cases ha : x.cps.all (· < 128)
  . exact wpAny_pyIter_wide ha (zdx (tk := s1.toks) I1 _ (zdl _ x t "str_iterator" (.inr rfl)) ⟨_, Heap.get?_push_size _ rfl, rfl, rfl⟩ q)
  . exact wpAny_pyIter_ascii ha (zdx (tk := s1.toks) I1 _ (zdl _ x t "str_ascii_iterator" (.inl rfl)) ⟨_, Heap.get?_push_size _ rfl, rfl, rfl⟩ q)
section
variable {prog : Program} {w : World} {A : Around} {E : Value -> Shared -> Prop} {s : Shared}
end
section
variable {X : Cx} {pins : List (Addr × Obj)} {σ : St} {H : Hp} {s : Shared} {d : Addr} {o : Obj}
end
section
variable {P : Program} {w : World} {K : PySem.W.Frag} {tg : Expr} {d : Addr} {o : Obj} {es : Array DictEntry} {ep : Nat}
end
section
variable {X : Cx} {tg e : Expr} {td : TE} {apos cpos : Pos}
end
def Ite (K : PySem.W.Frag) (a : Addr) : It :=
  ⟨fun i H => ∃ (xs : List V) (x : V), SqL K H a xs /\ xs[i]? = some x, fun i H v H' => ∃ T x, v = .ref T /\ H T = none /\ H' = upd H T (.tup [.int (i : Nat), x]) /\ ∀ xs, SqL K H a xs -> xs[i]? = some x, fun i H => ∃ xs : List V, SqL K H a xs /\ xs.length <= i⟩
theorem zfG {P : Program} {w : World} {K : PySem.W.Frag} {elts : List Expr} {kk : Nat} {tpos : Pos} (a e it : Addr) :
    zhL P w K (.Tuple elts kk tpos) (Ite K a) [e, it] e (fun i h => (∃ old, IsEnum h e it ((i : Nat) : Int) old) /\ h.IsListIter it a i /\ e ≠ it) where
  mem := by simp
  obj := fun i h st b hb => by
    obtain ⟨⟨old, he⟩, ⟨o, ho, hc, hd⟩, _⟩ := st
    have e' : b = e \/ b = it := by simpa using hb
    rcases e' with z | z
    . rw [z]; exact ⟨_, he, fun v q => nomatch q⟩
    . rw [z]; exact ⟨o, ho, fun v q => by rw [hd] at q; cases q⟩
  keep := fun i h h' st k => let ⟨⟨old, he⟩, hi, hne⟩ := st; ⟨⟨old, k e (by simp) _ he⟩, hi.at fun o q => k it (by simp) o q, hne⟩
  item := by
    intro X hP hw hK hc i pins s σ H E I hf st hg
    subst hP hw hK
    obtain ⟨⟨old, he⟩, hit, hne⟩ := st
    obtain ⟨xs, x, hq, hx⟩ := hg
    obtain ⟨its, rv, p, hz⟩ := I.list hq
    obtain ⟨u, hu, ru⟩ := rv.get hx
    have hel : e < s.heap.objs.size := Heap.lt_size he
    have hil : it < s.heap.objs.size := by obtain ⟨_, q, _⟩ := hit; exact Heap.lt_size q
    refine wpAny_pyNext_enum_item he hit p.isList (x := u) (by simpa using hu) hne fun h' ho hit' hT hsz hk => ?_
    refine ⟨_, rfl, wpAny_letOwnedTupleGo_enum (s := { s with heap := h', toks := s.toks + 1 }) ho fun h'' he' sb => ?_⟩
    have hT2 : h''.get? s.heap.objs.size = some { cls := .type "tuple", data := .seq #[.int i s.toks, u] } := (sb.2 _ (Nat.ne_of_gt hel)).trans hT
    have new : qo X.prog X.w (upd H s.heap.objs.size (.tup [.int (i : Nat), x])) h'' s.heap.objs.size (.tup [.int (i : Nat), x]) :=
      ⟨by show 2 <= sizeLine; decide, [.int i s.toks, u], .cons ⟨_, rfl⟩ (.cons ru .nil), ⟨_, hT2, rfl, _, rfl⟩⟩
    have I1 : Inv X pins σ (upd H s.heap.objs.size (.tup [.int (i : Nat), x])) { s with heap := h'', toks := s.toks + 1 } :=
      I.turnedNew (ch := [e, it]) (fun b ob hb q => (sb.2 b (fun z => hb (by simp [z]))).trans (hk b ob (fun z => hb (by simp [z])) (fun z => hb (by simp [z])) q)) hf (Nat.le_refl _) new
    refine ⟨.ref s.heap.objs.size, _, I1, rfl, ⟨_, x, rfl, I.hok.fresh (Nat.le_refl _), rfl, fun ys hy => by rw [I.list_inj hy hq]; exact hx⟩, ⟨⟨u, ?_⟩, hit'.at fun o q => (sb.2 it (Ne.symm hne)).trans q, hne⟩, fun b hb => ?_⟩
    . have e1 : ((i + 1 : Nat) : Int) = (i : Int) + 1 := by omega
      rw [e1]; exact he'
    . have hb' : b < s.heap.objs.size := by
        have e' : b = e \/ b = it := by simpa using hb
        rcases e' with z | z
        . rw [z]; exact hel
        . rw [z]; exact hil
      rw [zk (Nat.ne_of_lt hb')]
      exact (hf b hb).1
  done := by
    intro X hP hw hK hc i pins s σ H E I hf st hg
    subst hP hw hK
    obtain ⟨⟨old, he⟩, hit, hne⟩ := st
    obtain ⟨xs, hq, hx⟩ := hg
    obtain ⟨its, rv, p, hz⟩ := I.list hq
    obtain ⟨f0, f1, f2, f3, f4, f5⟩ := hf it (by simp)
    have hl := rv.length
    exact wpAny_pyNext_enum_end (I.ok.hd hc) he hit p.isList (by simp; omega) fun h' eb => ⟨rfl, I.turned (t' := s.toks) (fun b o hb q => eb b o hb q) f0 f1 f3 f4 f5⟩
  self := fun A i s Q E st h => let ⟨⟨_, he⟩, _⟩ := st; wpAny_pyIter_enum he h
def znu (K : PySem.W.Frag) (ta : TA) : TI := fun σ H R => ta σ H fun vs H1 => ∃ a xs, vs = [.ref a] /\ SqL K H1 a xs /\ R (Ite K a) H1
theorem zfl {X : Cx} {e : Expr} {ta : TA} {p pos tpos : Pos} {elts : List Expr} {kk : Nat} (hg : Gl X "enumerate") (hm : X.mg "enumerate" = none) (ha : PA X [e] ta) (hs : starEach [e] X.env = [(false, eval e X.env)] := by rfl) :
    PI X (.Tuple elts kk tpos) (.Call (.Name "enumerate" p) [e] [] pos) (znu X.K ta) := by
  intro pins s σ H R I h
  refine Call_ (vV I hg hm boot_enumerate (PyProof.Rows.callWith_type1 (thn (ha pos pins s σ H _ I h) fun us s1 ⟨vs, H1, I1, r1, q1⟩ => ?_) hs rfl))
  obtain ⟨a, xs, ex, hq, q⟩ := q1
  subst ex
  cases r1 with
  | cons r rr =>
    cases rr
    cases r
    obtain ⟨its, rv, p', hz⟩ := I1.list hq
    refine call_enumerate_list p'.isList fun h' he hit hsz hk => wpAny_pyIter_enum he ?_
    have I2 : Inv X pins σ H1 { s1 with heap := h' } := I1.kept (t' := s1.toks) hk
    refine ⟨s1.heap.objs.size + 1, [s1.heap.objs.size + 1, s1.heap.objs.size], _, _, H1, rfl, I2, zfG a (s1.heap.objs.size + 1) s1.heap.objs.size, ⟨⟨.none, he⟩, hit, Nat.succ_ne_self _⟩, fun b hb => ?_, q⟩
    have e' : b = s1.heap.objs.size + 1 \/ b = s1.heap.objs.size := by simpa using hb
    have hle : s1.heap.objs.size <= b := by
      rcases e' with z | z
      . rw [z]; exact Nat.le_add_right _ _
      . rw [z]; exact Nat.le_refl _
    exact I1.fpOk hle (I1.hok.fresh hle)
end L2
section
namespace Bits
open PySem PyProof.Rows
end Bits
end
section
namespace TL
open PySem PySem.Builtin PySem.Builtin.Str PySem.StrLaws
end TL
end
namespace L2
open PySem PySem.Spec PyProof.Rows
section
variable {X : Cx} {pins : List (Addr × Obj)} {σ : St} {H : Hp} {s : Shared} {Q : VK}
end
section
variable {X : Cx}
end
section
variable {X : Cx} {o e : Expr} {to te : TE}
end
end L2
namespace L2
open PySem PySem.Spec PyProof.Rows
section
variable {X : Cx}
end
end L2
namespace Att
open PySem PySem.W PySem.Calls PyProof.Rows
section
variable {prog : Program} {w : World} {A : Around} {E : Value -> Shared -> Prop} {s : Shared} {K : Frag}
end
end Att
namespace L2
open PySem PySem.Spec PyProof.Rows
end L2
namespace L2
open PySem PySem.Spec PyProof.Rows
end L2
namespace L2
open PySem PySem.Spec PyProof.Rows
def zU (s : Stmt) (j : Nat) : Stmt := match s with
  | .ClassDef _ _ _ body _ _ _ _ _ _ _ => body.getD j (.Pass ⟨0, 0, 0, 0⟩)
  | _ => .Pass ⟨0, 0, 0, 0⟩
def xS (s : Stmt) : Arguments := match s with
  | .FunctionDef _ a _ _ _ _ _ _ _ _ => a
  | _ => { posonlyargs := [], args := [], vararg := none, kwonlyargs := [], kw_defaults := [], kwarg := none, defaults := [] }
def xt (s : Stmt) : List Stmt := match s with
  | .FunctionDef _ _ b _ _ _ _ _ _ _ => b
  | _ => []
def zi (s : Stmt) : Scope := match s with
  | .FunctionDef _ _ _ _ _ _ sc _ _ _ => sc
  | _ => { kind := .function, names := [], isGenerator := false, isCoroutine := false }
structure Fun (K : PySem.W.Frag) (x qual : Str) (st : Stmt) (f : Addr) (fd : FuncData) : Prop where
  ex : ∃ (oc : Value) (od : Option Addr) (kV doc pm : Value) (an : Option Addr) (cdv ct : Value) (osl : Array (Option Value)),
    fd = PySem.W.fnOf x qual (xS st) (xt st) (zi st) .none kV doc pm an cdv ct /\ K.lookup f = some ⟨oc, od, .func fd, osl⟩ /\ PySem.W.codeIn K cdv qual = true
  kp : PySem.W.keepIn K (.ref f) = true
section
variable {P : Program} {w : World} {K : PySem.W.Frag} {mg : Str -> Option Value} {base : Heap}
theorem Fun.binds {x qual : Str} {st : Stmt} {f : Addr} {fd : FuncData} {ps : List Str} (F : Fun K x qual st f fd)
    (h : ∀ (kV doc pm : Value) (an : Option Addr) (cdv ct : Value) (us : List Value), us.length = ps.length -> bindArgs (PySem.W.fnOf x qual (xS st) (xt st) (zi st) .none kV doc pm an cdv ct) ⟨us, []⟩ = pure (ps.zip us)) : qL K fd ps [] := by
  obtain ⟨oc, od, kV, doc, pm, an, cdv, ct, osl, rfl, lk, hcd⟩ := F.ex
  exact .all (h kV doc pm an cdv ct)
end
section
variable {X : Cx}
theorem pv (i : Nat) {x : Str} {pos : Pos} (hN : X.N[i]? = some x := by rfl) (hv : Vis X.env.scope x := by first | exact Or.inl rfl | exact Or.inr (Or.inl rfl) | exact Or.inr (Or.inr rfl)) (hd : (x == ("__debug__" : Str)) = false := by decide)
    (hcd : (x == ("__classdict__" : Str)) = false := by decide) : PE X (.Name x pos) (zlL i) := zmG hN hv hd hcd
end
theorem zlP {A B : Prop} (h : B) : if false = true then A else B := by
  rw [if_neg Bool.false_ne_true]
  exact h
theorem zdB {A B : Prop} (h : A) : if true = true then A else B := by
  rw [if_pos rfl]
  exact h
theorem yG {c A B : Prop} [Decidable c] (h1 : c -> A) (h2 : ¬ c -> B) : if c then A else B := by
  by_cases h : c
  . rw [if_pos h]
    exact h1 h
  . rw [if_neg h]
    exact h2 h
def zN (H H' : Hp) : Prop := ∀ b o, H b = some o -> H' b = some o
theorem zN.refl (H : Hp) : zN H H := fun _ _ h => h
theorem zN.trans {H H1 H2 : Hp} (a : zN H H1) (b : zN H1 H2) : zN H H2 := fun c o h => b c o (a c o h)
theorem zN.free {H H' : Hp} (e : zN H H') {l : Addr} (h : H' l = Option.none) : H l = Option.none := by
  cases q : H l with
  | none => rfl
  | some o =>
    rw [e l o q] at h
    cases h
theorem zN.seq {K : PySem.W.Frag} {H H' : Hp} {a : Addr} {xs : List V} (e : zN H H') (h : SqL K H a xs) : SqL K H' a xs := by
  rcases h with (h | ⟨o, h⟩) | h
  . exact .inl (.inl (e _ _ h))
  . exact .inl (.inr ⟨o, e _ _ h⟩)
  . exact .inr h
section
variable {κ : Type} [DecidableEq κ]
end
theorem yB {xs : List V} {z : Int} {j : Nat} {v : V} (e : z = (j : Int)) (h : xs[j]? = some v) : atI xs z = some v := by
  rw [e]
  exact zjT h
theorem zN.made {H H1 : Hp} {x dx C : Addr} (nx : H x = Option.none) (nd : H dx = Option.none) (k : ∀ b o, (upd (upd H dx (.own x)) x (.ins C dx [])) b = some o -> b ≠ x -> H1 b = some o) : zN H H1 := fun b o e =>
  k b o (by rw [zk (zd e nx), zk (zd e nd)]; exact e) (zd e nx)
end L2
end
section
namespace L2
open PySem PySem.Spec PyProof.Rows
def CXe (P : Program) (w : World) : CXT := fun outer H s E e s' => ∃ (ea C : Addr) (a0 : Value) (B : Heap) (H' : Hp),
  e = .ref ea /\ E (.ref C) none H' /\ s'.os = s.os /\ AllBare s'.gens /\ Un (frs outer) [] H H' s.heap s'.heap /\ HOk P w H' B /\
  Heap.FlyingW B outer ea (.ref C) a0 s'.heap /\ (∀ b o, s.heap.get? b = some o -> H b = none -> b ∉ frs outer -> B.get? b = some o) /\
  (∀ b o, s.heap.get? b = some o -> b ∉ frs outer -> ∃ o', B.get? b = some o')
structure Lv (X : Cx) (E : XK) : Prop where
  xe : X.xe = fun e s' => wpAny (model X.prog X.w) X.A (leaving X.env e) (fun _ s'' => CXe X.prog X.w X.outer X.H_0 X.s_0 E e s'') (fun e' s'' => CXe X.prog X.w X.outer X.H_0 X.s_0 E e' s'') s'
  stk : X.stack = X.env :: X.outer
  fr : X.env.frame = some X.env.locals
  ex : X.ex = []
  calm : X.calm = true
theorem Lv.of {P : Program} {w : World} {K : PySem.W.Frag} {mg : Str -> Option Value} {base : Heap} {N : List Str} {qual : Str} {scope : Scope} {f : Addr} {cd : Value} {A : Around} {outer : List Env} {s : Shared} {H : Hp} {E : XK} :
    Lv (zkt (CXe P w) P w K mg base N qual scope f cd A outer s H E) E := ⟨rfl, rfl, rfl, rfl, rfl⟩
section
variable {X : Cx} {E : XK} {pins : List (Addr × Obj)} {σ : St} {H : Hp} {s : Shared}
theorem Inv.nost (I : Inv X pins σ H s) {b : Addr} {o : Obj} (e : X.s_0.heap.get? b = some o) (hb : b ∉ X.fs) : b ∉ frs X.stack := fun z => by
  rcases List.mem_cons.mp (I.stkSub b z) with q | q
  . have h1 := Nat.lt_of_lt_of_le (Heap.lt_size e) I.ok.above
    rw [q] at h1
    exact Nat.lt_irrefl _ h1
  . exact hb q
theorem Inv.flown (I : Inv X pins σ H s) (hx : X.ex = []) {H' : Hp} {B h1 h2 : Heap} (un : Un (frs X.stack) [] H H' s.heap h1)
    (hB : ∀ b o, s.heap.get? b = some o -> H b = none -> b ∉ frs X.stack -> B.get? b = some o) (hT : ∀ b o, s.heap.get? b = some o -> b ∉ frs X.stack -> ∃ o', B.get? b = some o')
    (st : B.StaysIn h2) (us : h1.UpToSlots h2) : Un X.fs [] X.H_0 H' X.s_0.heap h2 := by
  have noex : ∀ b : Addr, b ∉ X.ex := fun b z => by rw [hx] at z; cases z
  have slot : ∀ b o, X.s_0.heap.get? b = some o -> X.H_0 b = none -> b ∈ X.fs -> ∃ sl, h2.get? b = some { o with slots := sl } := fun b o e n hb => by
    obtain ⟨sl, e1⟩ := I.base.slot b o e n hb (noex b)
    obtain ⟨sl2, e2⟩ := un.any e1 (I.base.free b o e n (noex b)) (by simp)
    obtain ⟨_, o', ho', hnf⟩ := I.ok.funs.mem hb
    rw [e] at ho'
    cases ho'
    obtain ⟨sl3, e3⟩ := us b _ e2 hnf
    exact ⟨sl3, e3⟩
  refine ⟨fun b o e n hb _ => ?_, fun b o e n hb _ => slot b o e n hb, fun b o e n _ => ?_, fun b o e _ => ?_, fun b xs e => un.tups b xs (I.base.tups b xs e), fun b o u e => un.frzs b o u (I.base.frzs b o u e), fun b ps e => ?_⟩
  . exact st b o (hB b o (I.base.keep b o e n hb (noex b)) (I.base.free b o e n (noex b)) (I.nost e hb))
  . obtain ⟨o1, e1⟩ := I.base.there b o e (noex b)
    exact un.free b o1 e1 (I.base.free b o e n (noex b)) (by simp)
  . by_cases hb : b ∈ X.fs
    . obtain ⟨sl, q⟩ := slot b o e (I.ok.frf b hb) hb
      exact ⟨_, q⟩
    . obtain ⟨o1, e1⟩ := I.base.there b o e (noex b)
      obtain ⟨o2, e2⟩ := hT b o1 e1 (I.nost e hb)
      exact ⟨o2, st b o2 e2⟩
  . obtain ⟨m1, e1⟩ := I.base.tbls b ps e
    obtain ⟨m2, e2⟩ := un.tbls b _ e1
    exact ⟨m1 ++ m2, by rw [e2, Array.append_assoc]⟩
theorem Lv.raised (L : Lv X E) (I : Inv X pins σ H s) {C e : Addr} {h' : Heap} {vs : List Value} (hE : E (.ref C) none H) (hm : Heap.MadeExcOf s.heap h' e (.ref C) vs) : X.xe (.ref e) { s with heap := h' } := by
  rw [L.xe]
  have hfr : X.A.frames = some (X.env :: X.outer) := by rw [<- L.stk]; exact I.ok.frames
  have hin : ∀ env ∈ X.stack, ∀ a, env.frame = some a -> a ∈ frs X.stack := fun env he a ha => List.mem_filterMap.mpr ⟨env, he, ha⟩
  have ff := PySem.W.funFrames_hide I.stack hin
  rw [L.stk] at ff
  refine wpAny_leaves_madeW (base := PySem.W.hideAll s.heap (frs (X.env :: X.outer))) (h := s.heap) hfr L.fr (fun b o q => PySem.W.of_hideAll _ q) ff hm fun h2 t f1 _ _ us => ?_
  rw [<- L.stk] at f1
  have hB : ∀ b o, s.heap.get? b = some o -> b ∉ frs X.stack -> (PySem.W.hideAll s.heap (frs X.stack)).get? b = some o := fun b o e hb => PySem.W.hideAll_get _ e hb
  have un : Un (frs X.stack) [] H H s.heap h' := Un.kept fun b u q => hm.keeps b u q
  have noex : ∀ b : Addr, b ∉ X.ex := fun b z => by rw [L.ex] at z; cases z
  refine ⟨e, C, .ref t, _, H, rfl, hE, I.os, I.bare, I.flown L.ex un (fun b o q _ hb => hB b o q hb) (fun b o q hb => ⟨o, hB b o q hb⟩) f1.1 us, fun a o q => ?_, f1, fun b o q n hb => ?_, fun b o q hb => ?_⟩
  . refine (I.hok a o q).stay (fun b u hb r => hB b u r fun z => ?_) (fun _ r => r) (fun _ _ r => r)
    have n := I.stkFree b z
    rcases hb with rfl | hb
    . rw [q] at n; cases n
    . rw [hb] at n; cases n
  . exact hB b o (I.base.keep b o q n hb (noex b)) (I.nost q hb)
  . obtain ⟨o1, e1⟩ := I.base.there b o q (noex b)
    exact ⟨o1, hB b o1 e1 (I.nost q hb)⟩
theorem Lv.pass (L : Lv X E) : qF (CXe X.prog X.w) X E := by
  intro pins σ H s e s' I h
  obtain ⟨ea, C, a0, B, H', rfl, hE, os, bare, un, hok, fl, hB, hT⟩ := h
  rw [L.xe]
  have hfr : X.A.frames = some (X.env :: X.outer) := by rw [<- L.stk]; exact I.ok.frames
  have noex : ∀ b : Addr, b ∉ X.ex := fun b z => by rw [L.ex] at z; cases z
  have fl' := fl
  rw [L.stk] at fl'
  refine wpAny_leaves_onW hfr L.fr fl' fun h2 fl2 us => ?_
  refine ⟨ea, C, a0, B, H', rfl, hE, os.trans I.os, bare, I.flown L.ex un hB hT fl2.1 us, hok, fl2, fun b o q n hb => ?_, fun b o q hb => ?_⟩
  . exact hB b o (I.base.keep b o q n hb (noex b)) (I.base.free b o q n (noex b)) (I.nost q hb)
  . obtain ⟨o1, e1⟩ := I.base.there b o q (noex b)
    exact hT b o1 e1 (I.nost q hb)
theorem Lv.own (L : Lv X E) : PassesOwn (model X.prog X.w) X.A X.env X.xe := by
  rw [L.xe]
  exact PassesOwn.leaving
end
abbrev zfK : List Value := [.type "Exception", .type "BaseException", .type "object"]
theorem zmw {K : PySem.W.Frag} {h : Heap} {C : Addr} {newId : String} (X : K.In h) (q : PySem.W.excIn K C zfK newId = true) :
    ∃ bm N nm qn bs hdct sn sub ab col dd k0 k1 k2 k3 k5 mN, h.get? C = some (excClassObj nm qn C N bs bm hdct sn sub ab col dd k0 k1 k2 k3 k5 newId) /\ h.Ns N mN /\ mN "__init__" = none /\ OwnTail h zfK bm := by
  unfold PySem.W.excIn at q
  split at q
  case h_2 => cases q
  case h_1 dd cd sl ho =>
    split at q
    case h_2 => cases q
    case h_1 C' bm k0 k1 k2 k3 n k5 hm hs =>
      simp only [Bool.and_eq_true, beq_iff_eq, Bool.not_eq_true'] at q
      obtain ⟨⟨⟨⟨⟨e1, e2⟩, hdel⟩, ht⟩, hok⟩, hni⟩ := q
      subst e1
      subst e2
      have ho' := X _ _ ho
      cases cd with
      | mk nm bs mro ns qn hd sn sub ab col del =>
        cases hm
        cases hdel
        have hsl : sl = #[k0, k1, k2, k3, some (.builtin n), k5] := by
          cases sl
          exact congrArg _ hs
        rw [hsl] at ho'
        exact ⟨bm, ns, nm, qn, bs, hd, sn, sub, ab, col, dd, k0, k1, k2, k3, k5, _, ho', .of_isNs (PySem.W.isNs_of_in X hok), PySem.W.nsMap_none_of_in X hok hni, PySem.W.tail_of_in X ht⟩
def zi8 (C : Addr) (E : XK) : TS := fun _ _ H => E (.ref C) none H
theorem z7 {X : Cx} {E : XK} {x : Str} {C : Addr} {np cpos pos : Pos} (L : Lv X E) (hg : Gl X x) (hm : X.mg x = some (.ref C)) (hx : PySem.W.excIn X.K C zfK "Exception.__new__" = true) (hd : (x == ("__debug__" : Str)) = false := by decide) :
    PS X (.Raise (some (.Call (.Name x np) [] [] cpos)) none pos) (zi8 C E) := by
  intro pins s σ H D I h
  obtain ⟨tl, N, nm, qn, bs, hdct, sn, sub, ab, col, dd, k0, k1, k2, k3, k5, mN, hC, hN, hni, T⟩ := zmw I.kIn hx
  refine wpAny_Raise_call_subT (C := C) (nm := nm) (q := qn) (N := N) (bs := bs) (bm := tl) (hdct := hdct) (sn := sn) (sub := sub) (ab := ab) (col := col) (dd := dd) (k0 := k0) (k1 := k1) (k2 := k2) (k3 := k3) (k5 := k5)
    PySem.F.excBase_Exception (mN := mN) (T.hasType PySem.F.excBase_Exception.hasBase) (I.ok.hd L.calm) rfl hni (yL I hg hm ⟨rfl, ?_⟩ hd)
  exact evalArgs_empty ⟨rfl, Nat.zero_le _, hC, hN, T, fun h' e hm' => L.raised I h hm'⟩
section
variable {P : Program} {w : World} {K : PySem.W.Frag} {mg : Str -> Option Value} {base : Heap}
theorem Fun.okE {x qual : Str} {st : Stmt} {f : Addr} {fd : FuncData} {N ps : List Str} {k : Nat} {sp : Sp} (F : Fun K x qual st f fd) (S : zn N ps (zi st)) (len : ∀ vs H Q E, sp vs H Q E -> vs.length = ps.length)
    (hbody : ∀ (cdv : Value) (A : Around) (outer : List Env) (s : Shared) (H : Hp) (vs : List V) (Q : VK) (E : XK), yC k (A.deeper (envOfC qual (zi st) s.heap.objs.size f cdv)) -> sp vs H Q E ->
      ∃ t, PSs (zkt (CXe P w) P w K mg base N qual (zi st) f cdv A outer s H E) (xt st) t /\ t { nx := fun _ H' => Q .non H', rt := Q } (zaX N vs) H) : z0 P w K mg base (CXe P w) (k + 1) f fd ps sp := by
  obtain ⟨oc, od, kV, doc, pm, an, cdv, ct, osl, rfl, lk, hcd⟩ := F.ex
  exact znC lk hcd S len fun A outer s H vs Q E hr hsp => hbody cdv A outer s H vs Q E hr hsp
end
end L2
end
section
namespace L2
open PySem PySem.Spec PyProof.Rows
section
variable {X : Cx}
theorem vQ {pins : List (Addr × Obj)} {σ : St} {H : Hp} {s : Shared} {a : Addr} {ns : List Int} (I : Inv X pins σ H s) (hq : SqL X.K H a (ns.map V.int)) :
    ∃ xs : Array (Int × Tok), s.heap.IsList a (intItems xs) /\ ns = xs.toList.map (·.1) := by
  obtain ⟨its, r, p, hz⟩ := I.list hq
  have hi : IntsAre its ns := yx.ints r
  obtain ⟨xs, e⟩ := hi.allInts.items
  refine ⟨xs, ?_, ?_⟩
  . rw [<- e]; exact p.isList
  . rw [<- hi.numsOf, <- nums_intItems, <- e]
theorem zgb (hc : X.calm = true) : vG X (.builtin "sum") (fun xs H Q => ∃ (a : Addr) (ns : List Int), xs = [.ref a] /\ SqL X.K H a (ns.map V.int) /\ Q (.int ns.sum) H) := by
  intro pins s σ H xs us Q I r h
  obtain ⟨a, ns, rfl, hq, q⟩ := h
  obtain ⟨u, rfl, ru⟩ := zdQ r
  cases ru
  obtain ⟨ys, hl, hn⟩ := vQ I hq
  refine sum_intListG (I.ok.hd hc) hl fun h' tk t' hk => ⟨.int ns.sum, H, I.kept (t' := tk) hk, ⟨t', ?_⟩, q⟩
  rw [preSum_eq, List.take_of_length_le (by simp), <- hn]
theorem zbl (hc : X.calm = true) : vG X (.builtin "max") (fun xs H Q => ∃ (a : Addr) (ns : List Int), xs = [.ref a] /\ SqL X.K H a (ns.map V.int) /\ 0 < ns.length /\ ∀ M, M ∈ ns -> (∀ x ∈ ns, x <= M) -> Q (.int M) H) := by
  intro pins s σ H xs us Q I r h
  obtain ⟨a, ns, rfl, hq, hne, q⟩ := h
  obtain ⟨u, rfl, ru⟩ := zdQ r
  cases ru
  obtain ⟨ys, hl, hn⟩ := vQ I hq
  have hsz : 0 < ys.size := by rw [hn, List.length_map, Array.length_toList] at hne; exact hne
  refine max_intList (I.ok.hd hc) hl hsz fun v h' tk hv hk => ?_
  obtain ⟨t, rfl⟩ := intItems_at hv
  obtain ⟨h1, h2⟩ := argBest_gt (numAt ys) (ys.size - 1)
  refine ⟨.int _, H, I.kept (t' := tk) hk, ⟨t, rfl⟩, q _ ?_ fun x hx => ?_⟩
  . rw [hn, numAt_eq]
    exact PySem.getD_mem (by rw [List.length_map, Array.length_toList]; omega)
  . rw [hn] at hx
    obtain ⟨j, hj, rfl⟩ := PySem.mem_getD hx
    rw [List.length_map, Array.length_toList] at hj
    rw [<- numAt_eq]
    exact h2 j (by omega)
end
section
variable {prog : Program} {w : World} {A : Around} {E : Value -> Shared -> Prop} {s : Shared}
theorem jH {t sl : Addr} {items : Array Value} {vl vu : Value} {lo hi : Option Int} {Q : Value -> Shared -> Prop} (ht : IsTup s.heap t items) (hs : s.heap.IsSliceOf sl vl vu .none) (pl : IsPart vl lo) (pu : IsPart vu hi)
    (hw : HT.sIx items.size 0 lo = 0 /\ HT.sIx items.size items.size hi = items.size) (h : Q (.ref t) s) : wpAny (model prog w) A (getItem (.ref t) (.ref sl)) Q E s := by
  obtain ⟨os, hos, hcs, hds⟩ := id hs
  have hTs : s.TypeIs (.ref sl) "slice" := ⟨os, hos, hcs⟩
  unfold getItem
  try with_reducible refine wpAny_holding ?_
  first | refine wpAny_bind (wpAny_pure ?_) | skip
  refine wpAny_bind (wpAny_sequenceKey ht.typeIs (by decide) ?_)
  refine wpAny_bind (wpAny_callSpecial?_slot (name := Str.ofString "__getitem__") ht.typeIs PyProof.Rows.slot_tuple_getitem
    (wpAny_call_entry PyProof.Rows.slot_tuple_getitem ht.typeIs entry_tuple_getitem ?_ (args_tuple_getitem _ _)))
  show wpAny _ _ (Builtin.Tuple.tupleItemsOf (.ref t) >>= _) _ _ s
  refine wpAny_bind (tupleItemsOf_ ht ?_)
  refine wpAny_bind (wpAny_typeOf hTs ?_)
  rw [if_pos (by decide)]
  refine wpAny_bind (HT.sliceApplied_gen hs pl pu ?_)
  have hyes : (((HT.sIx items.size 0 lo : Nat) : Int) == 0 && (1 : Int) == 1 && (HT.sIx items.size items.size hi - HT.sIx items.size 0 lo) == items.size) = true := by
    rw [hw.1, hw.2]; simp
  show wpAny _ _ (if (((HT.sIx items.size 0 lo : Nat) : Int) == 0 && (1 : Int) == 1 && (HT.sIx items.size items.size hi - HT.sIx items.size 0 lo) == items.size) = true then _ else _) _ _ s
  rw [if_pos hyes]
  unfold Builtin.Tuple.tupleIsExact
  refine wpAny_bind (wpAny_bind (wpAny_typeOf ht.typeIs (wpAny_pure ?_)))
  rw [if_pos (show (Value.type "tuple" == Value.type "tuple") = true from beq_self_eq_true _)]
  refine wpAny_bind (wpAny_rule ?_)
  first
    | exact wpAny_pure ⟨_, rfl, wpAny_pure h⟩
    | exact wpAny_bind (wpAny_pure (wpAny_pure ⟨_, rfl, wpAny_pure h⟩))
    | exact wpAny_bind (wpAny_pure ⟨_, rfl, wpAny_pure h⟩)
end
def znl (K : PySem.W.Frag) : V -> Option Int -> Option Int -> Hp -> VK -> Prop := fun x lo hi H Q => ∃ a xs, x = .ref a /\ SqT K H a xs /\ (HT.sIx xs.length 0 lo = 0 /\ HT.sIx xs.length xs.length hi = xs.length) /\ Q (.ref a) H
theorem zkp {X : Cx} : SlR X (znl X.K) := by
  intro pins s σ H x v vl vu lo hi sl Q I rx hs pl pu h
  obtain ⟨a, xs, rfl, hx, hw, q⟩ := h
  cases rx
  obtain ⟨its, r, ht, hz⟩ := I.tuple hx
  have hlen : its.toArray.size = xs.length := by rw [List.size_toArray]; exact r.length.symm
  refine ⟨"tuple", _, PyProof.Rows.slot_tuple_getitem.lookup, ht.typeIs, ?_⟩
  exact jH ht hs pl pu (by rw [hlen]; exact hw) ⟨.ref a, H, I, rfl, q⟩
theorem zir {K : PySem.W.Frag} {a : Addr} {xs : List V} {g : TG} {tb : TS} {D : zeB} {σ : St} {H : Hp} (Pv : Nat -> St -> Hp -> Prop) (h0 : Pv 0 σ H) (hl : ∀ i σ H, i <= xs.length -> Pv i σ H -> SqL K H a xs)
    (hs : ∀ i x σ H T, xs[i]? = some x -> Pv i σ H -> H T = none -> g (.ref T) σ (upd H T (.tup [.int (i : Nat), x])) fun σ2 H2 => tb { D with nx := Pv (i + 1), ct := Pv (i + 1), bk := D.nx } σ2 H2) (hd : ∀ σ H, Pv xs.length σ H -> D.nx σ H) :
    ∃ W : Nat -> Nat -> St -> Hp -> Prop, (∃ m, W 0 m σ H) /\ ∀ i m σ H, W i m σ H ->
      ((Ite K a).stop i H /\ D.nx σ H) \/ ((Ite K a).go i H /\ ∃ N : St -> Hp -> Prop, (∀ σ' H', N σ' H' -> ∃ m', m' < m /\ W (i + 1) m' σ' H') /\ ∀ x H', (Ite K a).yld i H x H' -> g x σ H' fun σ2 H2 => tb { D with nx := N, ct := N, bk := D.nx } σ2 H2) := by
  refine ⟨fun i m σ H => m = xs.length - i /\ i <= xs.length /\ Pv i σ H, ⟨xs.length, by simp, Nat.zero_le _, h0⟩, ?_⟩
  rintro i m σ H ⟨rfl, hi, p⟩
  have q := hl i σ H hi p
  by_cases hlt : i < xs.length
  . refine .inr ⟨⟨xs, xs[i], q, by simp [hlt]⟩, Pv (i + 1), fun σ' H' p' => ⟨xs.length - (i + 1), by omega, rfl, hlt, p'⟩, fun v H' y => ?_⟩
    obtain ⟨T, x, e1, e2, e3, y⟩ := y
    subst e1 e3
    exact hs i x σ H T (y xs q) p e2
  . have e : i = xs.length := by omega
    subst e
    exact .inl ⟨⟨xs, q, Nat.le_refl _⟩, hd σ H p⟩
theorem zkX {K : PySem.W.Frag} {a : Addr} {xs : List V} {g : TG} {tt : TT} {te : TE} {vs : List Nat} {σ : St} {H1 : Hp} {D : Addr} {Qd : Hp -> Prop} (Pv : Nat -> Hp -> Prop) (h0 : Pv 0 (upd H1 D (.lst []))) (hl : ∀ i H, i <= xs.length -> Pv i H -> SqL K H a xs)
    (hs : ∀ i x H T, xs[i]? = some x -> Pv i H -> H T = none -> g (.ref T) (xr σ vs) (upd H T (.tup [.int (i : Nat), x])) fun σ2 H2 => xr σ2 vs = xr σ vs /\ tt σ2 H2 fun b H3 =>
      if b = true then te σ2 H3 fun y H4 => ∃ acc, H4 D = some (.lst acc) /\ acc.length < sizeLine /\ Pv (i + 1) (upd H4 D (.lst (acc ++ [y]))) else Pv (i + 1) H3) (hd : ∀ H, Pv xs.length H -> Qd H) :
    ∃ W : Nat -> Nat -> Hp -> Prop, (∃ m, W 0 m (upd H1 D (.lst []))) /\ ∀ i m H, W i m H ->
      ((Ite K a).stop i H /\ Qd H) \/ ((Ite K a).go i H /\ ∃ Nx : Hp -> Prop, (∀ H', Nx H' -> ∃ m', m' < m /\ W (i + 1) m' H') /\ ∀ x H', (Ite K a).yld i H x H' -> g x (xr σ vs) H' fun σ2 H2 => xr σ2 vs = xr σ vs /\ tt σ2 H2 fun b H3 =>
        if b = true then te σ2 H3 fun y H4 => ∃ acc, H4 D = some (.lst acc) /\ acc.length < sizeLine /\ Nx (upd H4 D (.lst (acc ++ [y]))) else Nx H3) := by
  refine ⟨fun i m H => m = xs.length - i /\ i <= xs.length /\ Pv i H, ⟨xs.length, by simp, Nat.zero_le _, h0⟩, ?_⟩
  rintro i m H ⟨rfl, hi, p⟩
  have q := hl i H hi p
  by_cases hlt : i < xs.length
  . refine .inr ⟨⟨xs, xs[i], q, by simp [hlt]⟩, Pv (i + 1), fun H' p' => ⟨xs.length - (i + 1), by omega, rfl, hlt, p'⟩, fun v H' y => ?_⟩
    obtain ⟨T, x, e1, e2, e3, y⟩ := y
    subst e1 e3
    exact hs i x H T (y xs q) p e2
  . have e : i = xs.length := by omega
    subst e
    exact .inl ⟨⟨xs, q, Nat.le_refl _⟩, hd H p⟩
end L2
end
section
namespace L2
open PySem PySem.Spec PyProof.Rows
abbrev Cx.pinned (X : Cx) (pn : List (Addr × Obj)) : Cx := { X with pn := pn }
def zmd (X : Cx) (E : XK) : Value -> Shared -> Prop := fun e s' => ∃ (pins : List (Addr × Obj)) (σ : St) (H : Hp) (s : Shared), Inv X pins σ H s /\ CXe X.prog X.w X.stack H s E e s'
abbrev Cx.tryB (X : Cx) (pn : List (Addr × Obj)) (E : XK) : Cx := (X.pinned pn).wish (zmd (X.pinned pn) E)
abbrev Cx.hand (X : Cx) (pn : List (Addr × Obj)) (e : Addr) : Cx := { X with pn := pn, A := X.A.mark (some (.ref e)), calm := false, xe := fun _ _ => False }
theorem ziB {X : Cx} {pn : List (Addr × Obj)} {E : XK} : qF (CXe X.prog X.w) (X.tryB pn E) E := fun pins σ H s e s' I h => ⟨pins, σ, H, s, I.unwish, h⟩
section
variable {X : Cx} {pins pins' pn : List (Addr × Obj)} {σ : St} {H : Hp} {s : Shared}
theorem Cx.Ok.pinned (ok : X.Ok) : (X.pinned pn).Ok := ⟨ok.mod, ok.kind, ok.glob, ok.blt, ok.above, ok.inj, ok.has, ok.cab, ok.hd, ok.frames, ok.stk, ok.exf, ok.bs, ok.bsz, ok.noex, ok.exfs, ok.funs, ok.frf⟩
theorem Cx.Ok.unpinned (ok : (X.pinned pn).Ok) : X.Ok := ⟨ok.mod, ok.kind, ok.glob, ok.blt, ok.above, ok.inj, ok.has, ok.cab, ok.hd, ok.frames, ok.stk, ok.exf, ok.bs, ok.bsz, ok.noex, ok.exfs, ok.funs, ok.frf⟩
theorem Cx.Ok.hand (ok : X.Ok) {e : Addr} : (X.hand pn e).Ok := ⟨ok.mod, ok.kind, ok.glob, ok.blt, ok.above, ok.inj, ok.has, ok.cab, fun z => Bool.noConfusion z, ok.frames, ok.stk, ok.exf, ok.bs, ok.bsz, ok.noex, ok.exfs, ok.funs, ok.frf⟩
theorem Inv.pinTo (I : Inv X pins σ H s) : Inv (X.pinned (X.pn ++ pins)) [] σ H s :=
  ⟨I.ok.pinned, I.os, I.bare, I.base, I.loc, I.cell, I.free, I.freeC, fun p hp => I.pin p (by rw [List.append_nil] at hp; exact hp), I.hok, I.len⟩
theorem Inv.pinFrom (I : Inv (X.pinned (X.pn ++ pins)) pins' σ H s) : Inv X pins σ H s :=
  ⟨I.ok.unpinned, I.os, I.bare, I.base, I.loc, I.cell, I.free, I.freeC, fun p hp => I.pin p (List.mem_append_left _ hp), I.hok, I.len⟩
theorem Inv.hand (I : Inv (X.pinned pn) pins' σ H s) (e : Addr) : Inv (X.hand pn e) [] σ H s :=
  ⟨I.ok.unpinned.hand, I.os, I.bare, I.base, I.loc, I.cell, I.free, I.freeC, fun p hp => I.pin p (by rw [List.append_nil] at hp; exact List.mem_append_left _ hp), I.hok, I.len⟩
theorem Inv.unhand {e : Addr} (ok : X.Ok) (I : Inv (X.hand (X.pn ++ pins) e) [] σ H s) : Inv X pins σ H s :=
  ⟨ok, I.os, I.bare, I.base, I.loc, I.cell, I.free, I.freeC, fun p hp => I.pin p (List.mem_append_left _ hp), I.hok, I.len⟩
theorem SP.conv {Y : Cx} {D : zeB} {f : Flow} (k : ∀ σ H s, Inv X pins σ H s -> Inv Y pins' σ H s) (h : SP X pins D f s) : SP Y pins' D f s := by
  cases f with
  | next => obtain ⟨σ', H', I, q⟩ := h; exact ⟨σ', H', k _ _ _ I, q⟩
  | brk => obtain ⟨σ', H', I, q⟩ := h; exact ⟨σ', H', k _ _ _ I, q⟩
  | cont => obtain ⟨σ', H', I, q⟩ := h; exact ⟨σ', H', k _ _ _ I, q⟩
  | ret u => obtain ⟨v, σ', H', I, r, q⟩ := h; exact ⟨v, σ', H', k _ _ _ I, r, q⟩
theorem Inv.landed (I : Inv X pins σ H s) {H' : Hp} {B h4 : Heap} {s' : Shared} (os : s'.os = s.os) (bare : AllBare s'.gens) (un : Un (frs X.stack) [] H H' s.heap s'.heap) (hok : HOk X.prog X.w H' B)
    (hB : ∀ b o, s.heap.get? b = some o -> H b = none -> b ∉ frs X.stack -> B.get? b = some o) (hT : ∀ b o, s.heap.get? b = some o -> b ∉ frs X.stack -> ∃ o', B.get? b = some o')
    (st : B.StaysIn h4) (us : s'.heap.UpToSlots h4) : Inv X pins σ H' { s' with heap := h4 } := by
  have slot : ∀ b o, s.heap.get? b = some o -> H b = none -> b ∈ frs X.stack -> ∃ sl, h4.get? b = some { o with slots := sl } := fun b o e n hb => by
    obtain ⟨sl, e1⟩ := un.slot b o e n hb (by simp)
    obtain ⟨_, o', ho', hnf⟩ := I.stack.mem hb
    rw [e] at ho'
    cases ho'
    obtain ⟨sl2, e2⟩ := us b _ e1 hnf
    exact ⟨sl2, e2⟩
  have u4 : Un (frs X.stack) [] H H' s.heap h4 := by
    refine ⟨fun b o e n hb _ => st b o (hB b o e n hb), fun b o e n hb _ => slot b o e n hb, un.free, fun b o e _ => ?_, un.tups, un.frzs, un.tbls⟩
    by_cases hb : b ∈ frs X.stack
    . obtain ⟨sl, q⟩ := slot b o e (I.stkFree b hb) hb
      exact ⟨_, q⟩
    . obtain ⟨o2, e2⟩ := hT b o e hb
      exact ⟨o2, st b o2 e2⟩
  obtain ⟨hh, g, d, tk, o⟩ := s'
  have e : o = s.os := os
  subst e
  exact I.call (g' := g) (t' := tk) (d' := d) u4 (hok.kept st) bare (fun b z => absurd z (by simp))
end
theorem zmu {z : Str} {g : TG} {tt : TT} {te : TE} {vs : List Nat} {σ : St} {H1 : Hp} {D : Addr} {Qd : Hp -> Prop} (Pv : Nat -> Hp -> Prop) (h0 : Pv 0 (upd H1 D (.lst [])))
    (hs : ∀ i c H, z.cps[i]? = some c -> Pv i H -> g (.str ⟨#[c]⟩) (xr σ vs) H fun σ2 H2 => xr σ2 vs = xr σ vs /\ tt σ2 H2 fun b H3 =>
      if b = true then te σ2 H3 fun y H4 => ∃ acc, H4 D = some (.lst acc) /\ acc.length < sizeLine /\ Pv (i + 1) (upd H4 D (.lst (acc ++ [y]))) else Pv (i + 1) H3) (hd : ∀ H, Pv z.cps.size H -> Qd H) :
    ∃ W : Nat -> Nat -> Hp -> Prop, (∃ m, W 0 m (upd H1 D (.lst []))) /\ ∀ i m H, W i m H ->
      ((Its z).stop i H /\ Qd H) \/ ((Its z).go i H /\ ∃ Nx : Hp -> Prop, (∀ H', Nx H' -> ∃ m', m' < m /\ W (i + 1) m' H') /\ ∀ x H', (Its z).yld i H x H' -> g x (xr σ vs) H' fun σ2 H2 => xr σ2 vs = xr σ vs /\ tt σ2 H2 fun b H3 =>
        if b = true then te σ2 H3 fun y H4 => ∃ acc, H4 D = some (.lst acc) /\ acc.length < sizeLine /\ Nx (upd H4 D (.lst (acc ++ [y]))) else Nx H3) := by
  refine ⟨fun i m H => m = z.cps.size - i /\ i <= z.cps.size /\ Pv i H, ⟨z.cps.size, by simp, Nat.zero_le _, h0⟩, ?_⟩
  rintro i m H ⟨rfl, hi, p⟩
  by_cases hlt : i < z.cps.size
  . refine .inr ⟨hlt, Pv (i + 1), fun H' p' => ⟨z.cps.size - (i + 1), by omega, rfl, hlt, p'⟩, fun x H' y => ?_⟩
    obtain ⟨e, c, hc, rfl⟩ := y
    subst e
    exact hs i c _ hc p
  . have e : i = z.cps.size := by omega
    subst e
    exact .inl ⟨Nat.le_refl _, hd H p⟩
end L2
end
section
namespace L2
open PySem PySem.Spec PyProof.Rows
section
variable {X : Cx}
theorem zfR {e : Expr} {t u : TE} (h1 : PE X e t) (h2 : PE X e u) : PE X e (fun σ H Q => t σ H Q \/ u σ H Q) := by
  intro pins s σ H Q I h
  rcases h with h | h
  . exact h1 pins s σ H Q I h
  . exact h2 pins s σ H Q I h
def znH (C : Addr) : TE := fun _ H Q => ∀ x dx, H x = none -> H dx = none -> dx ≠ x -> Q (.ref x) (upd (upd H dx (.own x)) x (.ins C dx []))
theorem zls {C : Addr} {x : Str} {p pos : Pos} (mk : PySem.W.makesIn X.K C = true) (hi : PySem.W.findIn X.K (.ref C) "__init__" = some (some (.builtin "object.__init__"))) (kp : PySem.W.keepIn X.K (.ref C) = true) (hg : Gl X x) (hm : X.mg x = some (.ref C))
    (hdb : (x == ("__debug__" : Str)) = false := by decide) : PE X (.Call (.Name x p) [] [] pos) (znH C) := by
  intro pins s σ H Q I h
  refine wpAny_Call_Name_kw (yL I hg hm ?_ hdb)
  refine PySem.W.callWith_K0 I.kIn kp ?_
  have hq := h (s.heap.objs.size + 1) s.heap.objs.size (I.hok.fresh (Nat.le_succ _)) (I.hok.fresh (Nat.le_refl _)) (Nat.ne_of_lt (Nat.lt_succ_self _))
  have I2 := Inv.made (C := C) I
  have Y := PySem.W.makes_of (M := model X.prog X.w) I.kIn mk
  have hg2 : ((s.heap.push PySem.W.emptyDict).push (PySem.W.instObj C s.heap.objs.size)).get? (s.heap.objs.size + 1) = some (PySem.W.instObj C s.heap.objs.size) := by
    have := Heap.get?_push_size (s.heap.push PySem.W.emptyDict) (o := PySem.W.instObj C s.heap.objs.size) rfl
    rwa [Heap.size_push] at this
  refine wpAny_call (zfo I.kIn mk hi (fun self => PySem.W.Looks.of_pure (PySem.W.oi_bind self)) ?_)
  have t1 : PySem.W.Looks (model X.prog X.w) ((s.heap.push PySem.W.emptyDict).push (PySem.W.instObj C s.heap.objs.size)) (typeOf (.ref (s.heap.objs.size + 1))) (.ref C) := (PySem.W.Looks.ld hg2).andThen .now
  have t2 : PySem.W.Looks (model X.prog X.w) ((s.heap.push PySem.W.emptyDict).push (PySem.W.instObj C s.heap.objs.size)) (isInstance (.ref (s.heap.objs.size + 1)) (.type "object")) true := t1.andThen (Y.top.keeps fun b o e => Heap.get?_push_of_some _ (Heap.get?_push_of_some _ e))
  refine PySem.codeAny_call_builtin PySem.W.oi_plain PySem.W.entry_oi (@PySem.W.check_slot (model X.prog X.w) _ _ _ "object.__init__" "object" "__init__" (.ref (s.heap.objs.size + 1)) [] [] _ PySem.W.oi_kind PySem.W.oi_split t2 (PySem.W.oi_args (.ref (s.heap.objs.size + 1))) ?_)
  rw [PySem.W.oi_run]
  exact wpAny_pure (And.intro rfl ⟨V.ref (s.heap.objs.size + 1), _, I2, rfl, hq⟩)
def zmK (X : Cx) (E : XK) (tf : TE) (ts : TA) : TE := fun σ H Q => tf σ H fun v H1 => ∃ (f : Addr) (fd : FuncData) (ps : List Str) (sp : Sp) (k : Nat), v = .ref f /\ z0 X.prog X.w X.K X.mg X.base (CXe X.prog X.w) k f fd ps sp /\ yC k X.A /\
  PySem.W.keepIn X.K (.ref f) = true /\ qL X.K fd ps [] /\ ts σ H1 fun vs H2 => sp vs H2 Q E
theorem zh7 {E : XK} {fe e : Expr} {es : List Expr} {tf : TE} {ts : TA} {pos : Pos} (hx : qF (CXe X.prog X.w) X E) (hf : PE X fe tf) (ha : PA X (e :: es) ts)
    (hc : eval (.Call fe (e :: es) [] pos) X.env = (do callWith pos (<- eval fe X.env) [] (backTo pos (starEach (e :: es) X.env)) (backToKw pos (keywordEach [] X.env))) := by rfl)
    (he : starEach (e :: es) X.env = (false, eval e X.env) :: starEach es X.env := by rfl) (hpl : (backTo pos (starEach es X.env)).any (·.1) = false := by rfl) : PE X (.Call fe (e :: es) [] pos) (zmK X E tf ts) := by
  intro pins s σ H Q I h
  refine Call_ (thn (hf pins s σ H _ I h) fun u s1 ⟨v, H1, I1, rv, f, fd, ps, sp, k, ev, F, hr, hk, hb, q⟩ => ?_) hc
  subst ev
  obtain rfl : u = Value.ref f := rv
  refine PySem.W.callWith_K (h₀ := X.base) I.ok.mod.kin hk (thn (ha pos pins s1 σ H1 _ I1 q) fun us s2 ⟨vs, H2, I2, r, q2⟩ => ⟨I2.kIn, ?_⟩) he hpl
  exact zda (dvs := []) (ds := []) F hr hb .nil hx I2 r (by rw [List.append_nil]; exact q2)
theorem zaO (l : Addr) (items : Array Value) (n : Nat) (b : Addr) (items2 : Array Value) (n2 : Nat) (od : Option Addr) (sl : Array (Option Value)) (hs0 : ¬(!items.isEmpty && Builtin.List.listTooLong (items.size + items2.size)) = true) (hs1 : items.size <= sizeLine) (hs2 : items.size + items2.size <= sizeLine + 1) :
    Meets (Builtin.«list.extend» ⟨[.ref l, .ref b], []⟩) (fun _ R s => s.heap.get? l = some { cls := .type "list", dict := none, data := .seq items n, slots := #[] } /\ s.heap.get? b = some { cls := .type "tuple", dict := od, data := .seq items2 n2, slots := sl } /\ R (.ok (.ret Value.none)) { s with heap := s.heap.update l (Obj.mapSeq fun x => x ++ items2), toks := s.toks }) :=
  .of_wp fun prog w A R s h => by
    obtain ⟨heap0, gens0, drawn0, toks0, os0⟩ := s
    obtain ⟨hl, hb, hR⟩ := h
    have g1 := AutoSeq1.idx_int
    have g2 := AutoSeq1.sub_tuple_tuple
    have g3 := AutoSeq1.sub_list_list
    have g4 := AutoSeq1.sub_tuple_list
    have g5 := AutoSeq1.sub_list_tuple
    have hsum : (items ++ items2).size <= sizeLine + 1 := by rw [Array.size_append]; exact hs2
    wp_walk using (wpAny_updateSeq hl rfl (hz := hs1) (_hz' := hsum)), AutoSeq1.wpAny_loadPart' hl, AutoSeq1.wpAny_loadPart' hb
    exact ⟨_, rfl, hR⟩
def zib (K : PySem.W.Frag) : V -> List V -> Hp -> VK -> Prop := fun x vs H Q => ∃ l b xs zs, x = .ref l /\ vs = [.ref b] /\ H l = some (.lst xs) /\ SqT K H b zs /\ xs.length + zs.length <= sizeLine /\ Q .non (upd H l (.lst (xs ++ zs)))
theorem zea : MtM X "list.extend" (zib X.K) := by
  intro pins s σ H x vs v us Q I rx rv h
  obtain ⟨l, b, xs, zs, rfl, rfl, hH, hB, hz, q⟩ := h
  cases rx
  obtain ⟨u, rfl, ru⟩ := rv.one
  cases ru
  obtain ⟨z, its, n, r, hl, e⟩ := I.lstM hH
  obtain ⟨its2, r2, ⟨o, e2, hc, n2, hd⟩, z2⟩ := I.tuple hB
  obtain ⟨oc, od, odt, osl⟩ := o
  cases hc
  cases hd
  have hl2 := r2.length
  have hsz : its.toArray.size + its2.toArray.size <= sizeLine := by rw [List.size_toArray, List.size_toArray]; omega
  have hlong : ¬ (!its.toArray.isEmpty && Builtin.List.listTooLong (its.toArray.size + its2.toArray.size)) = true := by
    rw [zah hsz, Bool.and_false]
    exact Bool.false_ne_true
  refine call_meets F.slot_list_extend ⟨_, e, rfl⟩ F.entry_list_extend (F.args_list_extend_2 _ _)
    (zaO l its.toArray n b its2.toArray n2 od osl hlong (by rw [List.size_toArray]; omega) (by omega)) ⟨e, e2, ?_⟩
  refine ⟨.non, _, I.lset (its' := its ++ its2) hH e (by simp) (r.append r2) ?_, rfl, q⟩
  rw [List.length_append]
  omega
end
theorem zkv {K : PySem.W.Frag} {a : Addr} {xs : List V} {g : TG} {tb : TS} {D : zeB} {σ : St} {H : Hp} (Pv : Nat -> St -> Hp -> Prop) (h0 : Pv 0 σ H) (hl : ∀ i σ H, i <= xs.length -> Pv i σ H -> SqL K H a xs)
    (hs : ∀ i x σ H, i < xs.length -> xs[xs.length - 1 - i]? = some x -> Pv i σ H -> g x σ H fun σ2 H2 => tb { D with nx := Pv (i + 1), ct := Pv (i + 1), bk := D.nx } σ2 H2) (hd : ∀ σ H, Pv xs.length σ H -> D.nx σ H) :
    ∃ W : Nat -> Nat -> St -> Hp -> Prop, (∃ m, W 0 m σ H) /\ ∀ i m σ H, W i m σ H ->
      ((Itv K a xs.length).stop i H /\ D.nx σ H) \/ ((Itv K a xs.length).go i H /\ ∃ N : St -> Hp -> Prop, (∀ σ' H', N σ' H' -> ∃ m', m' < m /\ W (i + 1) m' σ' H') /\ ∀ x H', (Itv K a xs.length).yld i H x H' -> g x σ H' fun σ2 H2 => tb { D with nx := N, ct := N, bk := D.nx } σ2 H2) := by
  refine ⟨fun i m σ H => m = xs.length - i /\ i <= xs.length /\ Pv i σ H, ⟨xs.length, by simp, Nat.zero_le _, h0⟩, ?_⟩
  rintro i m σ H ⟨rfl, hi, p⟩
  have q := hl i σ H hi p
  by_cases hlt : i < xs.length
  . refine .inr ⟨⟨hlt, xs, xs[xs.length - 1 - i]'(by omega), q, List.getElem?_eq_getElem (by omega)⟩, Pv (i + 1), fun σ' H' p' => ⟨xs.length - (i + 1), by omega, rfl, hlt, p'⟩, fun x H' y => ?_⟩
    obtain ⟨e, y⟩ := y
    subst e
    exact hs i x σ _ hlt (y xs q) p
  . have e : i = xs.length := by omega
    subst e
    exact .inl ⟨Nat.le_refl _, hd σ H p⟩
end L2
end
section
namespace L2
open PySem PySem.Spec PyProof.Rows
def znt (tb : TS) (E : XK) (C1 C2 C3 C4 : Addr) (t1 t2 t3 t4 : TS) : TS := fun D σ H => tb D σ H /\ ∀ C H' σ', E C none H' -> (C = .ref C1 /\ t1 D σ' H') \/ (C = .ref C2 /\ t2 D σ' H') \/ (C = .ref C3 /\ t3 D σ' H') \/ (C = .ref C4 /\ t4 D σ' H')
theorem zkF {X : Cx} {E : XK} {body s1 s2 s3 s4 : List Stmt} {a1 a2 a3 a4 : Stmt} {n1 n2 n3 n4 : Str} {C1 C2 C3 C4 : Addr} {p1 p2 p3 p4 q1 q2 q3 q4 pos : Pos} {tb t1 t2 t3 t4 : TS} (hstk : X.stack = X.env :: X.outer) (hfr : X.env.frame = some X.env.locals)
    (g1 : Gl X n1) (m1 : X.mg n1 = some (.ref C1)) (g2 : Gl X n2) (m2 : X.mg n2 = some (.ref C2)) (g3 : Gl X n3) (m3 : X.mg n3 = some (.ref C3)) (g4 : Gl X n4) (m4 : X.mg n4 = some (.ref C4))
    (x11 : PySem.W.exmOne X.K (.ref C1) (.ref C1) = some true) (x21 : PySem.W.exmOne X.K (.ref C2) (.ref C1) = some false) (x22 : PySem.W.exmOne X.K (.ref C2) (.ref C2) = some true)
    (x31 : PySem.W.exmOne X.K (.ref C3) (.ref C1) = some false) (x32 : PySem.W.exmOne X.K (.ref C3) (.ref C2) = some false) (x33 : PySem.W.exmOne X.K (.ref C3) (.ref C3) = some true)
    (x41 : PySem.W.exmOne X.K (.ref C4) (.ref C1) = some false) (x42 : PySem.W.exmOne X.K (.ref C4) (.ref C2) = some false) (x43 : PySem.W.exmOne X.K (.ref C4) (.ref C3) = some false) (x44 : PySem.W.exmOne X.K (.ref C4) (.ref C4) = some true)
    (hb : ∀ pn, PSs (X.tryB pn E) body tb) (h1 : ∀ pn e, PSs (X.hand pn e) (a1 :: s1) t1) (h2 : ∀ pn e, PSs (X.hand pn e) (a2 :: s2) t2) (h3 : ∀ pn e, PSs (X.hand pn e) (a3 :: s3) t3) (h4 : ∀ pn e, PSs (X.hand pn e) (a4 :: s4) t4)
    (d1 : (n1 == ("__debug__" : Str)) = false := by decide) (d2 : (n2 == ("__debug__" : Str)) = false := by decide) (d3 : (n3 == ("__debug__" : Str)) = false := by decide) (d4 : (n4 == ("__debug__" : Str)) = false := by decide) :
    PS X (.Try body [.ExceptHandler (some (.Name n1 p1)) none (a1 :: s1) q1, .ExceptHandler (some (.Name n2 p2)) none (a2 :: s2) q2, .ExceptHandler (some (.Name n3 p3)) none (a3 :: s3) q3, .ExceptHandler (some (.Name n4 p4)) none (a4 :: s4) q4] [] [] pos) (znt tb E C1 C2 C3 C4 t1 t2 t3 t4) := by
  intro pins s σ H D I hw
  obtain ⟨hw, hx⟩ := hw
  refine wpAny_Try_except (wpAny_mono (hb (X.pn ++ pins) [] s σ H D (I.pinTo.wish _) hw) (fun f s1 q => ?_) (fun e s1 q => ?_))
  . have q' : SP X pins D f s1 := q.unwish.conv fun _ _ _ J => J.pinFrom
    cases f with
    | next => exact wpAny_execs_nil q'
    | brk => exact q'
    | cont => exact q'
    | ret u => exact q'
  . obtain ⟨pins', σ', H0, s0, I0, ea, C, a0, B, H1, rfl, hE, os, bare, un, hok, fl, hB, hT⟩ := q
    have fr : X.A.frames = some (X.env :: X.outer) := by rw [<- hstk]; exact I.ok.frames
    have fl' : Heap.FlyingW B (X.env :: X.outer) ea (.ref C) a0 s1.heap := by rw [<- hstk]; exact fl
    refine wpAny_looks_onW fr hfr fl' fun h2' hd2 us2 => wpAny_landsW hd2 fun h3' fl3 us3 => ?_
    have land : ∀ h4, Heap.FlyingW B (X.env :: X.outer) ea (.ref C) a0 h4 -> h3'.UpToSlots h4 -> Inv (X.pinned (X.pn ++ pins)) pins' σ' H1 { s1 with heap := h4 } := fun h4 f4 us4 =>
      I0.landed os bare un hok hB hT f4.1 ((us2.trans us3).trans us4)
    have IH := (land h3' fl3 (Heap.UpToSlots.refl _)).hand ea
    have LT : PySem.W.Looks (model X.prog X.w) h3' (typeOf (.ref ea)) (.ref C) := by
      obtain ⟨ob, ho, hc⟩ := fl3.there
      rw [<- hc]
      exact (PySem.W.Looks.ld ho).andThen .now
    rcases hx (.ref C) H1 σ' hE with ⟨hC, ht⟩ | ⟨hC, ht⟩ | ⟨hC, ht⟩ | ⟨hC, ht⟩
    . cases hC
      refine wpAny_handleBy_cons (codeAny_handlers_test (yL (X := X.hand (X.pn ++ pins) ea) IH g1 m1 ?_ d1)) (by intro q; cases q)
      refine (PySem.W.exm_one IH.kIn LT x11).here ?_
      refine codeAny_handlers_suite (lands_againW fl3 fun h5 fl4 us4 => ?_)
      refine wpAny_mono (h1 (X.pn ++ pins) ea [] _ σ' H1 D ((land h5 fl4 us4).hand ea) ht) (fun f s5 q => ?_) (fun _ _ z => z.elim)
      exact q.conv fun _ _ _ J => J.unhand I.ok
    . cases hC
      refine wpAny_handleBy_cons (codeAny_handlers_test (yL (X := X.hand (X.pn ++ pins) ea) IH g1 m1 ?_ d1)) (by intro q; cases q)
      refine (PySem.W.exm_one IH.kIn LT x21).here ?_
      refine wpAny_handleBy_cons (codeAny_handlers_test (yL (X := X.hand (X.pn ++ pins) ea) IH g2 m2 ?_ d2)) (by intro q; cases q)
      refine (PySem.W.exm_one IH.kIn LT x22).here ?_
      refine codeAny_handlers_suite (lands_againW fl3 fun h5 fl4 us4 => ?_)
      refine wpAny_mono (h2 (X.pn ++ pins) ea [] _ σ' H1 D ((land h5 fl4 us4).hand ea) ht) (fun f s5 q => ?_) (fun _ _ z => z.elim)
      exact q.conv fun _ _ _ J => J.unhand I.ok
    . cases hC
      refine wpAny_handleBy_cons (codeAny_handlers_test (yL (X := X.hand (X.pn ++ pins) ea) IH g1 m1 ?_ d1)) (by intro q; cases q)
      refine (PySem.W.exm_one IH.kIn LT x31).here ?_
      refine wpAny_handleBy_cons (codeAny_handlers_test (yL (X := X.hand (X.pn ++ pins) ea) IH g2 m2 ?_ d2)) (by intro q; cases q)
      refine (PySem.W.exm_one IH.kIn LT x32).here ?_
      refine wpAny_handleBy_cons (codeAny_handlers_test (yL (X := X.hand (X.pn ++ pins) ea) IH g3 m3 ?_ d3)) (by intro q; cases q)
      refine (PySem.W.exm_one IH.kIn LT x33).here ?_
      refine codeAny_handlers_suite (lands_againW fl3 fun h5 fl4 us4 => ?_)
      refine wpAny_mono (h3 (X.pn ++ pins) ea [] _ σ' H1 D ((land h5 fl4 us4).hand ea) ht) (fun f s5 q => ?_) (fun _ _ z => z.elim)
      exact q.conv fun _ _ _ J => J.unhand I.ok
    . cases hC
      refine wpAny_handleBy_cons (codeAny_handlers_test (yL (X := X.hand (X.pn ++ pins) ea) IH g1 m1 ?_ d1)) (by intro q; cases q)
      refine (PySem.W.exm_one IH.kIn LT x41).here ?_
      refine wpAny_handleBy_cons (codeAny_handlers_test (yL (X := X.hand (X.pn ++ pins) ea) IH g2 m2 ?_ d2)) (by intro q; cases q)
      refine (PySem.W.exm_one IH.kIn LT x42).here ?_
      refine wpAny_handleBy_cons (codeAny_handlers_test (yL (X := X.hand (X.pn ++ pins) ea) IH g3 m3 ?_ d3)) (by intro q; cases q)
      refine (PySem.W.exm_one IH.kIn LT x43).here ?_
      refine wpAny_handleBy_cons (codeAny_handlers_test (yL (X := X.hand (X.pn ++ pins) ea) IH g4 m4 ?_ d4)) (by intro q; cases q)
      refine (PySem.W.exm_one IH.kIn LT x44).here ?_
      refine codeAny_handlers_suite (lands_againW fl3 fun h5 fl4 us4 => ?_)
      refine wpAny_mono (h4 (X.pn ++ pins) ea [] _ σ' H1 D ((land h5 fl4 us4).hand ea) ht) (fun f s5 q => ?_) (fun _ _ z => z.elim)
      exact q.conv fun _ _ _ J => J.unhand I.ok
end L2
end
section
namespace L2
open PySem PySem.Spec PyProof.Rows
open PySem.W (WData Codec OpenSpec Well WellAll ReadsW ReadsAllW)
mutual
inductive Dw (K : PySem.W.Frag) (H : Hp) : V -> WData -> Prop
  | non : Dw K H .non .none
  | bl (b : Bool) : Dw K H (.bl b) (.bool b)
  | int (i : Int) : Dw K H (.int i) (.int i)
  | str (x : Str) : Dw K H (.str x) (.str x)
  | byt (b : Array UInt8) : Dw K H (.byt b) (.bytes b.toList)
  | lst {a : Addr} {xs : List V} {ds : List WData} : SqL K H a xs -> jB K H xs ds -> Dw K H (.ref a) (.list ds)
  | tup {a : Addr} {xs : List V} {ds : List WData} : SqT K H a xs -> jB K H xs ds -> Dw K H (.ref a) (.tuple ds)
inductive jB (K : PySem.W.Frag) (H : Hp) : List V -> List WData -> Prop
  | nil : jB K H [] []
  | cons {v : V} {vs : List V} {d : WData} {ds : List WData} : Dw K H v d -> jB K H vs ds -> jB K H (v :: vs) (d :: ds)
end
theorem zgi {K : PySem.W.Frag} {H : Hp} : ∀ ns : List Int, jB K H (ns.map V.int) (ns.map WData.int)
  | [] => .nil
  | n :: r => .cons (.int n) (zgi r)
theorem zfP {K : PySem.W.Frag} {H : Hp} : ∀ (ns : List Int) (xs : List V), jB K H xs (ns.map WData.int) -> xs = ns.map V.int
  | [], xs, h => by
    cases h
    rfl
  | n :: r, xs, h => by
    cases h with
    | cons h1 h2 =>
      cases h1
      rw [zfP r _ h2] <;> rfl
section
variable {P : Program} {w : World} {K : PySem.W.Frag} {H : Hp} {h : Heap} {R : PySem.W.WRecords} {cl : Str -> Option Addr}
theorem zl4 {a : Addr} {xs : List V} (hok : HOk P w H h) (KX : K.In h) (q : SqL K H a xs) : ∃ (its : List Value) (o : Obj) (n : Nat), yx xs its /\ h.get? a = some o /\ o.cls = .type "list" /\ o.data = .seq its.toArray n := by
  rcases q with q | ⟨o, its, n, e, hc, _, hd, _, hv⟩
  . obtain ⟨_, its, n, hv, e⟩ := (show qo P w H h a (.lst xs) from q.ok hok)
    exact ⟨its, _, n, hv, e, rfl, rfl⟩
  . exact ⟨its.toList, o, n, hv, KX _ _ e, hc, by simp [hd]⟩
theorem zmB {a : Addr} {xs : List V} (hok : HOk P w H h) (KX : K.In h) (q : SqT K H a xs) : ∃ (its : List Value) (o : Obj) (n : Nat), yx xs its /\ h.get? a = some o /\ o.cls = .type "tuple" /\ o.data = .seq its.toArray n := by
  rcases q with q | ⟨o, its, n, e, hc, hd, _, hv⟩
  . obtain ⟨_, its, hv, o, e, hc, n, hd⟩ := (show qo P w H h a (.tup xs) from q.ok hok)
    exact ⟨its, o, n, hv, e, hc, hd⟩
  . exact ⟨its.toList, o, n, hv, KX _ _ e, hc, by simp [hd]⟩
mutual
theorem Dw.reads (hok : HOk P w H h) (KX : K.In h) : ∀ (d : WData) (v : V) (u : Value), Dw K H v d -> yq v u -> ∃ as, ReadsW R cl h u d as
  | .none, _, _, x, r => by
    cases x
    cases r
    exact ⟨_, ReadsW.none⟩
  | .bool b, _, _, x, r => by
    cases x
    cases r
    exact ⟨_, ReadsW.bool b⟩
  | .int i, _, _, x, r => by
    cases x
    obtain ⟨t, rfl⟩ := r
    exact ⟨_, ReadsW.int i t⟩
  | .str s, _, _, x, r => by
    cases x
    obtain ⟨t, rfl⟩ := r
    exact ⟨_, ReadsW.str s t⟩
  | .bytes b, _, _, x, r => by
    cases x
    obtain ⟨t, rfl⟩ := r
    exact ⟨_, ReadsW.bytes _ t⟩
  | .list ds, _, _, x, r => by
    cases x with
    | lst hs ha =>
      cases r
      obtain ⟨its, o, n, rv, ho, hc, hd⟩ := zl4 hok KX hs
      obtain ⟨as, hr⟩ := Dw.readsAll hok KX ds _ its ha rv
      exact ⟨_, ReadsW.list ho hc hd hr⟩
  | .tuple ds, _, _, x, r => by
    cases x with
    | tup hs ha =>
      cases r
      obtain ⟨its, o, n, rv, ho, hc, hd⟩ := zmB hok KX hs
      obtain ⟨as, hr⟩ := Dw.readsAll hok KX ds _ its ha rv
      exact ⟨_, ReadsW.tuple ho hc hd hr⟩
  | .float _, _, _, x, _ => by cases x
  | .dict _, _, _, x, _ => by cases x
  | .bytearray _, _, _, x, _ => by cases x
  | .set _, _, _, x, _ => by cases x
  | .frozenset _, _, _, x, _ => by cases x
  | .obj _ _, _, _, x, _ => by cases x
theorem Dw.readsAll (hok : HOk P w H h) (KX : K.In h) : ∀ (ds : List WData) (vs : List V) (us : List Value), jB K H vs ds -> yx vs us -> ∃ as, ReadsAllW R cl h us ds as
  | [], _, _, x, r => by
    cases x
    cases r
    exact ⟨_, ReadsAllW.nil⟩
  | d :: ds, _, _, x, r => by
    cases x with
    | cons h1 h2 =>
      cases r with
      | cons r1 r2 =>
        obtain ⟨as, q1⟩ := Dw.reads hok KX d _ _ h1 r1
        obtain ⟨bs, q2⟩ := Dw.readsAll hok KX ds _ _ h2 r2
        exact ⟨_, ReadsAllW.cons q1 q2⟩
end
end
mutual
def plW : WData -> Bool
  | .none => true
  | .bool _ => true
  | .int _ => true
  | .str _ => true
  | .bytes _ => true
  | .list xs => zeC xs
  | .tuple xs => zeC xs
  | _ => false
def zeC : List WData -> Bool
  | [] => true
  | x :: r => plW x && zeC r
end
theorem zcY {α : Type} {f : α -> WData} (h : ∀ a, plW (f a) = true) : ∀ l : List α, zeC (l.map f) = true
  | [] => rfl
  | x :: r => by
    show (plW (f x) && zeC (r.map f)) = true
    rw [h x, zcY h r] <;> rfl
theorem jP : ∀ (c : Codec) (a : c.denote), plW (c.enc a) = true
  | .unit, _ => rfl
  | .bool, _ => rfl
  | .int _ _, _ => rfl
  | .nat _ _, _ => rfl
  | .u8, _ => rfl
  | .bytes _ _, _ => rfl
  | .text _ _ _ _, _ => rfl
  | .list _ _ c, a => zcY (fun x => jP c x) a
  | .pair c d, a => by
    show (plW (c.enc a.1) && (plW (d.enc a.2) && true)) = true
    rw [jP c a.1, jP d a.2] <;> rfl
  | .triple c d e, a => by
    show (plW (c.enc a.1) && (plW (d.enc a.2.1) && (plW (e.enc a.2.2) && true))) = true
    rw [jP c a.1, jP d a.2.1, jP e a.2.2] <;> rfl
  | .option c, none => rfl
  | .option c, some x => jP c x
theorem zaM : ∀ (cs : List Codec) (a : Codec.denoteAll cs), zeC (Codec.encAll cs a) = true
  | [], _ => rfl
  | c :: cs, a => by
    show (plW (c.enc a.1) && zeC (Codec.encAll cs a.2)) = true
    rw [jP c a.1, zaM cs a.2] <;> rfl
theorem jI : ∀ {xs : List WData} {d : WData}, d ∈ xs -> d.weight <= WData.weightAll xs
  | [], d, h => absurd h (by simp)
  | x :: r, d, h => by
    show d.weight <= x.weight + 1 + WData.weightAll r
    rcases List.mem_cons.mp h with e | m
    . rw [e]
      omega
    . have z := jI m
      omega
def toV : Value -> V
  | .none => .non
  | .bool b => .bl b
  | .int i _ => .int i
  | .str x _ => .str x
  | .bytes b _ => .byt b
  | .ref a => .ref a
  | _ => .non
def OkU (A : List Addr) : Value -> Prop
  | .none => True
  | .bool _ => True
  | .int _ _ => True
  | .str _ _ => True
  | .bytes _ _ => True
  | .ref a => a ∈ A
  | _ => False
theorem OkU.mono {A B : List Addr} (h : ∀ a ∈ A, a ∈ B) : ∀ {u : Value}, OkU A u -> OkU B u := fun {u} x => by
  cases u with
  | ref a => exact h a x
  | none => trivial
  | bool b => trivial
  | int i t => trivial
  | str s t => trivial
  | bytes b t => trivial
  | _ => exact False.elim x
theorem zhT {A : List Addr} {u : Value} (x : OkU A u) : yq (toV u) u := by
  cases u with
  | ref a => rfl
  | none => rfl
  | bool b => rfl
  | int i t => exact ⟨t, rfl⟩
  | str s t => exact ⟨t, rfl⟩
  | bytes b t => exact ⟨t, rfl⟩
  | _ => exact False.elim x
theorem qt {A : List Addr} : ∀ {vs : List Value}, (∀ u ∈ vs, OkU A u) -> yx (vs.map toV) vs
  | [], _ => .nil
  | u :: r, h => .cons (zhT (h u (List.mem_cons_self ..))) (qt fun x hx => h x (List.mem_cons_of_mem _ hx))
def jY (h : Heap) (A : List Addr) (a : Addr) : Prop := ∃ vs : List Value, vs.length <= sizeLine /\ (∀ u ∈ vs, OkU A u) /\
  (h.get? a = some { cls := .type "list", data := .seq vs.toArray } \/ h.get? a = some { cls := .type "tuple", data := .seq vs.toArray })
theorem jY.mono {h : Heap} {A B : List Addr} {a : Addr} (k : ∀ a ∈ A, a ∈ B) (x : jY h A a) : jY h B a := by
  obtain ⟨vs, h1, h2, h3⟩ := x
  exact ⟨vs, h1, fun u hu => (h2 u hu).mono k, h3⟩
theorem xH {P : Params} {h : Heap} : ∀ {vs : List Value} {ds : List WData}, WellAll P h vs ds -> vs.length = ds.length
  | _, _, .nil => rfl
  | _, _, .cons _ b => by
    show _ + 1 = _ + 1
    rw [xH b]
theorem zbk {P : Params} {h : Heap} {v : Value} {ds : List WData} (x : Well P h v (.list ds)) : ∃ (a : Addr) (vs : List Value), v = .ref a /\ h.get? a = some { cls := .type "list", data := .seq vs.toArray } /\ WellAll P h vs ds := by
  cases x with
  | list ho hall => exact ⟨_, _, rfl, ho, hall⟩
theorem vJ {P : Params} {h : Heap} {v : Value} {ds : List WData} (x : Well P h v (.tuple ds)) : ∃ (a : Addr) (vs : List Value), v = .ref a /\ h.get? a = some { cls := .type "tuple", data := .seq vs.toArray } /\ WellAll P h vs ds := by
  cases x with
  | tuple ho hall => exact ⟨_, _, rfl, ho, hall⟩
theorem zbx {P : Params} {h : Heap} {us : List Value} {d : WData} {ds : List WData} (x : WellAll P h us (d :: ds)) : ∃ (v : Value) (vs : List Value), us = v :: vs /\ Well P h v d /\ WellAll P h vs ds := by
  cases x with
  | cons a b => exact ⟨_, _, rfl, a, b⟩
theorem zgs {n : Nat} (h : n <= 1048576) : n <= sizeLine := Nat.le_trans h (by decide)
section
variable {P : Params} {h : Heap}
mutual
theorem ziF : ∀ (d : WData) (v : Value), Well P h v d -> plW d = true -> d.weight <= 1048576 -> ∃ A : List Addr, OkU A v /\ ∀ a ∈ A, jY h A a
  | .none, _, x, _, _ => by
    cases x
    exact ⟨[], trivial, fun a m => absurd m (by simp)⟩
  | .bool b, _, x, _, _ => by
    cases x
    exact ⟨[], trivial, fun a m => absurd m (by simp)⟩
  | .int i, _, x, _, _ => by
    cases x
    exact ⟨[], trivial, fun a m => absurd m (by simp)⟩
  | .str s, _, x, _, _ => by
    cases x
    exact ⟨[], trivial, fun a m => absurd m (by simp)⟩
  | .bytes b, _, x, _, _ => by
    cases x
    exact ⟨[], trivial, fun a m => absurd m (by simp)⟩
  | .list ds, _, x, p, z => by
    obtain ⟨a, vs, rfl, ho, hall⟩ := zbk x
    have z2 : WData.weightAll ds <= 1048576 := z
    obtain ⟨A, h1, h2⟩ := kh ds _ hall p fun d hd => Nat.le_trans (jI hd) z2
    have k : ∀ b ∈ A, b ∈ a :: A := fun b hb => List.mem_cons_of_mem _ hb
    refine ⟨a :: A, List.mem_cons_self .., fun b hb => ?_⟩
    rcases List.mem_cons.mp hb with e | m
    . rw [e]
      exact ⟨vs, zgs (by rw [xH hall]; exact Nat.le_trans (PySem.W.length_le_weightAllW ds) z2), fun u hu => (h1 u hu).mono k, .inl ho⟩
    . exact (h2 b m).mono k
  | .tuple ds, _, x, p, z => by
    obtain ⟨a, vs, rfl, ho, hall⟩ := vJ x
    have z2 : WData.weightAll ds <= 1048576 := z
    obtain ⟨A, h1, h2⟩ := kh ds _ hall p fun d hd => Nat.le_trans (jI hd) z2
    have k : ∀ b ∈ A, b ∈ a :: A := fun b hb => List.mem_cons_of_mem _ hb
    refine ⟨a :: A, List.mem_cons_self .., fun b hb => ?_⟩
    rcases List.mem_cons.mp hb with e | m
    . rw [e]
      exact ⟨vs, zgs (by rw [xH hall]; exact Nat.le_trans (PySem.W.length_le_weightAllW ds) z2), fun u hu => (h1 u hu).mono k, .inr ho⟩
    . exact (h2 b m).mono k
  | .float _, _, _, p, _ => Bool.noConfusion (show false = true from p)
  | .dict _, _, _, p, _ => Bool.noConfusion (show false = true from p)
  | .bytearray _, _, _, p, _ => Bool.noConfusion (show false = true from p)
  | .set _, _, _, p, _ => Bool.noConfusion (show false = true from p)
  | .frozenset _, _, _, p, _ => Bool.noConfusion (show false = true from p)
  | .obj _ _, _, _, p, _ => Bool.noConfusion (show false = true from p)
theorem kh : ∀ (ds : List WData) (vs : List Value), WellAll P h vs ds -> zeC ds = true -> (∀ d ∈ ds, d.weight <= 1048576) -> ∃ A : List Addr, (∀ u ∈ vs, OkU A u) /\ ∀ a ∈ A, jY h A a
  | [], _, x, _, _ => by
    cases x
    exact ⟨[], fun u m => absurd m (by simp), fun a m => absurd m (by simp)⟩
  | d :: ds, _, x, p, z => by
    obtain ⟨v, vs, rfl, x1, x2⟩ := zbx x
    have q : plW d = true /\ zeC ds = true := Bool.and_eq_true_iff.mp p
    obtain ⟨A, a1, a2⟩ := ziF d v x1 q.1 (z d (List.mem_cons_self ..))
    obtain ⟨B, b1, b2⟩ := kh ds vs x2 q.2 fun e he => z e (List.mem_cons_of_mem _ he)
    have kA : ∀ b ∈ A, b ∈ A ++ B := fun b hb => List.mem_append.mpr (.inl hb)
    have kB : ∀ b ∈ B, b ∈ A ++ B := fun b hb => List.mem_append.mpr (.inr hb)
    refine ⟨A ++ B, fun u hu => ?_, fun b hb => ?_⟩
    . rcases List.mem_cons.mp hu with e | m
      . rw [e]
        exact a1.mono kA
      . exact (b1 u m).mono kB
    . rcases List.mem_append.mp hb with m | m
      . exact (a2 b m).mono kA
      . exact (b2 b m).mono kB
end
end
def zm0 (o : Obj) : Option HO := match o.data with
  | .seq vs _ => if (o.cls == Value.type "list") = true then some (.frz o (.lst (vs.toList.map toV))) else some (.frz o (.tup (vs.toList.map toV)))
  | _ => none
def wL (K : PySem.W.Frag) (h : Heap) (A : List Addr) : Hp := fun b => if b ∈ A then (if (K.lookup b).isNone = true then (h.get? b).bind zm0 else none) else none
def zeq (H : Hp) : Prop := ∀ b, H b = none \/ ∃ o u, H b = some (.frz o u)
theorem zdz (vs : List Value) : zm0 { cls := .type "list", data := .seq vs.toArray } = some (.frz { cls := .type "list", data := .seq vs.toArray } (.lst (vs.map toV))) := by
  show (if (Value.type "list" == Value.type "list") = true then some (HO.frz { cls := .type "list", data := .seq vs.toArray } (.lst (vs.toArray.toList.map toV))) else some (HO.frz { cls := .type "list", data := .seq vs.toArray } (.tup (vs.toArray.toList.map toV)))) = _
  rw [if_pos (beq_self_eq_true _)]
theorem zdb (vs : List Value) : zm0 { cls := .type "tuple", data := .seq vs.toArray } = some (.frz { cls := .type "tuple", data := .seq vs.toArray } (.tup (vs.map toV))) := by
  show (if (Value.type "tuple" == Value.type "list") = true then some (HO.frz { cls := .type "tuple", data := .seq vs.toArray } (.lst (vs.toArray.toList.map toV))) else some (HO.frz { cls := .type "tuple", data := .seq vs.toArray } (.tup (vs.toArray.toList.map toV)))) = _
  rw [if_neg (by decide)]
section
variable {P : Program} {w : World} {K : PySem.W.Frag} {h : Heap} {A : List Addr}
theorem zaz {b : Addr} {o : Obj} (hb : b ∈ A) (hk : K.lookup b = none) (e : h.get? b = some o) : wL K h A b = zm0 o := by
  unfold wL
  rw [if_pos hb, hk, if_pos (show (none : Option Obj).isNone = true from rfl), e] <;> rfl
theorem zjN {b : Addr} {u : HO} (q : wL K h A b = some u) : b ∈ A /\ K.lookup b = none := by
  unfold wL at q
  by_cases hb : b ∈ A
  . rw [if_pos hb] at q
    cases hk : K.lookup b with
    | none => exact ⟨hb, rfl⟩
    | some o =>
      rw [hk, if_neg (by simp)] at q
      cases q
  . rw [if_neg hb] at q
    cases q
theorem ww (ar : ∀ a ∈ A, jY h A a) {b : Addr} {u : HO} (q : wL K h A b = some u) : K.lookup b = none /\ ∃ vs : List Value, vs.length <= sizeLine /\ (∀ u ∈ vs, OkU A u) /\
    ((h.get? b = some { cls := .type "list", data := .seq vs.toArray } /\ u = .frz { cls := .type "list", data := .seq vs.toArray } (.lst (vs.map toV))) \/
     (h.get? b = some { cls := .type "tuple", data := .seq vs.toArray } /\ u = .frz { cls := .type "tuple", data := .seq vs.toArray } (.tup (vs.map toV)))) := by
  obtain ⟨hb, hk⟩ := zjN q
  obtain ⟨vs, h1, h2, h3⟩ := ar b hb
  refine ⟨hk, vs, h1, h2, ?_⟩
  rcases h3 with e | e
  . rw [zaz hb hk e, zdz] at q
    exact .inl ⟨e, (Option.some.inj q).symm⟩
  . rw [zaz hb hk e, zdb] at q
    exact .inr ⟨e, (Option.some.inj q).symm⟩
theorem zfe (ar : ∀ a ∈ A, jY h A a) : zeq (wL K h A) := fun b => by
  cases q : wL K h A b with
  | none => exact .inl rfl
  | some u =>
    obtain ⟨_, vs, _, _, ⟨_, e⟩ | ⟨_, e⟩⟩ := ww ar q
    . exact .inr ⟨_, _, by rw [e]⟩
    . exact .inr ⟨_, _, by rw [e]⟩
theorem zkK (ar : ∀ a ∈ A, jY h A a) : HOk P w (wL K h A) h := fun b u q => by
  obtain ⟨_, vs, h1, h2, ⟨e, rfl⟩ | ⟨e, rfl⟩⟩ := ww ar q
  . exact ⟨e, by rw [List.length_map]; exact h1, vs, _, qt h2, e⟩
  . exact ⟨e, by rw [List.length_map]; exact h1, vs, qt h2, _, e, rfl, _, rfl⟩
theorem wV {c c' : Value} {vs us : List Value} (e : (some { cls := c, data := .seq vs.toArray } : Option Obj) = some { cls := c', data := .seq us.toArray }) : c = c' /\ vs = us := by
  have e1 := Option.some.inj e
  have e2 : c = c' := congrArg Obj.cls e1
  have e3 : Data.seq vs.toArray = Data.seq us.toArray := congrArg Obj.data e1
  injection e3 with e4
  refine ⟨e2, ?_⟩
  have e5 := congrArg Array.toList e4
  simpa using e5
theorem zn1 (KX : K.In h) (ar : ∀ a ∈ A, jY h A a) {a : Addr} {vs : List Value} (ha : a ∈ A) (e : h.get? a = some { cls := .type "list", data := .seq vs.toArray }) : (∀ u ∈ vs, OkU A u) /\ SqL K (wL K h A) a (vs.map toV) := by
  obtain ⟨us, h1, h2, h3⟩ := ar a ha
  have hu : us = vs := by
    rcases h3 with q | q
    . rw [e] at q
      exact (wV q).2.symm
    . rw [e] at q
      exact absurd (Value.type.inj (wV q).1) (by decide)
  subst hu
  refine ⟨h2, ?_⟩
  cases hk : K.lookup a with
  | none => exact .inl (.inr ⟨_, by rw [zaz ha hk e, zdz]⟩)
  | some o =>
    have e2 := KX a o hk
    rw [e] at e2
    obtain rfl := Option.some.inj e2
    exact .inr ⟨_, us.toArray, _, hk, rfl, rfl, rfl, by rw [List.size_toArray]; exact h1, by simpa using qt h2⟩
theorem zn6 (KX : K.In h) (ar : ∀ a ∈ A, jY h A a) {a : Addr} {vs : List Value} (ha : a ∈ A) (e : h.get? a = some { cls := .type "tuple", data := .seq vs.toArray }) : (∀ u ∈ vs, OkU A u) /\ SqT K (wL K h A) a (vs.map toV) := by
  obtain ⟨us, h1, h2, h3⟩ := ar a ha
  have hu : us = vs := by
    rcases h3 with q | q
    . rw [e] at q
      exact absurd (Value.type.inj (wV q).1) (by decide)
    . rw [e] at q
      exact (wV q).2.symm
  subst hu
  refine ⟨h2, ?_⟩
  cases hk : K.lookup a with
  | none => exact .inl (.inr ⟨_, by rw [zaz ha hk e, zdb]⟩)
  | some o =>
    have e2 := KX a o hk
    rw [e] at e2
    obtain rfl := Option.some.inj e2
    exact .inr ⟨_, us.toArray, _, hk, rfl, rfl, by rw [List.size_toArray]; exact h1, by simpa using qt h2⟩
mutual
theorem zmj {Pm : Params} (KX : K.In h) (ar : ∀ a ∈ A, jY h A a) : ∀ (d : WData) (v : Value), Well Pm h v d -> plW d = true -> OkU A v -> Dw K (wL K h A) (toV v) d
  | .none, _, x, _, _ => by
    cases x
    exact .non
  | .bool b, _, x, _, _ => by
    cases x
    exact .bl b
  | .int i, _, x, _, _ => by
    cases x
    exact .int i
  | .str s, _, x, _, _ => by
    cases x
    exact .str s
  | .bytes b, _, x, _, _ => by
    cases x
    have z := Dw.byt (K := K) (H := wL K h A) b.toArray
    exact z
  | .list ds, _, x, p, hu => by
    obtain ⟨a, vs, rfl, ho, hall⟩ := zbk x
    obtain ⟨h2, hs⟩ := zn1 KX ar hu ho
    exact .lst hs (zc4 KX ar ds _ hall p h2)
  | .tuple ds, _, x, p, hu => by
    obtain ⟨a, vs, rfl, ho, hall⟩ := vJ x
    obtain ⟨h2, hs⟩ := zn6 KX ar hu ho
    exact .tup hs (zc4 KX ar ds _ hall p h2)
  | .float _, _, _, p, _ => Bool.noConfusion (show false = true from p)
  | .dict _, _, _, p, _ => Bool.noConfusion (show false = true from p)
  | .bytearray _, _, _, p, _ => Bool.noConfusion (show false = true from p)
  | .set _, _, _, p, _ => Bool.noConfusion (show false = true from p)
  | .frozenset _, _, _, p, _ => Bool.noConfusion (show false = true from p)
  | .obj _ _, _, _, p, _ => Bool.noConfusion (show false = true from p)
theorem zc4 {Pm : Params} (KX : K.In h) (ar : ∀ a ∈ A, jY h A a) : ∀ (ds : List WData) (vs : List Value), WellAll Pm h vs ds -> zeC ds = true -> (∀ u ∈ vs, OkU A u) -> jB K (wL K h A) (vs.map toV) ds
  | [], _, x, _, _ => by
    cases x
    exact .nil
  | d :: ds, _, x, p, hu => by
    obtain ⟨v, vs, rfl, x1, x2⟩ := zbx x
    have q : plW d = true /\ zeC ds = true := Bool.and_eq_true_iff.mp p
    exact .cons (zmj KX ar d v x1 q.1 (hu _ (List.mem_cons_self ..))) (zc4 KX ar ds vs x2 q.2 fun u m => hu u (List.mem_cons_of_mem _ m))
end
end
theorem zeH {P : Program} {w : World} {K : PySem.W.Frag} {mg mb : Str -> Option Value} {CX : CXT} {k : Nat} {fa : Addr} {fd : FuncData} {ps : List Str} {sp : Sp} {s₁ : Shared} {vals : List Value} {ds : List WData} {R : PySem.W.WRecords} {cl : Str -> Option Addr} {d0 : WData}
    (KX : K.In s₁.heap) (hns : s₁.heap.Ns mainGlobals mg) (hb : s₁.heap.Ns builtinsNs mb) (hbb : ∀ x : Str, x ≠ "__name__" -> mb x = bootBuiltins x) (hlim : s₁.heap.NoLimit) (hg : s₁.gens = #[])
    (hwl : WellAll w.params s₁.heap vals ds) (hpl : zeC ds = true) (hwt : ∀ d ∈ ds, d.weight <= 1048576) (hr : yC k callerA)
    (F : ∀ base : Heap, K.In base -> base.Ns mainGlobals mg -> z0 P w K mg base CX k fa fd ps sp) (hbind : ∀ (s : Shared) (us : List Value), us.length = ps.length -> BindsTo s fd ⟨us, []⟩ (ps.zip us)) (hlen : ds.length = ps.length)
    (hsp : ∀ (H : Hp) (xs : List V), zeq H -> jB K H xs ds -> sp xs H (fun v H' => Dw K H' v d0) fun _ _ _ => False)
    (hCX : ∀ H e s', CX [] H s₁ (fun _ _ _ => False) e s' -> False) :
    codeAny (model P w) callerA (.call (.ref fa) ⟨vals, []⟩) (fun r s' => ∃ u as, r = .ok (.ret u) /\ ReadsW R cl s'.heap u d0 as /\ OldK s₁.heap s'.heap /\ s'.os = s₁.os /\ AllBare s'.gens) s₁ := by
  obtain ⟨A, ho, ar⟩ := kh ds vals hwl hpl hwt
  have hO : zeq (wL K s₁.heap A) := zfe ar
  have hok : HOk P w (wL K s₁.heap A) s₁.heap := zkK ar
  have hS := zc4 KX ar ds vals hwl hpl ho
  have hV := qt ho
  have hK : ∀ b u, wL K s₁.heap A b = some u -> K.lookup b = none := fun b u q => (ww ar q).1
  have noA : ∀ {b : Addr} {o : Obj} {es : Array DictEntry} {ep : Nat}, s₁.heap.get? b = some o -> o.data = .dict es ep -> wL K s₁.heap A b = none := fun {b o es ep} e d => by
    cases q : wL K s₁.heap A b with
    | none => rfl
    | some u =>
      obtain ⟨_, vs, _, _, ⟨e2, _⟩ | ⟨e2, _⟩⟩ := ww ar q
      . rw [e2] at e
        cases e
        have d' : Data.seq vs.toArray _ = Data.dict es ep := d
        cases d'
      . rw [e2] at e
        cases e
        have d' : Data.seq vs.toArray _ = Data.dict es ep := d
        cases d'
  generalize wL K s₁.heap A = H at hO hok hS hK noA
  have base_of : ∀ {b : Addr} {o : Obj}, s₁.heap.get? b = some o -> H b = none -> (zhW s₁.heap H).get? b = some o := fun e n => ziR e n
  have nsK : ∀ {b : Addr} {m : Str -> Option Value}, s₁.heap.Ns b m -> (zhW s₁.heap H).Ns b m := fun {b m} ⟨o, es, ep, e, d, r⟩ => ⟨o, es, ep, base_of e (noA e d), d, r⟩
  have nK : ∀ b o, K.lookup b = some o -> H b = none := fun b o e => by
    cases q : H b with
    | none => rfl
    | some u =>
      rw [hK b u q] at e
      cases e
  have hKb : K.In (zhW s₁.heap H) := fun b o e => base_of (KX b o e) (nK b o e)
  have hM : Mod K mg (zhW s₁.heap H) := ⟨hKb, nsK hns, ⟨mb, nsK hb, hbb⟩, let ⟨mc, h1, h2⟩ := hlim; ⟨mc, nsK h1, h2⟩⟩
  have e0 : zjV P w K mg (zhW s₁.heap H) callerA [] s₁ H := ⟨rfl, hM, fun b o e => zlI e, Nat.le_of_eq (ze2 _ _), trivial, fun b hb => absurd (show b ∈ ([] : List Addr) from hb) (by simp), hok, .of_eq hg⟩
  have hl : vals.length = ps.length := by rw [xH hwl]; exact hlen
  refine codeAny_mono ((F _ hKb (nsK hns)).run callerA [] s₁ H ⟨vals, []⟩ vals (vals.map toV) _ _ hr e0 (hbind s₁ vals hl) hV (hsp H _ hO hS)) fun r s' x => ?_
  cases r with
  | error e => exact (hCX H e s' x).elim
  | ok fl =>
    cases fl with
    | next => exact False.elim x
    | brk => exact False.elim x
    | cont => exact False.elim x
    | ret u =>
      obtain ⟨v, H', os, bare, un, hok', r', q⟩ := x
      have kept : ∀ b o, s₁.heap.get? b = some o -> s'.heap.get? b = some o := fun b o e => by
        cases q2 : H b with
        | none => exact un.keep b o e q2 (by intro z; exact absurd (show b ∈ ([] : List Addr) from z) (by simp)) (by simp)
        | some u2 =>
          rcases hO b with z | ⟨ob, u3, z⟩
          . rw [q2] at z
            cases z
          . have z2 := un.frzs b ob _ z
            obtain ⟨e1, _⟩ := hok b _ z
            obtain ⟨e2, _⟩ := hok' b _ z2
            rw [e] at e1
            cases e1
            exact e2
      have KX' : K.In s'.heap := fun b o e => kept b o (KX b o e)
      obtain ⟨as, hrd⟩ := Dw.reads (R := R) (cl := cl) hok' KX' d0 v u q r'
      exact ⟨u, as, rfl, hrd, OldK.of_keep kept, os, bare⟩
theorem vA {ds : List WData} (h : WData.layableAll ds = true) : ∀ d ∈ ds, d.weight <= 1048576 := fun d hd =>
  (PySem.W.layableW_iff.mp (List.all_eq_true.mp h d hd)).2.2
theorem vL : ∀ (cs : List Codec) (a : Codec.denoteAll cs), (Codec.encAll cs a).length = cs.length
  | [], _ => rfl
  | c :: cs, a => by
    show (Codec.encAll cs a.2).length + 1 = cs.length + 1
    rw [vL cs a.2]
theorem zgN {r : OpenSpec} {k : Nat} {q : Program} {loose : List Str} {XP : (Str -> Option Value) -> Heap -> Prop} {YP : World -> Heap -> Prop} {d : DefRec} {K : Params -> PySem.W.Frag} {CX : World -> CXT} {ps : List Str} {sp : World -> Sp}
    (hwell : r.wellSaid = true) (hdf : d.params.defaults = []) (hlen : r.args.length = ps.length) (hr : yC k callerA)
    (hY : ∀ (w : World) (h : Heap), YP w h -> (K w.params).In h)
    (F : ∀ (w : World) (mg : Str -> Option Value) (fa : Addr) (h : Heap), YP w h -> (K w.params).In h -> h.Ns mainGlobals mg -> mg d.name = some (.ref fa) ->
      ∃ fd : FuncData, (∀ (s : Shared) (us : List Value), us.length = ps.length -> BindsTo s fd ⟨us, []⟩ (ps.zip us)) /\
        ∀ base : Heap, (K w.params).In base -> base.Ns mainGlobals mg -> z0 r.prog w (K w.params) mg base (CX w) k fa fd ps (sp w))
    (hsp : ∀ (w : World) (H : Hp) (xs : List V) (a : Codec.denoteAll r.args), zeq H -> Codec.withinAll r.args a = true -> Codec.app r.args r.asked a = true -> jB (K w.params) H xs (Codec.encAll r.args a) ->
      sp w xs H (fun v H' => Dw (K w.params) H' v (r.ret.enc (Codec.app r.args r.f a))) fun _ _ _ => False)
    (hCX : ∀ (w : World) (H : Hp) (s : Shared) (e : Value) (s' : Shared), CX w [] H s (fun _ _ _ => False) e s' -> False) :
    PySem.W.WalkOS q loose XP YP r d [] (fun f vs => PySem.call f vs) := by
  intro w s_0 s₁ mg mb G Y fa o pm cd doc dV kV ho hd hcd hD hmg hg args vals as hpre hlay hrd hwl hlo
  obtain ⟨a, e1, e2⟩ := PySem.W.os_pre_some hpre
  obtain ⟨e3, hwi⟩ := Codec.encAll_of_decAll r.args args a e1
  subst e3
  have KX := hY w _ Y
  obtain ⟨fd, hb, hF⟩ := F w mg fa _ Y KX G.T.g hmg
  refine PySem.W.enter_call (codeAny_mono (zeH (R := []) (cl := classAt s_0.heap) (d0 := r.ret.enc (Codec.app r.args r.f a)) KX G.T.g G.T.b G.T.builtins G.T.nolimit hg hwl (zaM _ _) (vA hlay) hr hF hb (by rw [vL]; exact hlen)
    (fun H xs hO hS => hsp w H xs a hO hwi e2 hS) fun H e s' => hCX w H s₁ e s') fun r' s' hq => ?_)
  obtain ⟨u, as', rfl, h1, h2, h3, h4⟩ := hq
  exact ⟨.inl ⟨u, _, as', rfl, fun _ => rfl, h1, (OpenSpec.post_iff hwell hwi _ _).mpr rfl, fun z => Bool.noConfusion (show false = true from z)⟩, h2, h3, h4⟩
end L2
end
local macro_rules | `(tactic| trivial) => `(tactic| exact ⟨rfl, rfl, rfl, by decide +kernel, rfl, by decide +kernel, by decide +kernel⟩)
section
namespace Lk
open PySem PySem.Spec PyProof.Rows L2
open Sn15 (D bits bitsOf symbol Code Px)
structure Ad where
  CN : Addr
  CT : Addr
  CB : Addr
  CV : Addr
  CC : Addr
  CS : Addr
  CG : Addr
  CR : Addr
  CO : Addr
  CP : Addr
  CK : Addr
  CE : Addr
  CD : Addr
  CF : Addr
  CH : Addr
  CA : Addr
abbrev nat (n : Nat) : V := V.int (n : Int)
def zm (l : List Nat) : List V := l.map nat
theorem zo (l : List Nat) : (zm l).length = l.length := by unfold zm; simp
theorem yj {l : List Nat} {i n : Nat} (h : l[i]? = some n) : (zm l)[i]? = some (nat n) := by
  unfold zm
  rw [List.getElem?_map, h]
  rfl
theorem yw (l m : List Nat) : zm (l ++ m) = zm l ++ zm m := by unfold zm; simp
theorem kZ (l : List Nat) (i n : Nat) : zm (l.set i n) = (zm l).set i (nat n) := by unfold zm; simp [List.map_set]
theorem zT {f : Str} {v : V} {r : List (Str × V)} : ((f, v) :: r).lookup f = some v := by simp [List.lookup]
theorem zu {f g : Str} {v : V} {r : List (Str × V)} (h : (f == g) = false) : ((g, v) :: r).lookup f = r.lookup f := by simp [List.lookup, h]
theorem zgh {f : Str} {v x : V} {r : List (Str × V)} : j1 f v ((f, x) :: r) = (f, v) :: r := by simp [j1]
theorem zkc {f g : Str} {v x : V} {r : List (Str × V)} (h : ¬ g = f) : j1 f v ((g, x) :: r) = (g, x) :: j1 f v r := by simp [j1, h]
def zF (ps : List Addr) (H H' : Hp) : Prop := ∀ b o, H b = some o -> b ∉ ps -> H' b = some o
theorem zF.refl (ps : List Addr) (H : Hp) : zF ps H H := fun _ _ h _ => h
theorem zF.trans {ps : List Addr} {H H1 H2 : Hp} (a : zF ps H H1) (b : zF ps H1 H2) : zF ps H H2 := fun c o h n => b c o (a c o h n) n
theorem zF.mono {ps qs : List Addr} {H H1 : Hp} (a : zF ps H H1) (h : ∀ x ∈ ps, x ∈ qs) : zF qs H H1 := fun c o e n => a c o e fun z => n (h c z)
theorem zF.new {ps : List Addr} {H : Hp} {a : Addr} {o : HO} (h : H a = none) : zF ps H (upd H a o) := fun b u e _ => by rw [zk (zd e h)]; exact e
theorem zF.put {ps : List Addr} {H : Hp} {a : Addr} {o : HO} (h : a ∈ ps) : zF ps H (upd H a o) := fun b u e n => by
  have ne : b ≠ a := fun z => n (by rw [z]; exact h)
  rw [zk ne]; exact e
theorem zF.same {H H1 : Hp} (h : zN H H1) (ps : List Addr) : zF ps H H1 := fun b o e _ => h b o e
theorem zF.free {ps : List Addr} {H H1 : Hp} (h : zF ps H H1) {a : Addr} (n : H1 a = none) (hp : a ∉ ps) : H a = none := by
  cases q : H a with
  | none => rfl
  | some o => rw [h a o q hp] at n; cases n
structure Bi where
  p : Addr
  o : Addr
  oct : List Nat
def vb (o : Addr) (i e : Nat) : List (Str × V) := [("octets", .ref o), ("place", nat i), ("end", nat e)]
def zx (t : Ad) (H : Hp) (B : Bi) (bs : List Bool) : Prop := ∃ (dx : Addr) (i : Nat), H B.p = some (.ins t.CB dx (vb B.o i (8 * B.oct.length))) /\ H B.o = some (.lst (zm B.oct)) /\
  (∀ c ∈ B.oct, c < 256) /\ i <= 8 * B.oct.length /\ B.oct.length <= 100000 /\ bs = (bitsOf B.oct).drop i
theorem zkP (o : Addr) (i e : Nat) : (vb o i e).lookup ("octets" : Str) = some (.ref o) := zT
theorem ze8 (o : Addr) (i e : Nat) : (vb o i e).lookup ("place" : Str) = some (nat i) := (zu (by decide +kernel)).trans zT
theorem zg2 (o : Addr) (i e : Nat) : (vb o i e).lookup ("end" : Str) = some (nat e) := (zu (by decide +kernel)).trans ((zu (by decide +kernel)).trans zT)
theorem zhO (o : Addr) (i e : Nat) {m : Str} (h1 : (m == ("octets" : Str)) = false) (h2 : (m == ("place" : Str)) = false) (h3 : (m == ("end" : Str)) = false) : (vb o i e).lookup m = none :=
  (zu h1).trans ((zu h2).trans ((zu h3).trans rfl))
theorem zeU (o : Addr) (i j e : Nat) : j1 "place" (nat j) (vb o i e) = vb o j e := by
  unfold vb
  rw [zkc (by decide +kernel), zgh]
theorem zx.kept {t : Ad} {H H' : Hp} {B : Bi} {bs : List Bool} {ps : List Addr} (h : zx t H B bs) (k : zF ps H H') (h1 : B.p ∉ ps) (h2 : B.o ∉ ps) : zx t H' B bs := by
  obtain ⟨dx, i, e1, e2, r⟩ := h
  exact ⟨dx, i, k _ _ e1 h1, k _ _ e2 h2, r⟩
def Out {α : Type} (t : Ad) (E : XK) (B : Bi) (ps : List Addr) (H : Hp) (R : α -> V -> Hp -> Prop) (Q : VK) : Option (α × List Bool) -> Prop
  | none => ∀ H', E (.ref t.CN) none H'
  | some (a, bs') => ∀ v H', zx t H' B bs' -> zF (B.p :: ps) H H' -> R a v H' -> Q v H'
section
variable {α β : Type} {t : Ad} {E : XK} {B : Bi} {ps qs : List Addr} {H H' : Hp} {R : β -> V -> Hp -> Prop} {R1 : α -> V -> Hp -> Prop} {Q Q1 : VK} {bs bs' : List Bool}
theorem Out.shift {r : Option (β × List Bool)} (h : Out t E B ps H R Q r) (k : zF (B.p :: ps) H H') : Out t E B ps H' R Q r := by
  cases r with
  | none => exact h
  | some x => exact fun v H2 b k2 r => h v H2 b (k.trans k2) r
theorem zga {a : Addr} {ps qs : List Addr} (h : ∀ x ∈ qs, x ∈ ps) : ∀ x ∈ a :: qs, x ∈ a :: ps := fun x hx => by
  rcases List.mem_cons.mp hx with e | e
  . rw [e]; exact List.mem_cons_self
  . exact List.mem_cons_of_mem _ (h x e)
theorem Out.bind' {m : D α} {f : α -> D β} (h : Out t E B ps H R Q ((m >>= f) bs)) (hq : ∀ x ∈ qs, x ∈ ps)
    (k : ∀ a bs' v H', m bs = some (a, bs') -> zx t H' B bs' -> zF (B.p :: qs) H H' -> R1 a v H' -> Out t E B ps H' R Q (f a bs') -> Q1 v H') : Out t E B qs H R1 Q1 (m bs) := by
  rw [zJ] at h
  cases hm : m bs with
  | none => rw [hm] at h; exact h
  | some x =>
    rw [hm] at h
    obtain ⟨a, bs'⟩ := x
    exact fun v H' b kp r => k a bs' v H' hm b kp r (Out.shift h (kp.mono (zga hq)))
theorem Out.bind {m : D α} {f : α -> D β} (h : Out t E B ps H R Q ((m >>= f) bs))
    (k : ∀ a bs' v H', m bs = some (a, bs') -> zx t H' B bs' -> zF (B.p :: []) H H' -> R1 a v H' -> Out t E B ps H' R Q (f a bs') -> Q1 v H') : Out t E B [] H R1 Q1 (m bs) :=
  Out.bind' h (fun x hx => by cases hx) k
theorem Out.need {c : Bool} {f : Unit -> D β} (h : Out t E B ps H R Q ((Sn15.need c >>= f) bs)) : (c = true -> Out t E B ps H R Q (f () bs)) /\ (c = false -> ∀ H', E (.ref t.CN) none H') := by
  refine ⟨fun e => ?_, fun e => ?_⟩
  . subst e; rw [yl] at h; exact h
  . subst e; rw [yN] at h; exact h
theorem Out.pure {a : β} (h : Out t E B ps H R Q ((Pure.pure a : D β) bs)) (b : zx t H B bs) {v : V} (r : R a v H) : Q v H := h v H b (zF.refl _ _) r
theorem Out.pure' {a : β} (h : Out t E B ps H R Q ((Pure.pure a : D β) bs)) (b : zx t H' B bs) (k : zF (B.p :: ps) H H') {v : V} (r : R a v H') : Q v H' := h v H' b k r
theorem Out.imp {r : Option (α × List Bool)} (h : Out t E B ps H R1 Q r) {R2 : α -> V -> Hp -> Prop} (hr : ∀ a v H', R2 a v H' -> R1 a v H') : Out t E B ps H R2 Q r := by
  cases r with
  | none => exact h
  | some x => exact fun v H2 b k2 r => h v H2 b k2 (hr _ _ _ r)
end
def zcu : Nat -> V -> Hp -> Prop := fun n v _ => v = nat n
structure zB (P : Program) (w : World) (K : PySem.W.Frag) (mg : Str -> Option Value) (base : Heap) (k : Nat) (x : Str) (ps : List Str) (sp : Sp) : Prop where
  ex : ∃ f fd, z0 P w K mg base (CXe P w) k f fd ps sp /\ mg x = some (.ref f) /\ PySem.W.keepIn K (.ref f) = true /\ qL K fd ps []
structure zD (P : Program) (w : World) (K : PySem.W.Frag) (mg : Str -> Option Value) (base : Heap) (k : Nat) (C : Addr) (m : Str) (ps : List Str) (sp : Sp) : Prop where
  ex : ∃ f fd, z0 P w K mg base (CXe P w) k f fd ps sp /\ zmD K C m f /\ qL K fd ps []
structure yp (P : Program) (w : World) (K : PySem.W.Frag) (mg : Str -> Option Value) (base : Heap) (k : Nat) (C : Addr) (x : Str) (ps : List Str) (sp : Sp) : Prop where
  ex : ∃ f fd, z0 P w K mg base (CXe P w) k f fd ps sp /\ Mk K C f /\ qL K fd ps []
  nm : mg x = some (.ref C)
section
variable {X : Cx} {E : XK} {k : Nat} {x m : Str} {C : Addr} {ps : List Str} {sp : Sp} {p pos apos : Pos} {e o : Expr} {es : List Expr} {ta : TE} {ts : TA}
theorem pd (G : zB X.prog X.w X.K X.mg X.base k x ps sp) (L : Lv X E) (hr : yC k X.A) (ha : PA X (e :: es) ts) (hg : Gl X x := by rfl) (hdb : (x == ("__debug__" : Str)) = false := by decide)
    (he : starEach (e :: es) X.env = (false, eval e X.env) :: starEach es X.env := by rfl) (hpl : (backTo pos (starEach es X.env)).any (·.1) = false := by rfl) : PE X (.Call (.Name x p) (e :: es) [] pos) (zic sp [] E ts) := by
  obtain ⟨f, fd, F, hm, hk, hb⟩ := G.ex
  exact zb5 F hr hg hm hk hb .nil L.pass ha hdb he hpl
theorem pm (G : zD X.prog X.w X.K X.mg X.base k C m ps sp) (L : Lv X E) (c : Cls X.K C) (hr : yC k X.A) (ho : PE X o ta) (ha : PA X (e :: es) ts) {pl : Sem Bool}
    (hst : starEach (e :: es) X.env = (false, eval e X.env) :: starEach es X.env := by rfl) (hpl : (backTo pos (starEach es X.env)).any (·.1) = false := by rfl)
    (ht : eval (.Call (.Attribute o m apos) (e :: es) [] pos) X.env = (do
      let ov <- eval o X.env
      standAt apos.atName
      let (f, first) <- holding [ov] (getMethod ov m pl)
      callWith pos f first (backTo pos (starEach (e :: es) X.env)) (backToKw pos (keywordEach [] X.env))) := by rfl) : PE X (.Call (.Attribute o m apos) (e :: es) [] pos) (zh1 C m sp [] E ta ts) := by
  obtain ⟨f, fd, F, hm, hb⟩ := G.ex
  exact zlr ho c hm F hr hb .nil L.pass ha hst hpl ht
theorem pm0 (G : zD X.prog X.w X.K X.mg X.base k C m ps sp) (L : Lv X E) (c : Cls X.K C) (hr : yC k X.A) (ho : PE X o ta) {pl : Sem Bool}
    (ht : eval (.Call (.Attribute o m apos) [] [] pos) X.env = (do
      let ov <- eval o X.env
      standAt apos.atName
      let (f, first) <- holding [ov] (getMethod ov m pl)
      callWith pos f first (backTo pos (starEach [] X.env)) (backToKw pos (keywordEach [] X.env))) := by rfl) : PE X (.Call (.Attribute o m apos) [] [] pos) (zh1 C m sp [] E ta znL) := by
  obtain ⟨f, fd, F, hm, hb⟩ := G.ex
  exact zhM ho c hm F hr hb .nil L.pass ht
theorem pmk (G : yp X.prog X.w X.K X.mg X.base k C x ps sp) (L : Lv X E) (hr : yC (k + 1) X.A) (ha : PA X (e :: es) ts) (hg : Gl X x := by rfl) (hdb : (x == ("__debug__" : Str)) = false := by decide)
    (he : starEach (e :: es) X.env = (false, eval e X.env) :: starEach es X.env := by rfl) (hpl : (backTo pos (starEach es X.env)).any (·.1) = false := by rfl) : PE X (.Call (.Name x p) (e :: es) [] pos) (zlY C sp [] E ts) := by
  obtain ⟨f, fd, F, M, hb⟩ := G.ex
  exact zlF M F hr hg G.nm hb .nil L.pass ha hdb he hpl
end
end Lk
end
section
namespace Lk
open PySem PySem.Spec PyProof.Rows L2
open Sn15 (D bits bitsOf symbol Code Px)
def top (i : Nat) : Stmt := PySem.Challenge.pw_losslook_s02_read.main.body.getD i (.Pass ⟨0, 0, 0, 0⟩)
abbrev zfW : Stmt := zU (top 6) 0
abbrev zjW : Stmt := zU (top 6) 1
abbrev znj : Stmt := zU (top 6) 2
abbrev zcn : Stmt := zU (top 6) 3
structure Tx (K : PySem.W.Frag) (mg : Str -> Option Value) (t : Ad) : Prop where
  xN : PySem.W.excIn K t.CN zfK "Exception.__new__" = true
  gN : mg "NoSuchFile" = some (.ref t.CN)
  xT : PySem.W.excIn K t.CT zfK "Exception.__new__" = true
  gT : mg "TooLarge" = some (.ref t.CT)
  cB : Cls K t.CB
  nO : zX K t.CB "octets"
  nP : zX K t.CB "place"
  nE : zX K t.CB "end"
  cV : Cls K t.CV
  vW : zX K t.CV "width"
  vS : zX K t.CV "size"
  vC : zX K t.CV "colours"
  vD : zX K t.CV "depth"
  vH : zX K t.CV "cache"
  cC : Cls K t.CC
  nW : zX K t.CC "words"
  nS : zX K t.CC "sole"
  cS : Cls K t.CS
  sS : zX K t.CS "shift"
  sA : zX K t.CS "across"
  sC : zX K t.CS "colours"
  cG : Cls K t.CG
  gS : zX K t.CG "squares"
  gG : zX K t.CG "groups"
  len : mg "len" = none
  range : mg "range" = none
  max : mg "max" = none
  min : mg "min" = none
  sum : mg "sum" = none
  enum : mg "enumerate" = none
  ord : mg "ord" = none
  kSPREAD : ∃ u, mg "SPREAD" = some u /\ yq (.int 506832829) u
  kLOW : ∃ u, mg "LOW_32" = some u /\ yq (.int 4294967295) u
  kLONGEST : ∃ u, mg "LONGEST" = some u /\ yq (.int 15) u
  kFIRST : ∃ u, mg "FIRST" = some u /\ yq (.int 0) u
  kRED : ∃ u, mg "RED" = some u /\ yq (.int 1) u
  kBLUE : ∃ u, mg "BLUE" = some u /\ yq (.int 2) u
  kALPHA : ∃ u, mg "ALPHA" = some u /\ yq (.int 3) u
  kDISTANCE : ∃ u, mg "DISTANCE" = some u /\ yq (.int 4) u
  kORDER : ∃ a, mg "LENGTH_SYMBOLS" = some (.ref a) /\ ∀ H, SqT K H a (zm Sn15.ORDER)
  kNEAR : ∃ (a : Addr) (as : List Addr), mg "NEAR" = some (.ref a) /\ (∀ H, SqT K H a (as.map V.ref)) /\ as.length = 120 /\
    ∀ (i : Nat) (b : Addr), as[i]? = some b -> ∃ x y : Int, Sn15.NEAR[i]? = some (x, y) /\ ∀ H, SqT K H b [.int x, .int y]
theorem xK (a b : Nat) : Builtin.bitOr (a : Int) (b : Int) = ((a ||| b : Nat) : Int) := by
  have h1 : ¬ (0 : Int) <= Builtin.bitNot (a : Int) := by unfold Builtin.bitNot; omega
  have h2 : ¬ (0 : Int) <= Builtin.bitNot (b : Int) := by unfold Builtin.bitNot; omega
  have e : ∀ z : Int, Builtin.bitNot (Builtin.bitNot z) = z := fun z => by unfold Builtin.bitNot; omega
  unfold Builtin.bitOr Builtin.bitAnd
  rw [decide_eq_false h1, decide_eq_false h2]
  simp only [e]
  rfl
theorem wY {x y k : Nat} (h : x < 2 ^ k) : Builtin.bitOr (x : Int) ((y * 2 ^ k : Nat) : Int) = ((x + y * 2 ^ k : Nat) : Int) := by
  rw [xK, Nat.or_comm, Nat.mul_comm y, <- Nat.two_pow_add_eq_or_of_lt h, Nat.add_comm]
theorem ka {x y k : Nat} (h : x < 2 ^ k) : Builtin.bitOr ((y * 2 ^ k : Nat) : Int) (x : Int) = ((y * 2 ^ k + x : Nat) : Int) := by
  rw [xK, Nat.mul_comm y, <- Nat.two_pow_add_eq_or_of_lt h]
theorem two_pow_int (k : Nat) : (2 : Int) ^ k = ((2 ^ k : Nat) : Int) := by simp
theorem zkl (c i : Nat) : Builtin.bitAnd ((c : Int) / 2 ^ (Builtin.bitAnd (i : Int) 7).toNat) 1 = ((b2n (c.testBit (i % 8)) : Nat) : Int) := by
  have e : (Builtin.bitAnd (i : Int) 7).toNat = i % 8 := by rw [bitAnd_m3]; omega
  rw [e, bitAnd_m1, zh6, two_pow_int, <- Int.natCast_ediv]
  omega
theorem wg {o : Addr} {e : Nat} (i : Nat) : j1 "place" (.int ((i : Int) + 1)) (vb o i e) = vb o (i + 1) e := by
  have h := zeU o i (i + 1) e
  rw [<- h]
  rfl
section
variable {P : Program} {w : World} {K : PySem.W.Frag} {mg : Str -> Option Value} {base : Heap} {t : Ad}
def zb4 (t : Ad) : Sp := fun vs H Q _ => ∃ (p o dx : Addr) (oct : List Nat), vs = [.ref p, .ref o] /\ H p = some (.ins t.CB dx []) /\ H o = some (.lst (zm oct)) /\ (∀ c ∈ oct, c < 256) /\ oct.length <= 100000 /\
  ∀ H', zx t H' ⟨p, o, oct⟩ (bitsOf oct) -> zF [p] H H' -> Q .non H'
theorem zj2 : zn ["self", "octets"] ["self", "octets"] (zi zfW) := by trivial
theorem zhB {f : Addr} {fd : FuncData} (F : Fun K "__init__" "Bits.__init__" zfW f fd) (T : Tx K mg t) : z0 P w K mg base (CXe P w) 1 f fd ["self", "octets"] (zb4 t) := by
  refine F.okE zj2 (fun vs H Q E h => ?_) (fun cdv A outer s H vs Q E hr h => ?_)
  . obtain ⟨p, o, dx, oct, rfl, _⟩ := h
    rfl
  . obtain ⟨p, o, dx, oct, rfl, hp, ho, hb, hl, k⟩ := h
    have ne : o ≠ p := y6 ho hp (by intro z; cases z)
    refine ⟨_, zb (z9 (pv 0) (pv 1) rfl) (zb (z9 (pv 0) zg rfl) (zf (z9 (pv 0) (zl xA zg (zG zC (by rfl) T.len PySem.boot_len (za (pv 1) ze))) rfl))), ?_⟩
    refine ⟨_, rfl, _, rfl, p, t.CB, dx, _, rfl, hp, T.cB, T.nO, (by show 0 < 1000; decide), ?_⟩
    refine ⟨_, rfl, p, t.CB, dx, _, rfl, zc, T.cB, T.nP, (by show 1 < 1000; decide), ?_⟩
    refine ⟨_, rfl, o, _, rfl, .inl (SqL.of (by rw [zk ne, zk ne]; exact ho)), _, _, rfl, rfl, .inl ⟨by decide, by decide⟩, _, rfl, p, t.CB, dx, _, rfl, zc, T.cB, T.nE, (by show 2 < 1000; decide), ?_⟩
    refine k _ ⟨dx, 0, ?_, ?_, hb, Nat.zero_le _, hl, rfl⟩ ?_
    . rw [zc, zo]
      rfl
    . rw [zk ne, zk ne, zk ne]; exact ho
    . exact ((zF.put (by simp)).trans (zF.put (by simp))).trans (zF.put (by simp))
def zeE (t : Ad) : Sp := fun vs H Q _ => ∃ (B : Bi) (bs : List Bool), vs = [.ref B.p] /\ zx t H B bs /\ Q (nat bs.length) H
theorem zmA : zn ["self"] ["self"] (zi zjW) := by trivial
theorem zlz {f : Addr} {fd : FuncData} (F : Fun K "left" "Bits.left" zjW f fd) (T : Tx K mg t) : z0 P w K mg base (CXe P w) 1 f fd ["self"] (zeE t) := by
  refine F.okE zmA (fun vs H Q E h => ?_) (fun cdv A outer s H vs Q E hr h => ?_)
  . obtain ⟨B, bs, rfl, _⟩ := h
    rfl
  . obtain ⟨B, bs, rfl, ⟨dx, i, h1, h2, h3, h4, h5, rfl⟩, k⟩ := h
    refine ⟨_, zf (zr (zl yA (zy (pv 0) rfl) (zy (pv 0) rfl))), ?_⟩
    refine ⟨_, rfl, B.p, t.CB, dx, _, _, rfl, h1, T.cB, T.nE, zg2 _ _ _, _, rfl, B.p, t.CB, dx, _, _, rfl, h1, T.cB, T.nP, ze8 _ _ _, _, _, rfl, rfl, ?_⟩
    rw [List.length_drop, qz] at k
    show Q (.int (((8 * B.oct.length : Nat) : Int) - ((i : Nat) : Int))) H
    rw [<- Int.ofNat_sub h4]
    exact k
def vt (t : Ad) : Sp := fun vs H Q E => ∃ (B : Bi) (bs : List Bool), vs = [.ref B.p] /\ zx t H B bs /\ Out t E B [] H zcu Q (bits 1 bs)
theorem zmS : zn ["self", "place"] ["self"] (zi znj) := by trivial
theorem zmp {f : Addr} {fd : FuncData} (F : Fun K "bit" "Bits.bit" znj f fd) (T : Tx K mg t) : z0 P w K mg base (CXe P w) 1 f fd ["self"] (vt t) := by
  refine F.okE zmS (fun vs H Q E h => ?_) (fun cdv A outer s H vs Q E hr h => ?_)
  . obtain ⟨B, bs, rfl, _⟩ := h
    rfl
  . obtain ⟨B, bs, rfl, ⟨dx, i, h1, h2, h3, h4, h5, rfl⟩, k⟩ := h
    have ne : B.o ≠ B.p := y6 h2 h1 (by intro z; cases z)
    refine ⟨_, zb (zp (i := 1) zmS.nd rfl (Or.inl rfl) (zy (pv 0) rfl))
      (zb (yh (zw xY (pv 1) (zy (pv 0) rfl) (zE _)) (zf (z7 Lv.of (by rfl) T.gN T.xN)) zI)
      (zb (z9 (pv 0) (zl zL (pv 1) zg) rfl)
      (zf (zr (zl zW (zl ya (yu zP (zy (pv 0) rfl) (zl ya (pv 1) zg) (fun _ _ => rfl)) (zl zW (pv 1) zg)) zg))))), ?_⟩
    refine ⟨_, rfl, B.p, t.CB, dx, _, _, rfl, h1, T.cB, T.nP, ze8 _ _ _, ?_⟩
    refine ⟨_, rfl, _, rfl, B.p, t.CB, dx, _, _, rfl, h1, T.cB, T.nE, zg2 _ _ _, rfl, _, rfl, yG (fun e => ?_) (fun e => ?_)⟩
    . have e' : (i : Int) = ((8 * B.oct.length : Nat) : Int) := V.int.inj (of_decide_eq_true e)
      have hi : i = 8 * B.oct.length := by omega
      rw [List.drop_eq_nil_of_le (by rw [qz]; omega), zjR] at k
      exact k H
    . have e' : ¬ (nat i = nat (8 * B.oct.length)) := fun z => e (decide_eq_true z)
      have hi : i < 8 * B.oct.length := by
        rcases Nat.lt_or_eq_of_le h4 with z | z
        . exact z
        . exact absurd (by rw [z]) e'
      obtain ⟨c, hc, hd⟩ := zgR hi
      rw [hd, zc1] at k
      refine ⟨_, rfl, _, _, rfl, rfl, _, rfl, B.p, t.CB, dx, _, rfl, h1, T.cB, T.nP, (by show 3 < 1000; decide), ?_⟩
      refine ⟨_, rfl, B.p, t.CB, dx, _, _, rfl, zc, T.cB, T.nO, ?_, _, rfl, _, _, rfl, rfl, (by show (0 : Int) <= 3; decide), B.o, _, _, nat c, rfl, rfl, SqL.of (by rw [zk ne]; exact h2), yB (j := i / 8) ?_ (yj hc),
        _, rfl, _, _, rfl, rfl, _, _, rfl, rfl, ?_, _, _, rfl, rfl, ?_⟩
      . rw [wg i]; exact zkP _ _ _
      . show (i : Int) / 2 ^ 3 = ((i / 8 : Nat) : Int)
        omega
      . show (0 : Int) <= Builtin.bitAnd (i : Int) 7
        rw [bitAnd_m3]; omega
      . show Q (.int (Builtin.bitAnd ((c : Int) / 2 ^ (Builtin.bitAnd (i : Int) 7).toNat) 1)) _
        rw [zkl]
        refine k _ _ ⟨dx, i + 1, ?_, by rw [zk ne]; exact h2, h3, hi, h5, rfl⟩ (zF.put (by simp)) rfl
        rw [zc, wg i]
theorem zeM {n : Nat} {bs : List Bool} (h : n <= bs.length) : bits n bs = some (val (bs.take n), bs.drop n) := by rw [ki, if_pos h]
theorem zaW {n : Nat} {bs : List Bool} (h : bs.length < n) : bits n bs = none := by rw [ki, if_neg (by omega)]
theorem zx.meth {H : Hp} {B : Bi} {bs : List Bool} (h : zx t H B bs) {m : Str} (h1 : (m == ("octets" : Str)) = false := by decide +kernel) (h2 : (m == ("place" : Str)) = false := by decide +kernel) (h3 : (m == ("end" : Str)) = false := by decide +kernel) :
    ∃ dx fs, H B.p = some (.ins t.CB dx fs) /\ fs.lookup m = none := by
  obtain ⟨dx, i, e, _⟩ := h
  exact ⟨dx, _, e, zhO _ _ _ h1 h2 h3⟩
def yK (t : Ad) : Sp := fun vs H Q E => ∃ (B : Bi) (bs : List Bool) (n : Nat), vs = [.ref B.p, nat n] /\ n <= 1000 /\ zx t H B bs /\ Out t E B [] H zcu Q (bits n bs)
theorem ke : zn ["self", "width", "answer", "k"] ["self", "width"] (zi zcn) := by trivial
theorem zgI {f : Addr} {fd : FuncData} (F : Fun K "number" "Bits.number" zcn f fd) (T : Tx K mg t) (G : zD P w K mg base 1 t.CB "bit" ["self"] (vt t)) : z0 P w K mg base (CXe P w) 2 f fd ["self", "width"] (yK t) := by
  refine F.okE ke (fun vs H Q E h => ?_) (fun cdv A outer s H vs Q E hr h => ?_)
  . obtain ⟨B, bs, n, rfl, _⟩ := h
    rfl
  . obtain ⟨B, bs, n, rfl, hn, hb, k⟩ := h
    refine ⟨_, zb (zp (i := 2) ke.nd rfl (Or.inl rfl) zg)
      (zb (yV Lv.of.own rfl (ql rfl T.range (za (pv 1) ze)) (z6 (i := 3) ke.nd rfl (Or.inl rfl))
        (zf (zba (i := 2) ke.nd rfl (Or.inl rfl) (zl yT (pm0 G Lv.of T.cB hr (pv 0)) (pv 3)) zfU)))
      (zf (zr (pv 2)))), ?_⟩
    refine ⟨_, rfl, (n : Int), rfl, by omega, by omega, y2 (n := n) (lo := 0) (fun i σ H' => ∃ v3 : Option V, σ = [some (.ref B.p), some (nat n), some (nat (val (bs.take i))), v3] /\ i <= bs.length /\ zx t H' B (bs.drop i) /\ zF [B.p] H H')
      ⟨none, rfl, Nat.zero_le _, hb, zF.refl _ _⟩ ?_ ?_⟩
    . rintro i σ H' hi ⟨v3, rfl, hl, hb', kp⟩
      obtain ⟨dx, fs, e1, e2⟩ := hb'.meth (m := "bit")
      refine ⟨_, rfl, _, rfl, B.p, dx, fs, rfl, e1, e2, B, bs.drop i, rfl, hb', ?_⟩
      by_cases hlt : i < bs.length
      . have e : bits 1 (bs.drop i) = some (b2n bs[i], bs.drop (i + 1)) := by rw [List.drop_eq_getElem_cons hlt, zc1]
        rw [e]
        intro v H2 hb2 kp2 hv
        cases hv
        refine ⟨_, rfl, _, _, rfl, rfl, ⟨by omega, by omega, ?_⟩, _, _, rfl, rfl, ?_⟩
        . have := zjb bs[i]
          omega
        . refine ⟨some (.int (0 + (i : Int))), ?_, hlt, hb2, kp.trans kp2⟩
          have e : Builtin.bitOr ((val (bs.take i) : Nat) : Int) (((b2n bs[i] : Nat) : Int) * 2 ^ (0 + (i : Int)).toNat) = ((val (bs.take (i + 1)) : Nat) : Int) := by
            have e1 : (0 + (i : Int)).toNat = i := by omega
            have hv : val (bs.take i) < 2 ^ i := by
              have := zfk (bs.take i)
              rwa [List.length_take, Nat.min_eq_left (by omega)] at this
            rw [e1, List.take_succ_eq_append_getElem hlt, zdn, List.length_take, Nat.min_eq_left (by omega), <- wY hv]
            simp
          show [some (V.ref B.p), some (nat n), some (V.int _), some (V.int (0 + (i : Int)))] = _
          rw [e]
      . have e : bits 1 (bs.drop i) = none := zaW (by rw [List.length_drop]; omega)
        rw [e]
        rw [zaW (by omega)] at k
        exact k
    . rintro σ H' ⟨v3, rfl, hl, hb', kp⟩
      rw [zeM hl] at k
      exact ⟨_, rfl, k _ _ hb' kp rfl⟩
end
end Lk
end
section
namespace Lk
open PySem PySem.Spec PyProof.Rows L2
open Sn15 (D bits bitsOf symbol Px)
abbrev zgg : Stmt := zU (top 14) 0
abbrev zjL : Stmt := zU (top 14) 1
def zkd : Option Nat -> V
  | some s => nat s
  | none => .non
def zca (wa : Addr) (sole : Option Nat) : List (Str × V) := [("words", .ref wa), ("sole", zkd sole)]
theorem zcw (wa : Addr) (sole : Option Nat) : (zca wa sole).lookup ("words" : Str) = some (.ref wa) := zT
theorem xL (wa : Addr) (sole : Option Nat) : (zca wa sole).lookup ("sole" : Str) = some (zkd sole) := (zu (by decide +kernel)).trans zT
theorem zdk (wa : Addr) (sole : Option Nat) {m : Str} (h1 : (m == ("words" : Str)) = false) (h2 : (m == ("sole" : Str)) = false) : (zca wa sole).lookup m = none := (zu h1).trans ((zu h2).trans rfl)
structure xU (H : Hp) (was : List Addr) (ws : List (List Nat)) : Prop where
  len : was.length = ws.length
  at_ : ∀ (j : Nat) (x : Addr), was[j]? = some x -> ∃ w, ws[j]? = some w /\ H x = some (.lst (zm w))
theorem xU.get {H : Hp} {was : List Addr} {ws : List (List Nat)} (h : xU H was ws) {j : Nat} {w : List Nat} (e : ws[j]? = some w) : ∃ x, was[j]? = some x /\ H x = some (.lst (zm w)) := by
  have hj : j < was.length := by rw [h.len]; exact (List.getElem?_eq_some_iff.mp e).1
  obtain ⟨w', e', hx⟩ := h.at_ j was[j] (List.getElem?_eq_getElem hj)
  rw [e] at e'
  cases e'
  exact ⟨_, List.getElem?_eq_getElem hj, hx⟩
def zdp (c : Sn15.Code) (words : List (List Nat)) : Option Nat -> Prop
  | some s => symbol c = pure s /\ s < c.length
  | none => ∃ ws, words = [] :: ws /\ zcA 2 ws /\ symbol c = (bits 1 >>= zaB ws)
def xc (t : Ad) (H : Hp) (a : Addr) (c : Sn15.Code) : Prop := ∃ (dx wa : Addr) (was : List Addr) (words : List (List Nat)) (sole : Option Nat), H a = some (.ins t.CC dx (zca wa sole)) /\ H wa = some (.lst (was.map V.ref)) /\ xU H was words /\ zdp c words sole
theorem xU.kept {H H' : Hp} {was : List Addr} {ws : List (List Nat)} (h : xU H was ws) (k : ∀ x l, H x = some (.lst l) -> H' x = some (.lst l)) : xU H' was ws :=
  ⟨h.len, fun j x e => let ⟨w, e1, e2⟩ := h.at_ j x e; ⟨w, e1, k _ _ e2⟩⟩
theorem zF.lst {t : Ad} {H H' : Hp} {B : Bi} {bs : List Bool} (k : zF [B.p] H H') (b : zx t H B bs) {x : Addr} {l : List V} (h : H x = some (.lst l)) : H' x = some (.lst l) := by
  obtain ⟨dx, i, h1, _⟩ := b
  exact k x _ h fun z => y6 h h1 (by intro q; cases q) (List.mem_singleton.mp z)
theorem zF.ins {t : Ad} {H H' : Hp} {B : Bi} {bs : List Bool} (k : zF [B.p] H H') (b : zx t H B bs) {x C dx : Addr} {f : Str} {v : V} {r : List (Str × V)} (h : H x = some (.ins C dx ((f, v) :: r))) (hf : ¬ f = "octets") : H' x = some (.ins C dx ((f, v) :: r)) := by
  obtain ⟨dx', i, h1, _⟩ := b
  refine k x _ h fun z => y6 h h1 (fun q => ?_) (List.mem_singleton.mp z)
  injection q with _ _ q
  injection q with q _
  exact hf (congrArg Prod.fst q)
theorem xc.kept {t : Ad} {H H' : Hp} {B : Bi} {bs : List Bool} {a : Addr} {c : Sn15.Code} (h : xc t H a c) (b : zx t H B bs) (k : zF [B.p] H H') : xc t H' a c := by
  obtain ⟨dx, wa, was, words, sole, h1, h2, h3, h4⟩ := h
  exact ⟨dx, wa, was, words, sole, k.ins b h1 (by decide +kernel), k.lst b h2, h3.kept fun x l e => k.lst b e, h4⟩
theorem xc.same {t : Ad} {H H' : Hp} {a : Addr} {c : Sn15.Code} (h : xc t H a c) (k : zN H H') : xc t H' a c := by
  obtain ⟨dx, wa, was, words, sole, h1, h2, h3, h4⟩ := h
  exact ⟨dx, wa, was, words, sole, k _ _ h1, k _ _ h2, h3.kept fun x l e => k _ _ e, h4⟩
def vM (t : Ad) : Sn15.Code -> V -> Hp -> Prop := fun c v H => ∃ a, v = .ref a /\ xc t H a c
theorem zfX {w : List Nat} {ws : List (List Nat)} {r s : Nat} (h : w[r]? = some s) : zaB (w :: ws) r = pure s := by
  unfold zaB; rw [h]
theorem zeT {w : List Nat} {ws : List (List Nat)} {r : Nat} (h : w.length <= r) : zaB (w :: ws) r = (bits 1 >>= fun b => zaB ws (2 * (r - w.length) + b)) := by
  conv => lhs; unfold zaB
  rw [List.getElem?_eq_none h]
section
variable {P : Program} {w : World} {K : PySem.W.Frag} {mg : Str -> Option Value} {base : Heap} {t : Ad}
def zab (t : Ad) : Sp := fun vs H Q _ => ∃ (p wa dx : Addr) (sole : Option Nat), vs = [.ref p, .ref wa, zkd sole] /\ H p = some (.ins t.CC dx []) /\
  ∀ H', H' p = some (.ins t.CC dx (zca wa sole)) -> zF [p] H H' -> Q .non H'
theorem zlf : zn ["self", "words", "sole"] ["self", "words", "sole"] (zi zgg) := by trivial
theorem zhN {f : Addr} {fd : FuncData} (F : Fun K "__init__" "Code.__init__" zgg f fd) (T : Tx K mg t) : z0 P w K mg base (CXe P w) 1 f fd ["self", "words", "sole"] (zab t) := by
  refine F.okE zlf (fun vs H Q E h => ?_) (fun cdv A outer s H vs Q E hr h => ?_)
  . obtain ⟨p, wa, dx, sole, rfl, _⟩ := h
    rfl
  . obtain ⟨p, wa, dx, sole, rfl, hp, k⟩ := h
    refine ⟨_, zb (z9 (pv 0) (pv 1) rfl) (zf (z9 (pv 0) (pv 2) rfl)), ?_⟩
    refine ⟨_, rfl, _, rfl, p, t.CC, dx, _, rfl, hp, T.cC, T.nW, (by show 0 < 1000; decide), ?_⟩
    refine ⟨_, rfl, _, rfl, p, t.CC, dx, _, rfl, zc, T.cC, T.nS, (by show 1 < 1000; decide), ?_⟩
    refine k _ ?_ ((zF.put (by simp)).trans (zF.put (by simp)))
    rw [zc]
    rfl
def zbA (t : Ad) : Sp := fun vs H Q E => ∃ (B : Bi) (bs : List Bool) (a : Addr) (c : Sn15.Code), vs = [.ref a, .ref B.p] /\ xc t H a c /\ zx t H B bs /\ Out t E B [] H zcu Q (symbol c bs)
def zmc (t : Ad) (E : XK) (B : Bi) (H : Hp) (Q : VK) (a : Addr) (words : List (List Nat)) (m : Nat) (σ : L2.St) (H2 : Hp) : Prop := ∃ (n r cap : Nat) (w : List Nat) (ws : List (List Nat)) (bs : List Bool), m = ws.length /\
  σ = [some (.ref a), some (.ref B.p), some (nat n), some (nat r)] /\ words.drop n = w :: ws /\ zcA cap (w :: ws) /\ r < cap /\ zx t H2 B bs /\ zF [B.p] H H2 /\ Out t E B [] H2 zcu Q (zaB (w :: ws) r bs)
theorem zbi : zn ["self", "bits", "length", "rank"] ["self", "bits"] (zi zjL) := by trivial
theorem zlc {f : Addr} {fd : FuncData} (F : Fun K "next_symbol" "Code.next_symbol" zjL f fd) (T : Tx K mg t) (G : zD P w K mg base 1 t.CB "bit" ["self"] (vt t)) : z0 P w K mg base (CXe P w) 2 f fd ["self", "bits"] (zbA t) := by
  refine F.okE zbi (fun vs H Q E h => ?_) (fun cdv A outer s H vs Q E hr h => ?_)
  . obtain ⟨B, bs, a, c, rfl, _⟩ := h
    rfl
  . obtain ⟨B, bs, a, c, rfl, ⟨dx, wa, was, words, sole, h1, h2, h3, h4⟩, hb, k⟩ := h
    refine ⟨_, zb (yh (zhi (zeF (zy (pv 0) rfl))) (zf (zr (zy (pv 0) rfl))) zI)
      (zb (zp (i := 2) zbi.nd rfl (Or.inl rfl) zg)
      (zb (zp (i := 3) zbi.nd rfl (Or.inl rfl) (pm0 G Lv.of T.cB hr (pv 1)))
      (zb (jl Lv.of.own (zw zgC (pv 3) (zG zC (by rfl) T.len PySem.boot_len (za (yu zP (zy (pv 0) rfl) (pv 2) (fun _ _ => rfl)) ze)) (zE _))
        (zb (zp (i := 3) zbi.nd rfl (Or.inl rfl) (zl zL (zl xA zg (zl yA (pv 3) (zG zC (by rfl) T.len PySem.boot_len (za (yu zP (zy (pv 0) rfl) (pv 2) (fun _ _ => rfl)) ze)))) (pm0 G Lv.of T.cB hr (pv 1))))
        (zf (zba (i := 2) zbi.nd rfl (Or.inl rfl) zg zmf))))
      (zf (zr (yu zP (yu zP (zy (pv 0) rfl) (pv 2) (fun _ _ => rfl)) (pv 3) (fun _ _ => rfl))))))), ?_⟩
    cases sole with
    | some s =>
      obtain ⟨hs, _⟩ := h4
      rw [hs] at k
      refine ⟨_, rfl, a, t.CC, dx, _, _, rfl, h1, T.cC, T.nS, xL _ _, _, rfl, zdB ?_⟩
      refine ⟨_, rfl, a, t.CC, dx, _, _, rfl, h1, T.cC, T.nS, xL _ _, ?_⟩
      exact k.pure hb rfl
    | none =>
      obtain ⟨ws, hw, hf, hs⟩ := h4
      rw [hs] at k
      refine ⟨_, rfl, a, t.CC, dx, _, _, rfl, h1, T.cC, T.nS, xL _ _, _, rfl, zlP ?_⟩
      obtain ⟨dxb, fs, e1, e2⟩ := hb.meth (m := "bit")
      refine ⟨_, rfl, B.p, dxb, fs, rfl, e1, e2, B, bs, rfl, hb, k.bind fun b bs' v H' hm hb' kp hv k' => ?_⟩
      cases hv
      have hb2 : b < 2 := qB hm
      obtain ⟨w0, ws0, rfl⟩ : ∃ w0 ws0, ws = w0 :: ws0 := by
        cases ws with
        | nil => have : (2 : Nat) = 0 := hf; omega
        | cons w0 ws0 => exact ⟨w0, ws0, rfl⟩
      refine ⟨zmc t E B H Q a words, ⟨ws0.length, 1, b, 2, w0, ws0, bs', rfl, rfl, by rw [hw]; rfl, hf, hb2, hb', kp, k'⟩, ?_⟩
      rintro m σ H2 ⟨n, r, cap, w1, ws1, bs2, rfl, rfl, hd, hfit, hr2, hbb, kp2, k2⟩
      have hn : words[n]? = some w1 := by
        have := congrArg List.head? hd
        rw [List.head?_drop] at this
        exact this
      obtain ⟨x, hx1, hx2⟩ := h3.get hn
      have g1 := kp2.ins hb h1 (by decide +kernel)
      have g2 := kp2.lst hb h2
      have g3 := kp2.lst hb hx2
      have hx1' : (was.map V.ref)[n]? = some (.ref x) := by rw [List.getElem?_map, hx1]; rfl
      refine ⟨_, rfl, _, rfl, a, t.CC, dx, _, _, rfl, g1, T.cC, T.nW, zcw _ _, _, rfl, wa, _, _, .ref x, rfl, rfl, SqL.of g2, yB rfl hx1', x, _, rfl, .inl (SqL.of g3), _, _, rfl, rfl, _, rfl, yG (fun e => ?_) (fun e => ?_)⟩
      . have hle : w1.length <= r := by
          have := of_decide_eq_true e
          rw [zo] at this
          omega
        rw [zeT hle] at k2
        obtain ⟨hwl, hfit'⟩ := hfit
        obtain ⟨dxb2, fs2, e3, e4⟩ := hbb.meth (m := "bit")
        refine ⟨fun σ' H' => ∃ m', m' < ws1.length /\ zmc t E B H Q a words m' σ' H', fun _ _ h => h, ?_⟩
        refine ⟨_, rfl, _, rfl, a, t.CC, dx, _, _, rfl, g1, T.cC, T.nW, zcw _ _, _, rfl, wa, _, _, .ref x, rfl, rfl, SqL.of g2, yB rfl hx1', x, _, rfl, .inl (SqL.of g3), _, _, rfl, rfl, _, _, rfl, rfl, .inl ⟨by decide, by decide⟩,
          _, rfl, B.p, dxb2, fs2, rfl, e3, e4, B, bs2, rfl, hbb, k2.bind fun b3 bs3 v3 H3 hm3 hb3 kp3 hv3 k3 => ?_⟩
        cases hv3
        have hb32 : b3 < 2 := qB hm3
        obtain ⟨w4, ws4, rfl⟩ : ∃ w4 ws4, ws1 = w4 :: ws4 := by
          cases ws1 with
          | nil => have : 2 * (cap - w1.length) = 0 := hfit'; omega
          | cons w4 ws4 => exact ⟨w4, ws4, rfl⟩
        refine ⟨_, _, rfl, rfl, _, rfl, _, _, rfl, rfl, ws4.length, Nat.lt_succ_self _, n + 1, 2 * (r - w1.length) + b3, _, w4, ws4, bs3, rfl, ?_, ?_, hfit', by omega, hb3, kp2.trans kp3, k3⟩
        . show [some (V.ref a), some (V.ref B.p), some (V.int ((n : Int) + 1)), some (V.int (2 * ((r : Int) - ((zm w1).length : Nat)) + (b3 : Int)))] = _
          rw [zo]
          have q1 : ((n : Int) + 1) = ((n + 1 : Nat) : Int) := by omega
          have q2 : (2 * ((r : Int) - (w1.length : Int)) + (b3 : Int)) = ((2 * (r - w1.length) + b3 : Nat) : Int) := by omega
          rw [q1, q2]
        . rw [<- List.tail_drop, hd]
          rfl
      . have hlt : r < w1.length := by
          have : ¬ ((zm w1).length : Int) <= (r : Int) := fun z => e (decide_eq_true z)
          rw [zo] at this
          omega
        have hs1 : w1[r]? = some w1[r] := List.getElem?_eq_getElem hlt
        rw [zfX hs1] at k2
        refine ⟨_, rfl, a, t.CC, dx, _, _, rfl, g1, T.cC, T.nW, zcw _ _, _, rfl, wa, _, _, .ref x, rfl, rfl, SqL.of g2, yB rfl hx1', _, rfl, x, _, _, nat w1[r], rfl, rfl, SqL.of g3, yB rfl (yj hs1), ?_⟩
        exact k2.pure hbb rfl
end
end Lk
end
section
namespace Lk
open PySem PySem.Spec PyProof.Rows L2
open Sn15 (D bits bitsOf symbol Px)
abbrev zl2 : Stmt := top 15
theorem zag {X : Cx} {K : PySem.W.Frag} (h : X.K = K) : vG X (.builtin "len") (fun xs H Q => ∃ p ys, xs = [.ref p] /\ (SqL K H p ys \/ SqT K H p ys) /\ Q (.int ys.length) H) := by
  subst h
  exact zC
theorem zki {X : Cx} {K : PySem.W.Frag} (hK : X.K = K) {es : List Expr} {k : Nat} {t : TGs} {n : Nat} {pos : Pos} (hc : X.calm = true) (h : PGs X es t)
    (hn : (assignEach es X.env).length = n := by rfl) (hst : (assignEach es X.env).findIdx? (·.1) = none := by rfl) : PG X (.Tuple es k pos) (znT K n t) := by
  subst hK
  exact zjc hc h hn hst
theorem wK {n j : Nat} (h : j < n) : ixN n (j : Int) = some j := by
  unfold ixN
  rw [if_pos (by omega), if_pos (by omega)]
  simp
theorem znK {α : Type} {l : List α} (hN : l.Nodup) {i j : Nat} {x : α} (a : l[i]? = some x) (b : l[j]? = some x) : i = j := by
  obtain ⟨h1, e1⟩ := List.getElem?_eq_some_iff.mp a
  obtain ⟨h2, e2⟩ := List.getElem?_eq_some_iff.mp b
  exact (List.getElem_inj hN).mp (e1.trans e2.symm)
theorem wf {σ : L2.St} {H : Hp} {A B : Hp -> Prop} (h : A H) : znO σ H (fun b H3 => if b = true then A H3 else B H3) := by
  show if true = true then A H else B H
  exact zdB h
theorem zcj (c : Sn15.Code) (n j : Nat) : zR (c ++ [n]) j = if n = j then zR c j ++ [c.length] else zR c j := by
  unfold zR
  rw [List.length_append, List.length_singleton, List.range_succ, List.filter_append]
  have e1 : List.filter (fun s => (c ++ [n]).getD s 0 == j) (List.range c.length) = List.filter (fun s => c.getD s 0 == j) (List.range c.length) := by
    apply List.filter_congr
    intro i hi
    have := List.mem_range.mp hi
    rw [List.getD_eq_getElem?_getD, List.getD_eq_getElem?_getD, List.getElem?_append_left this]
  rw [e1]
  have e2 : (c ++ [n]).getD c.length 0 = n := by rw [List.getD_eq_getElem?_getD, List.getElem?_append_right (Nat.le_refl _)]; simp
  by_cases h : n = j
  . rw [if_pos h, List.filter_cons, if_pos (by rw [e2]; simpa using h)]; rfl
  . rw [if_neg h, List.filter_cons, if_neg (by rw [e2]; simpa using h)]; simp
theorem jD (c : Sn15.Code) (j : Nat) : (zR c j).length <= c.length := by
  unfold zR
  exact Nat.le_trans (List.length_filter_le _ _) (by simp)
theorem qZ (c : Sn15.Code) : ∀ (k n : Nat), (zQ c n k).length = k
  | 0, _ => rfl
  | k + 1, n => by show (zQ c (n + 1) k).length + 1 = k + 1; rw [qZ c k]
theorem xf (c : Sn15.Code) : ∀ (k n j : Nat), j < k -> (zQ c n k)[j]? = some (zR c (n + j))
  | k + 1, n, 0, _ => rfl
  | k + 1, n, j + 1, h => by
    show (zQ c (n + 1) k)[j]? = _
    rw [xf c k (n + 1) j (by omega)]
    congr 2; omega
def zdE (words : List (List Nat)) (i : Nat) : List Int := (List.range i).map fun j => ((words.getD j []).length : Int) * 2 ^ (15 - j)
theorem zgF (c : Sn15.Code) : (zdE ([] :: zQ c 1 15) 16).sum = ((yi c 15 : Nat) : Int) := by
  have g : ∀ j, j < 15 -> (([] :: zQ c 1 15).getD (j + 1) []) = zR c (1 + j) := fun j hj => by
    rw [List.getD_cons_succ, List.getD_eq_getElem?_getD, xf c 15 1 j hj]; rfl
  have key : ∀ i, i <= 15 -> ((List.range (i + 1)).map fun j => ((([] :: zQ c 1 15).getD j []).length : Int) * 2 ^ (15 - j)).sum = ((yi c i : Nat) : Int) := by
    intro i
    induction i with
    | zero => intro _; rfl
    | succ i ih =>
      intro hi
      rw [List.range_succ, List.map_append, List.sum_append, ih (by omega)]
      simp only [List.map_cons, List.map_nil, List.sum_cons, List.sum_nil]
      rw [g i (by omega), yi]
      have e1 : 15 - (i + 1) = 14 - i := by omega
      have e2 : 1 + i = i + 1 := by omega
      rw [e1, e2]
      simp
  exact key 15 (Nat.le_refl _)
def zV (H0 : Hp) (t : Ad) (H : Hp) (a : Addr) (c : Sn15.Code) : Prop := ∃ (dx wa : Addr) (was : List Addr) (words : List (List Nat)) (sole : Option Nat), (H a = some (.ins t.CC dx (zca wa sole)) /\ H wa = some (.lst (was.map V.ref)) /\ xU H was words /\ zdp c words sole) /\ H0 a = none /\ H0 wa = none /\ ∀ x ∈ was, H0 x = none
theorem zV.toAt {H0 : Hp} {t : Ad} {H : Hp} {a : Addr} {c : Sn15.Code} (h : zV H0 t H a c) : xc t H a c := by
  obtain ⟨dx, wa, was, words, sole, h1, _⟩ := h
  exact ⟨dx, wa, was, words, sole, h1⟩
theorem zV.rebase {H0 H1 : Hp} {t : Ad} {H : Hp} {a : Addr} {c : Sn15.Code} (h : zV H1 t H a c) (d : ∀ x, H1 x = none -> H0 x = none) : zV H0 t H a c := by
  obtain ⟨dx, wa, was, words, sole, h1, n1, n2, n3⟩ := h
  exact ⟨dx, wa, was, words, sole, h1, d _ n1, d _ n2, fun x hx => d _ (n3 x hx)⟩
theorem zV.made {H0 : Hp} {t : Ad} {H H' : Hp} {p dx wa : Addr} {was : List Addr} {words : List (List Nat)} {sole : Option Nat} {c : Sn15.Code} (nx : H p = none) (nd : H dx = none) (k : zF [p] (upd (upd H dx (.own p)) p (.ins t.CC dx [])) H')
    (hp : H' p = some (.ins t.CC dx (zca wa sole))) (h2 : H wa = some (.lst (was.map V.ref))) (h3 : xU H was words) (h4 : zdp c words sole) (dom : ∀ x, H x = none -> H0 x = none) (nwa : H0 wa = none) (nwas : ∀ x ∈ was, H0 x = none) : zV H0 t H' p c /\ zN H H' := by
  have s : zN H H' := zN.made nx nd fun b o e ne => k b o e (by simpa using ne)
  exact ⟨⟨dx, wa, was, words, sole, ⟨hp, s _ _ h2, h3.kept fun x l e => s _ _ e, h4⟩, dom _ nx, nwa, nwas⟩, s⟩
section
variable {P : Program} {w : World} {K : PySem.W.Frag} {mg : Str -> Option Value} {base : Heap} {t : Ad}
def ziN (t : Ad) : Sp := fun vs H Q E => ∃ (la : Addr) (l : List Nat), vs = [.ref la] /\ H la = some (.lst (zm l)) /\ (∀ n ∈ l, n <= 15) /\ l.length <= 4000 /\
  (Sn15.good l = true -> ∀ a H', zV H t H' a l -> zN H H' -> Q (.ref a) H') /\ (Sn15.good l = false -> ∀ H', E (.ref t.CN) none H')
abbrev zm5 : List Str := ["lengths", "words", "symbol", "length", "used", "filled", "symbols"]
theorem vE : zn zm5 ["lengths"] (zi zl2) := by trivial
structure zcN (H Hx : Hp) (D : Addr) (was : List Addr) : Prop where
  lst : Hx D = some (.lst (was.map V.ref))
  nd : was.Nodup
  ne : ∀ x ∈ was, x ≠ D /\ H x = none
  same : zN H Hx
theorem zt {H Hx : Hp} {a : Addr} {o : HO} (h : zN H Hx) (n : Hx a = none) : zN H (upd Hx a o) := fun b u e => by rw [zk (zd (h b u e) n)]; exact h b u e
theorem yo {H Hx : Hp} {a : Addr} {o : HO} (h : zN H Hx) (n : H a = none) : zN H (upd Hx a o) := fun b u e => by rw [zk (zd e n)]; exact h b u e
theorem wu (l : List Nat) : zm l = (l.map fun (n : Nat) => (n : Int)).map V.int := by unfold zm; rw [List.map_map]; rfl
theorem wk (l : List Nat) : (zm l).all jx = true := by
  rw [List.all_eq_true]
  intro x hx
  obtain ⟨n, _, rfl⟩ := List.mem_map.mp hx
  rfl
theorem yQ {l : List Nat} {i : Nat} {x : V} (h : (zm l)[i]? = some x) : ∃ n, l[i]? = some n /\ x = nat n := by
  unfold zm at h
  rw [List.getElem?_map] at h
  cases e : l[i]? with
  | none => rw [e] at h; cases h
  | some n => rw [e] at h; exact ⟨n, rfl, (Option.some.inj h).symm⟩
theorem ziw {l : List Addr} {i : Nat} {x : V} (h : (l.map V.ref)[i]? = some x) : ∃ a, l[i]? = some a /\ x = .ref a := by
  rw [List.getElem?_map] at h
  cases e : l[i]? with
  | none => rw [e] at h; cases h
  | some n => rw [e] at h; exact ⟨n, rfl, (Option.some.inj h).symm⟩
theorem jg {l : List Addr} {i : Nat} {a : Addr} (h : l[i]? = some a) : (l.map V.ref)[i]? = some (.ref a) := by rw [List.getElem?_map, h]; rfl
theorem zdC (words : List (List Nat)) (i : Nat) : zdE words (i + 1) = zdE words i ++ [((words.getD i []).length : Int) * 2 ^ (15 - i)] := by
  unfold zdE; rw [List.range_succ, List.map_append]; rfl
theorem zdg {H H' : Hp} (s : zN H H') : ∀ x, H' x = none -> H x = none := fun x h => s.free h
def zoa (H : Hp) (la wa : Addr) (was : List Addr) (l : List Nat) (i : Nat) (σ : L2.St) (Hy : Hp) : Prop := ∃ v2 v3 : Option V, σ = [some (.ref la), some (.ref wa), v2, v3, none, none, none] /\ zcN H Hy wa was /\
  ∀ (j : Nat) (x : Addr), was[j]? = some x -> Hy x = some (.lst (zm (zR (l.take i) j)))
theorem zl7 {f : Addr} {fd : FuncData} (F : Fun K "code_of_lengths" "code_of_lengths" zl2 f fd) (T : Tx K mg t) (G : yp P w K mg base 1 t.CC "Code" ["self", "words", "sole"] (zab t)) : z0 P w K mg base (CXe P w) 3 f fd ["lengths"] (ziN t) := by
  obtain ⟨uL, hL, rL⟩ := T.kLONGEST
  refine F.okE vE (fun vs H Q E h => ?_) (fun cdv A outer s H vs Q E hr h => ?_)
  . obtain ⟨la, l, rfl, _⟩ := h
    rfl
  . obtain ⟨la, l, rfl, hla, h15, hlen, kg, kb⟩ := h
    refine ⟨_, zb (zc0 (i := 1) (own := [("length", 3)]) rfl vE.nd rfl rfl (zeN rfl rfl rfl rfl) (ql (by rfl) T.range (za (zl zL (zH (by rfl) hL rL) zg) ze)) (by show kO zm5 (zi zl2) _ _; exact qw (by decide +kernel))
        (fun _ _ _ _ _ => z6 (i := 3) vE.nd rfl (Or.inl rfl)) (fun _ _ _ _ _ => jz) (fun _ _ _ _ _ => yc ze))
      (zb (yV Lv.of.own rfl (zfl (by rfl) T.enum (za (pv 0) ze)) (zjc rfl (j7 (z6 (i := 2) vE.nd rfl (Or.inl rfl)) (j7 (z6 (i := 3) vE.nd rfl (Or.inl rfl)) zgZ)))
        (zf (zZ (xz PySem.F.plainAttrs_list PySem.F.slot_list_append PySem.F.type_list_append yb (yu zP (pv 1) (pv 3) (fun _ _ => rfl)) (za (pv 2) ze)))))
      (zb (zp (i := 4) vE.nd rfl (Or.inl rfl) (zl yA (zG zC (by rfl) T.len PySem.boot_len (za (pv 0) ze)) (zG zC (by rfl) T.len PySem.boot_len (za (yu zP (pv 1) zg (fun _ _ => rfl)) ze))))
      (zb (zgm (yc ze) (zfs (pv 1) zg wQ))
      (zb (yh (zw xY (pv 4) zg (zE _)) (zf (zr (pmk G Lv.of hr (za (pv 1) (za (xz PySem.F.plainAttrs_list PySem.F.slot_list_index PySem.F.type_list_index zio (pv 0)
          (za (zG (zbl rfl) (by rfl) T.max PyProof.Rows.boot_max (za (pv 0) ze)) ze)) ze))))) zI)
      (zb (zp (i := 5) vE.nd rfl (Or.inl rfl) (zG (zgb rfl) (by rfl) T.sum PyProof.Rows.boot_sum (za (zis (own := [("length", 3), ("symbols", 6)]) rfl vE.nd (zfl (by rfl) T.enum (za (pv 1) ze)) (by show kO zm5 (zi zl2) _ _; exact qw (by decide +kernel))
          (fun _ _ _ _ _ => by exact zki (K := K) (n := 2) rfl rfl (j7 (z6 (i := 3) vE.nd (by rfl) (Or.inl (by rfl)) (Or.inr (by rfl))) (j7 (z6 (i := 6) vE.nd (by rfl) (Or.inl (by rfl)) (Or.inr (by rfl))) zgZ))) (fun _ _ _ _ _ => jz)
          (fun _ _ _ _ _ => by exact zl yT (zG (zag (K := K) rfl) (by rfl) T.len PySem.boot_len (za (pv 6) ze)) (zl yA (zH (by rfl) hL rL) (pv 3)))) ze)))
      (zb (yh (zw zdY (pv 5) (zl yT zg (zH (by rfl) hL rL)) (zE _)) (zf (z7 Lv.of (by rfl) T.gN T.xN)) zI)
      (zf (zr (pmk G Lv.of hr (za (pv 1) (za zc6 ze))))))))))), ?_⟩
    refine ⟨_, _, rfl, rfl, _, rfl, by decide, by decide, fun wa hwa => ziU (lo := 0) (n := 16) (fun i Hx => ∃ was : List Addr, was.length = i /\ zcN H Hx wa was /\ ∀ x ∈ was, Hx x = some (.lst [])) ?_ ?_ ?_⟩
    . exact ⟨[], rfl, ⟨zc, List.nodup_nil, fun x hx => absurd hx (by simp), zt (zN.refl H) hwa⟩, fun x hx => absurd hx (by simp)⟩
    . rintro i Hx hi ⟨was, hwl, NL, hem⟩
      refine ⟨rfl, wf ⟨Nat.zero_le _, fun x hx => ⟨was.map V.ref, ?_, ?_, was ++ [x], ?_, ⟨?_, ?_, ?_, ?_⟩, ?_⟩⟩⟩
      . rw [zk (zd NL.lst hx)]; exact NL.lst
      . rw [List.length_map, hwl]; exact Nat.lt_trans hi (by decide)
      . rw [List.length_append, hwl]; rfl
      . rw [zc, List.map_append]; rfl
      . refine List.nodup_append.mpr ⟨NL.nd, by simp, fun a ha b hb => ?_⟩
        rw [List.mem_singleton.mp hb]
        exact zd (hem a ha) hx
      . intro y hy
        rcases List.mem_append.mp hy with z | z
        . exact NL.ne y z
        . rw [List.mem_singleton.mp z]; exact ⟨(zd NL.lst hx).symm, NL.same.free hx⟩
      . exact yo (zt NL.same hx) hwa
      . intro y hy
        rcases List.mem_append.mp hy with z | z
        . rw [zk (NL.ne y z).1, zk (zd (hem y z) hx)]; exact hem y z
        . rw [List.mem_singleton.mp z, zk (zd NL.lst hx).symm]; exact zc
    . rintro Hx ⟨was, hwl, NL, hem⟩
      refine ⟨_, rfl, la, zm l, rfl, SqL.of (NL.same _ _ hla), zir (K := K) (a := la) (xs := zm l) (zoa H la wa was l) ⟨none, none, rfl, NL, fun j x hx => ?_⟩ (fun i σ Hy _ ⟨_, _, _, N2, _⟩ => SqL.of (N2.same _ _ hla)) ?_ ?_⟩
      . rw [hem x (List.mem_of_getElem? hx)]; rfl
      . rintro i x σ Hy Tt hx ⟨v2, v3, rfl, N2, hw2⟩ hTt
        obtain ⟨n, hn, rfl⟩ := yQ hx
        have hn15 := h15 n (List.mem_of_getElem? hn)
        have hil : i < l.length := (List.getElem?_eq_some_iff.mp hn).1
        have htl : (l.take i).length = i := by rw [List.length_take]; omega
        have htk : l.take (i + 1) = l.take i ++ [n] := by
          rw [List.take_succ_eq_append_getElem hil]
          rw [List.getElem?_eq_getElem hil] at hn
          rw [Option.some.inj hn]
        obtain ⟨xw, hxw⟩ : ∃ xw, was[n]? = some xw := ⟨_, List.getElem?_eq_getElem (by omega)⟩
        have hcw := hw2 n xw hxw
        have m1 := List.mem_of_getElem? hxw
        refine ⟨Tt, _, rfl, SqT.of zc, rfl, _, _, rfl, _, _, rfl, rfl, _, rfl, _, rfl, wa, _, _, .ref xw, rfl, rfl, SqL.of (by rw [zk (zd N2.lst hTt)]; exact N2.lst), yB rfl (jg hxw),
          .inl ⟨rfl, _, SqL.of (by rw [zk (zd hcw hTt)]; exact hcw)⟩, _, rfl, xw, _, _, rfl, rfl, (by rw [zk (zd hcw hTt)]; exact hcw), ?_, ?_⟩
        . rw [zo]
          have := jD (l.take i) n
          exact Nat.lt_of_le_of_lt this (Nat.lt_of_le_of_lt (by omega : _ <= 4000) (by decide))
        . refine ⟨_, _, rfl, ⟨?_, N2.nd, N2.ne, yo (zt N2.same hTt) (N2.ne xw m1).2⟩, fun j y hy => ?_⟩
          . rw [zk (N2.ne xw m1).1.symm, zk (zd N2.lst hTt)]; exact N2.lst
          . rw [htk, zcj, htl]
            by_cases hjn : n = j
            . subst hjn
              have : y = xw := Option.some.inj (hy.symm.trans hxw)
              subst this
              rw [zc, if_pos rfl, yw]; rfl
            . have hne : y ≠ xw := fun z => hjn (znK N2.nd hxw (by rw [<- z]; exact hy))
              rw [zk hne, zk (zd (hw2 j y hy) hTt), if_neg hjn]
              exact hw2 j y hy
      . rintro σ Hy ⟨v2, v3, rfl, N2, hw2⟩
        rw [zo, List.take_length] at hw2
        obtain ⟨x0, rest, rfl⟩ : ∃ x0 rest, was = x0 :: rest := by
          cases was with
          | nil => simp at hwl
          | cons x0 rest => exact ⟨x0, rest, rfl⟩
        have hx0 := hw2 0 x0 rfl
        have hla2 := N2.same _ _ hla
        refine ⟨_, rfl, la, _, rfl, .inl (SqL.of hla2), _, rfl, wa, _, _, .ref x0, rfl, rfl, SqL.of N2.lst, yB (j := 0) rfl rfl, x0, _, rfl, .inl (SqL.of hx0), _, _, rfl, rfl, ?_⟩
        refine ⟨Nat.zero_le _, fun e he => ⟨_, rfl, wa, _, _, 0, rfl, rfl, (by rw [zk (zd N2.lst he)]; exact N2.lst), wK (j := 0) (by simp), ?_⟩⟩
        rw [zo, zo]
        have nwe : wa ≠ e := zd N2.lst he
        generalize hH6 : upd (upd Hy e (.lst [])) wa (.lst ((List.map V.ref (x0 :: rest)).set 0 (.ref e))) = H6
        have l6 : H6 wa = some (.lst ((e :: rest).map V.ref)) := by rw [<- hH6, zc]; rfl
        have s6 : zN H H6 := by rw [<- hH6]; exact yo (zt N2.same he) hwa
        have w6 : xU H6 (e :: rest) ([] :: zQ l 1 15) := by
          refine ⟨by simp [qZ]; simpa using hwl, fun j x hx => ?_⟩
          cases j with
          | zero =>
            have : e = x := Option.some.inj hx
            subst this
            exact ⟨[], rfl, by rw [<- hH6, zk nwe.symm, zc]; rfl⟩
          | succ j =>
            have hx' : rest[j]? = some x := hx
            have hj : j < rest.length := (List.getElem?_eq_some_iff.mp hx').1
            have hj15 : j < 15 := by have : rest.length + 1 = 16 := hwl; omega
            have hm : x ∈ x0 :: rest := List.mem_of_getElem? (i := j + 1) hx'
            have := hw2 (j + 1) x hx'
            refine ⟨_, xf l 15 1 j hj15, ?_⟩
            rw [<- hH6, zk (N2.ne x hm).1, zk (zd this he), this, Nat.add_comm 1 j]
        have la6 := s6 _ _ hla
        have nwas : ∀ x ∈ e :: rest, H x = none := fun x hx => by
          rcases List.mem_cons.mp hx with z | z
          . rw [z]; exact N2.same.free he
          . exact (N2.ne x (List.mem_cons_of_mem _ z)).2
        have hsl := jD l 0
        refine ⟨_, rfl, rfl, _, rfl, yG (fun eu => ?_) (fun eu => ?_)⟩
        . have hu : l.length - (zR l 0).length = 1 := by have := V.int.inj (of_decide_eq_true eu); omega
          have hgood : Sn15.good l = true := (wS h15).mpr (.inl hu)
          obtain ⟨sy, hs1, hs2, hs3, hs4⟩ := zlD hu
          have hgs : l[sy]? = some (l.getD sy 0) := by rw [List.getD_eq_getElem?_getD, List.getElem?_eq_getElem hs2]; rfl
          refine ⟨_, rfl, _, rfl, .inl ⟨rfl, _, SqL.of la6⟩, _, rfl, la, l.map fun (n : Nat) => (n : Int), rfl, SqL.of (by rw [<- wu]; exact la6), by rw [List.length_map]; omega, fun M hM hMx => ?_⟩
          have hMs : M = ((l.getD sy 0 : Nat) : Int) := by
            obtain ⟨m, hm, rfl⟩ := List.mem_map.mp hM
            have h1 := hMx ((l.getD sy 0 : Nat) : Int) (List.mem_map.mpr ⟨_, List.mem_of_getElem? hgs, rfl⟩)
            obtain ⟨j, hj⟩ := List.getElem?_of_mem hm
            have hjl : j < l.length := (List.getElem?_eq_some_iff.mp hj).1
            by_cases hjs : j = sy
            . subst hjs
              rw [hj] at hgs
              rw [<- Option.some.inj hgs]
            . have := hs4 j hjl hjs
              rw [List.getD_eq_getElem?_getD, hj] at this
              have h0 : m = 0 := this
              rw [h0] at h1
              omega
          subst hMs
          refine ⟨la, zm l, _, sy, _, rfl, rfl, SqL.of la6, rfl, wk l, yj hgs, beq_self_eq_true _, fun m z hm hz => ?_, ?_⟩
          . obtain ⟨n, hn, rfl⟩ := yQ hz
            have hml : m < l.length := (List.getElem?_eq_some_iff.mp hn).1
            have := hs4 m hml (by omega)
            rw [List.getD_eq_getElem?_getD, hn] at this
            have h0 : n = 0 := this
            subst h0
            show ((0 : Int) == ((l.getD sy 0 : Nat) : Int)) = false
            rw [beq_eq_false_iff_ne]
            omega
          . intro p dx hp hdx hne
            refine ⟨p, wa, dx, some sy, rfl, zc, fun H' e1 kp => ⟨rfl, ?_⟩⟩
            obtain ⟨c1, c2⟩ := zV.made (H0 := H) (c := l) hp hdx kp e1 l6 w6 ⟨xj hs1, hs2⟩ (zdg s6) hwa nwas
            exact kg hgood p H' c1 (s6.trans c2)
        . have hu : ¬ l.length - (zR l 0).length = 1 := fun z => eu (decide_eq_true (by
            have : (l.length : Int) - ((zR l 0).length : Int) = 1 := by omega
            show V.int ((l.length : Int) - ((zR l 0).length : Int)) = V.int 1
            rw [this]))
          refine ⟨_, rfl, wa, _, rfl, SqL.of l6, fun D2 hD2 => zkX (K := K) (a := wa) (xs := (e :: rest).map V.ref) (fun i Hz => zN H6 Hz /\ Hz D2 = some (.lst ((zdE ([] :: zQ l 1 15) i).map V.int))) ⟨zt (zN.refl _) hD2, zc⟩ (fun i Hz _ h => SqL.of (h.1 _ _ l6)) ?_ ?_⟩
          . rintro i x Hz Tt hx ⟨sz, dz⟩ hTt
            obtain ⟨y, hy, rfl⟩ := ziw hx
            obtain ⟨w1, hw1, hy1⟩ := w6.at_ i y hy
            have hi16 : i < 16 := by have := (List.getElem?_eq_some_iff.mp hy).1; simp at this hwl; omega
            have hy2 := sz _ _ hy1
            refine ⟨Tt, _, rfl, SqT.of zc, rfl, _, _, rfl, _, _, rfl, rfl, rfl, wf ⟨_, rfl, y, _, rfl, .inl (SqL.of (by rw [zk (zd hy2 hTt)]; exact hy2)), _, rfl, _, _, rfl, rfl, _, _, rfl, rfl, ⟨?_, ?_, ?_⟩, _, (by rw [zk (zd dz hTt)]; exact dz), ?_, ?_, ?_⟩⟩
            . show (0 : Int) <= 15 - (i : Int)
              omega
            . show (15 : Int) - (i : Int) <= 1000000
              omega
            . have h1 : w1.length <= 4000 := by
                cases i with
                | zero => have : [] = w1 := Option.some.inj hw1
                          subst this; exact Nat.zero_le _
                | succ i =>
                  have : (zQ l 1 15)[i]? = some w1 := hw1
                  rw [xf l 15 1 i (by omega)] at this
                  have e5 := Option.some.inj this
                  rw [<- e5]
                  exact Nat.le_trans (jD _ _) hlen
              rw [zo]
              omega
            . rw [List.length_map]
              unfold zdE
              rw [List.length_map, List.length_range]
              exact Nat.lt_trans hi16 (by decide)
            . exact yo (zt sz hTt) hD2
            . rw [zc, zdC, List.map_append]
              have e5 : ([] :: zQ l 1 15).getD i [] = w1 := by rw [List.getD_eq_getElem?_getD, hw1]; rfl
              have e6 : ((15 : Int) - (i : Int)).toNat = 15 - i := by omega
              show some (HO.lst (_ ++ [V.int (((zm w1).length : Nat) * 2 ^ ((15 : Int) - (i : Int)).toNat)])) = _
              rw [e5, e6, zo]
              rfl
          . rintro Hz ⟨sz, dz⟩
            have hlen16 : ((e :: rest).map V.ref).length = 16 := by rw [List.length_map]; exact hwl
            rw [hlen16] at dz
            refine ⟨D2, _, rfl, SqL.of dz, ?_⟩
            rw [zgF]
            refine ⟨_, rfl, _, _, rfl, rfl, ⟨by decide, by decide, by decide⟩, rfl, _, rfl, yG (fun ef => ?_) (fun ef => ?_)⟩
            . have hne : ¬ yi l 15 = 2 ^ 15 := fun z => by
                rw [z] at ef
                exact absurd ef (by decide)
              refine kb ?_ Hz
              cases hg : Sn15.good l with
              | false => rfl
              | true =>
                rcases (wS h15).mp hg with z | z
                . exact absurd z hu
                . exact absurd z hne
            . have hft : yi l 15 = 2 ^ 15 := by
                have : decide (V.int ((yi l 15 : Nat) : Int) = V.int (1 * 2 ^ (15 : Int).toNat)) = true := by
                  cases q : decide (V.int ((yi l 15 : Nat) : Int) = V.int (1 * 2 ^ (15 : Int).toNat)) with
                  | true => rfl
                  | false => rw [q] at ef; exact absurd rfl ef
                have := V.int.inj (of_decide_eq_true this)
                have e7 : (1 : Int) * 2 ^ (15 : Int).toNat = 32768 := by decide
                rw [e7] at this
                show yi l 15 = 32768
                omega
              have hgood : Sn15.good l = true := (wS h15).mpr (.inr hft)
              refine ⟨_, rfl, ?_⟩
              intro p dx hp hdx hne
              refine ⟨p, wa, dx, none, rfl, zc, fun H' e1 kp => ⟨rfl, ?_⟩⟩
              have hns : ∀ s, ((List.range l.length).filter fun s => l.getD s 0 != 0) ≠ [s] := fun s z => by
                have q := jA l
                rw [z] at q
                have : ([s] : List Nat).length = 1 := rfl
                omega
              obtain ⟨c1, c2⟩ := zV.made (H0 := H) (c := l) hp hdx kp e1 (sz _ _ l6) (w6.kept fun x l e => sz _ _ e) (show zdp l ([] :: zQ l 1 15) none from ⟨_, rfl, zeZ hft, qh l hns⟩) (zdg (s6.trans sz)) hwa nwas
              exact kg hgood p H' c1 ((s6.trans sz).trans c2)
end
end Lk
end
section
namespace Lk
open PySem PySem.Spec PyProof.Rows L2
open Sn15 (D bits bitsOf symbol Px value back again cached)
abbrev zf9 : Stmt := zU (top 10) 0
abbrev znx : Stmt := zU (top 10) 1
abbrev zjU : Stmt := zU (top 10) 2
abbrev zcp : Stmt := zU (top 10) 3
abbrev zeK : Stmt := top 24
abbrev zj4 : Stmt := top 25
structure Ca where
  p : Addr
  l : Addr
  c : Addr
def qf (w s k : Nat) (l c : Addr) : List (Str × V) := [("width", nat w), ("size", nat s), ("colours", .ref l), ("depth", nat k), ("cache", .ref c)]
theorem vi (w s k : Nat) (l c : Addr) : (qf w s k l c).lookup ("width" : Str) = some (nat w) := zT
theorem zaY (w s k : Nat) (l c : Addr) : (qf w s k l c).lookup ("size" : Str) = some (nat s) := (zu (by decide +kernel)).trans zT
theorem xi (w s k : Nat) (l c : Addr) : (qf w s k l c).lookup ("colours" : Str) = some (.ref l) := (zu (by decide +kernel)).trans ((zu (by decide +kernel)).trans zT)
theorem zbh (w s k : Nat) (l c : Addr) : (qf w s k l c).lookup ("depth" : Str) = some (nat k) := (zu (by decide +kernel)).trans ((zu (by decide +kernel)).trans ((zu (by decide +kernel)).trans zT))
theorem za0 (w s k : Nat) (l c : Addr) : (qf w s k l c).lookup ("cache" : Str) = some (.ref c) :=
  (zu (by decide +kernel)).trans ((zu (by decide +kernel)).trans ((zu (by decide +kernel)).trans ((zu (by decide +kernel)).trans zT)))
theorem zdD (w s k : Nat) (l c : Addr) {m : Str} (h1 : (m == ("width" : Str)) = false) (h2 : (m == ("size" : Str)) = false) (h3 : (m == ("colours" : Str)) = false) (h4 : (m == ("depth" : Str)) = false) (h5 : (m == ("cache" : Str)) = false) : (qf w s k l c).lookup m = none :=
  (zu h1).trans ((zu h2).trans ((zu h3).trans ((zu h4).trans ((zu h5).trans rfl))))
def zh (l : List Px) : List Nat := l.map Px.word
structure zY (t : Ad) (H : Hp) (C : Ca) (w s k : Nat) (l : List Px) : Prop where
  ins : ∃ dx, H C.p = some (.ins t.CV dx (qf w s k C.l C.c))
  lst : H C.l = some (.lst (zm (zh l)))
  cch : H C.c = some (.lst (zm (qi k l)))
  ne : C.l ≠ C.c
  ok : ∀ p ∈ l, yf p
  k11 : k <= 11
theorem zY.neL {t : Ad} {H : Hp} {C : Ca} {w s k : Nat} {l : List Px} (h : zY t H C w s k l) : C.p ≠ C.l := by
  obtain ⟨dx, e⟩ := h.ins
  exact y6 e h.lst (by intro z; cases z)
theorem zY.neC {t : Ad} {H : Hp} {C : Ca} {w s k : Nat} {l : List Px} (h : zY t H C w s k l) : C.p ≠ C.c := by
  obtain ⟨dx, e⟩ := h.ins
  exact y6 e h.cch (by intro z; cases z)
theorem zY.kept {t : Ad} {H H' : Hp} {C : Ca} {w s k : Nat} {l : List Px} {B : Bi} {bs : List Bool} (h : zY t H C w s k l) (b : zx t H B bs) (kp : zF [B.p] H H') : zY t H' C w s k l := by
  obtain ⟨dx, e⟩ := h.ins
  exact ⟨⟨dx, kp.ins b e (by decide +kernel)⟩, kp.lst b h.lst, kp.lst b h.cch, h.ne, h.ok, h.k11⟩
theorem zY.meth {t : Ad} {H : Hp} {C : Ca} {w s k : Nat} {l : List Px} (h : zY t H C w s k l) {m : Str} (h1 : (m == ("width" : Str)) = false := by decide +kernel) (h2 : (m == ("size" : Str)) = false := by decide +kernel) (h3 : (m == ("colours" : Str)) = false := by decide +kernel)
    (h4 : (m == ("depth" : Str)) = false := by decide +kernel) (h5 : (m == ("cache" : Str)) = false := by decide +kernel) : ∃ dx fs, H C.p = some (.ins t.CV dx fs) /\ fs.lookup m = none := by
  obtain ⟨dx, e⟩ := h.ins
  exact ⟨dx, _, e, zdD _ _ _ _ _ h1 h2 h3 h4 h5⟩
section
variable {P : Program} {w : World} {K : PySem.W.Frag} {mg : Str -> Option Value} {base : Heap} {t : Ad}
def wG (t : Ad) : Sp := fun vs H Q _ => ∃ (p dx : Addr) (w h k : Nat), vs = [.ref p, nat w, nat h, nat k] /\ H p = some (.ins t.CV dx []) /\ w <= 2 ^ 20 /\ k <= 11 /\
  ∀ H' C, C.p = p -> zY t H' C w (w * h) k [] -> zF [p] H H' -> H C.l = none -> H C.c = none -> Q .non H'
theorem zkJ : zn ["self", "width", "height", "depth"] ["self", "width", "height", "depth"] (zi zf9) := by trivial
theorem zai (n : Nat) : (List.replicate n ([V.int 0] : List V)).flatten = zm (List.replicate n 0) := by
  induction n with
  | zero => rfl
  | succ n ih => rw [List.replicate_succ, List.flatten_cons, ih]; rfl
theorem zhE {f : Addr} {fd : FuncData} (F : Fun K "__init__" "Canvas.__init__" zf9 f fd) (T : Tx K mg t) : z0 P w K mg base (CXe P w) 1 f fd ["self", "width", "height", "depth"] (wG t) := by
  refine F.okE zkJ (fun vs H Q E h => ?_) (fun cdv A outer s H vs Q E hr h => ?_)
  . obtain ⟨p, dx, w, h, k, rfl, _⟩ := h
    rfl
  . obtain ⟨p, dx, w, h, k, rfl, hp, hw, hk, kk⟩ := h
    refine ⟨_, zb (z9 (pv 0) (pv 1) rfl) (zb (z9 (pv 0) (zl xA (pv 1) (pv 2)) rfl) (zb (z9 (pv 0) (yc ze) rfl) (zb (z9 (pv 0) (pv 3) rfl)
      (zf (z9 (pv 0) (zl vX (yc (za zg ze)) (zl yT zg (pv 3))) rfl))))), ?_⟩
    refine ⟨_, rfl, _, rfl, p, t.CV, dx, _, rfl, hp, T.cV, T.vW, (by show 0 < 1000; decide), ?_⟩
    refine ⟨_, rfl, _, rfl, _, _, rfl, rfl, .inl ⟨by omega, by omega⟩, _, rfl, p, t.CV, dx, _, rfl, zc, T.cV, T.vS, (by show 1 < 1000; decide), ?_⟩
    generalize hH2 : upd (upd H p _) p _ = H2
    have p2 : H2 p = some (.ins t.CV dx [("width", nat w), ("size", nat (w * h))]) := by
      rw [<- hH2, zc]
      show some (HO.ins t.CV dx [("width", nat w), ("size", V.int ((w : Int) * (h : Int)))]) = _
      rw [<- Int.natCast_mul]
    have k2 : zF [p] H H2 := by rw [<- hH2]; exact (zF.put (by simp)).trans (zF.put (by simp))
    refine ⟨Nat.zero_le _, fun l hl => ⟨_, rfl, p, t.CV, dx, _, rfl, (by rw [zk (zd p2 hl)]; exact p2), T.cV, T.vC, (by show 2 < 1000; decide), ?_⟩⟩
    have npl : p ≠ l := zd p2 hl
    have nHl : H l = none := k2.free hl (by simp; exact npl.symm)
    generalize hH3 : upd (upd H2 l _) p _ = H3
    have p3 : H3 p = some (.ins t.CV dx [("width", nat w), ("size", nat (w * h)), ("colours", .ref l)]) := by rw [<- hH3, zc]; rfl
    have l3 : H3 l = some (.lst []) := by rw [<- hH3, zk npl.symm]; exact zc
    have k3 : zF [p] H H3 := by rw [<- hH3]; exact (k2.trans (zF.new hl)).trans (zF.put (by simp))
    refine ⟨_, rfl, _, rfl, p, t.CV, dx, _, rfl, p3, T.cV, T.vD, (by show 3 < 1000; decide), ?_⟩
    generalize hH4 : upd H3 p _ = H4
    have p4 : H4 p = some (.ins t.CV dx [("width", nat w), ("size", nat (w * h)), ("colours", .ref l), ("depth", nat k)]) := by rw [<- hH4, zc]; rfl
    have l4 : H4 l = some (.lst []) := by rw [<- hH4, zk npl.symm]; exact l3
    have k4 : zF [p] H H4 := by rw [<- hH4]; exact k3.trans (zF.put (by simp))
    have hpow : (2 : Nat) ^ k <= 2 ^ 11 := Nat.pow_le_pow_right (by decide) hk
    have h2 : (1 : Int) * 2 ^ ((k : Nat) : Int).toNat = ((2 ^ k : Nat) : Int) := by rw [Int.toNat_natCast, two_pow_int]; omega
    refine ⟨(by show 1 <= sizeLine; decide), fun x hx => ⟨_, rfl, _, _, rfl, rfl, ⟨by omega, by omega, by decide⟩, x, _, _, rfl, rfl, zc, ?_, ?_, ?_, fun c hc => ⟨_, rfl, p, t.CV, dx, [("width", nat w), ("size", nat (w * h)), ("colours", .ref l), ("depth", nat k)], rfl, ?_, T.cV, T.vH, (by show 4 < 1000; decide), ?_⟩⟩⟩
    . rw [h2]
      generalize (2 : Nat) ^ k = m at hpow
      omega
    . rw [h2]
      generalize (2 : Nat) ^ k = m at hpow
      omega
    . rw [h2, Int.toNat_natCast]
      show 1 * 2 ^ k <= 2 ^ 24
      generalize (2 : Nat) ^ k = m at hpow
      omega
    . rw [zk (zd (o := _) (by rw [zk (zd p4 hx)]; exact p4) hc), zk (zd p4 hx)]; exact p4
    . have p5 : upd H4 x (.lst [V.int 0]) p = some (.ins t.CV dx [("width", nat w), ("size", nat (w * h)), ("colours", .ref l), ("depth", nat k)]) := by rw [zk (zd p4 hx)]; exact p4
      have l5 : upd H4 x (.lst [V.int 0]) l = some (.lst []) := by rw [zk (zd l4 hx)]; exact l4
      have npc : p ≠ c := zd p5 hc
      have nlc : l ≠ c := zd l5 hc
      have k5 : zF [p] H (upd H4 x (.lst [V.int 0])) := k4.trans (zF.new hx)
      refine kk _ ⟨p, l, c⟩ rfl ⟨⟨dx, ?_⟩, ?_, ?_, nlc, fun q hq => absurd hq (by simp), hk⟩ ((k5.trans (zF.new hc)).trans (zF.put (by simp))) nHl (k5.free hc (by simp; exact npc.symm))
      . rw [zc]; rfl
      . rw [zk npl.symm, zk nlc]; exact l5
      . rw [zk npc.symm, zc, h2, Int.toNat_natCast, zai, zdF]
def zgj (t : Ad) : Sp := fun vs H Q _ => ∃ (C : Ca) (w s k : Nat) (l : List Px) (p : Px), vs = [.ref C.p, nat p.word] /\ zY t H C w s k l /\ yf p /\ l.length < sizeLine /\
  ∀ H', zY t H' C w s k (l ++ [p]) -> zF [C.l, C.c] H H' -> Q .non H'
theorem zm8 : zn ["self", "colour"] ["self", "colour"] (zi znx) := by trivial
theorem ziD {p : Px} {k : Nat} (hk : k <= 32) : Builtin.bitAnd (506832829 * ((p.word : Nat) : Int)) 4294967295 / 2 ^ ((32 : Int) - ((k : Nat) : Int)).toNat = ((Sn15.hash k p : Nat) : Int) := by
  have e : ((32 : Int) - ((k : Nat) : Int)).toNat = 32 - k := by omega
  rw [bitAnd_m32, e, two_pow_int]
  unfold Sn15.hash
  have e2 : (506832829 * ((p.word : Nat) : Int)) % 4294967296 = ((0x1E35A7BD * p.word % 2 ^ 32 : Nat) : Int) := by omega
  rw [e2, <- Int.natCast_ediv]
theorem zlX {f : Addr} {fd : FuncData} (F : Fun K "put" "Canvas.put" znx f fd) (T : Tx K mg t) : z0 P w K mg base (CXe P w) 1 f fd ["self", "colour"] (zgj t) := by
  obtain ⟨uS, hS, rS⟩ := T.kSPREAD
  obtain ⟨uL, hL, rL⟩ := T.kLOW
  refine F.okE zm8 (fun vs H Q E h => ?_) (fun cdv A outer s H vs Q E hr h => ?_)
  . obtain ⟨C, w, s, k, l, p, rfl, _⟩ := h
    rfl
  . obtain ⟨C, w, s, k, l, p, rfl, hC, hp, hl, kk⟩ := h
    obtain ⟨dx, hi⟩ := hC.ins
    refine ⟨_, zb (zZ (xz PySem.F.plainAttrs_list PySem.F.slot_list_append PySem.F.type_list_append yb (zy (pv 0) rfl) (za (pv 1) ze)))
      (zf (yh (zw qP (zy (pv 0) rfl) zg (zE _)) (zf (zgm (pv 1) (zfs (zy (pv 0) rfl) (zl ya (zl zW (zl xA (zH rfl hS rS) (pv 1)) (zH rfl hL rL)) (zl yA zg (zy (pv 0) rfl))) wQ))) zI)), ?_⟩
    have hlen : (zm (zh l)).length < sizeLine := by rw [zo]; unfold zh; rw [List.length_map]; exact hl
    have e1 : zm (zh l) ++ [nat p.word] = zm (zh (l ++ [p])) := by unfold zh; rw [List.map_append, yw]; rfl
    have hi1 : upd H C.l (.lst (zm (zh (l ++ [p])))) C.p = some (.ins t.CV dx (qf w s k C.l C.c)) := by rw [zk hC.neL]; exact hi
    have okp : ∀ q ∈ l ++ [p], yf q := fun q hq => by
      rcases List.mem_append.mp hq with z | z
      . exact hC.ok q z
      . rw [List.mem_singleton.mp z]; exact hp
    refine ⟨_, rfl, C.p, t.CV, dx, _, _, rfl, hi, T.cV, T.vC, xi _ _ _ _ _, .inl ⟨rfl, _, SqL.of hC.lst⟩, _, rfl, C.l, _, _, rfl, rfl, hC.lst, hlen, ?_⟩
    rw [e1]
    refine ⟨_, rfl, C.p, t.CV, dx, _, _, rfl, hi1, T.cV, T.vD, zbh _ _ _ _ _, _, _, rfl, rfl, _, rfl, yG (fun e => ?_) (fun e => ?_)⟩
    . have hk0 : 0 < k := by have := of_decide_eq_true e; omega
      have hk := hC.k11
      have hh := zkq k p (by omega)
      refine ⟨_, rfl, _, rfl, C.p, t.CV, dx, _, _, rfl, hi1, T.cV, T.vH, za0 _ _ _ _ _, _, rfl, _, _, rfl, rfl, .inl ⟨by decide, by decide⟩, _, _, rfl, rfl, _, rfl, C.p, t.CV, dx, _, _, rfl, hi1, T.cV, T.vD, zbh _ _ _ _ _, _, _, rfl, rfl, _, _, rfl, rfl, ?_,
        C.c, _, _, Sn15.hash k p, rfl, rfl, (by rw [zk hC.ne.symm]; exact hC.cch), ?_, ?_⟩
      . show (0 : Int) <= 32 - (k : Int)
        omega
      . rw [ziD (by omega), zo, zdS]
        exact wK hh
      . refine kk _ ⟨⟨dx, ?_⟩, ?_, ?_, hC.ne, okp, hC.k11⟩ ((zF.put (by simp)).trans (zF.put (by simp)))
        . rw [zk hC.neC]; exact hi1
        . rw [zk hC.ne]; exact zc
        . rw [zc, zcb k l p hk0 (by omega), kZ]
    . have hk0 : k = 0 := by
        have : ¬ (0 : Int) < (k : Int) := fun z => e (decide_eq_true z)
        omega
      subst hk0
      refine kk _ ⟨⟨dx, hi1⟩, zc, ?_, hC.ne, okp, hC.k11⟩ (zF.put (by simp))
      rw [zk hC.ne.symm, hC.cch, kR, kR]
def zgf (t : Ad) : Sp := fun vs H Q _ => ∃ (C : Ca) (w s k i : Nat) (l : List Px), vs = [.ref C.p, nat i] /\ zY t H C w s k l /\ 0 < k /\ i < 2 ^ k /\ l.length < sizeLine /\
  ∀ H', zY t H' C w s k (l ++ [cached k l i]) -> zF [C.l, C.c] H H' -> Q .non H'
theorem zl6 : zn ["self", "slot"] ["self", "slot"] (zi zjU) := by trivial
theorem zll {f : Addr} {fd : FuncData} (F : Fun K "put_cached" "Canvas.put_cached" zjU f fd) (T : Tx K mg t) (G : zD P w K mg base 1 t.CV "put" ["self", "colour"] (zgj t)) : z0 P w K mg base (CXe P w) 2 f fd ["self", "slot"] (zgf t) := by
  refine F.okE zl6 (fun vs H Q E h => ?_) (fun cdv A outer s H vs Q E hr h => ?_)
  . obtain ⟨C, w, s, k, i, l, rfl, _⟩ := h
    rfl
  . obtain ⟨C, w, s, k, i, l, rfl, hC, hk, hi, hl, kk⟩ := h
    obtain ⟨dx, hin⟩ := hC.ins
    obtain ⟨dx2, fs, e1, e2⟩ := hC.meth (m := "put")
    refine ⟨_, zf (zZ (pm G Lv.of T.cV hr (pv 0) (za (yu zP (zy (pv 0) rfl) (pv 1) (fun _ _ => rfl)) ze))), ?_⟩
    refine ⟨_, rfl, C.p, dx2, fs, rfl, e1, e2, _, rfl, C.p, t.CV, dx, _, _, rfl, hin, T.cV, T.vH, za0 _ _ _ _ _, _, rfl, C.c, _, _, _, rfl, rfl, SqL.of hC.cch, yB rfl (yj (zev k l i hk hi)),
      C, w, s, k, l, cached k l i, rfl, hC, zf1 hC.ok, hl, ?_⟩
    exact fun H' c kp => kk H' c kp
def zar (t : Ad) : Sp := fun vs H Q E => ∃ (C : Ca) (w s k n d : Nat) (l : List Px), vs = [.ref C.p, nat n, nat d] /\ zY t H C w s k l /\ 0 < d /\ s <= 2 ^ 23 /\ n <= 2 ^ 50 /\ d <= 2 ^ 50 /\ l.length <= s /\
  (d <= l.length /\ l.length + n <= s -> ∀ H', zY t H' C w s k (again n d l) -> zF [C.l, C.c] H H' -> Q .non H') /\ (¬ (d <= l.length /\ l.length + n <= s) -> ∀ H', E (.ref t.CN) none H')
theorem zam : zn ["self", "length", "distance", "begin", "place"] ["self", "length", "distance"] (zi zcp) := by trivial
theorem zaH : ∀ (i d : Nat) (l : List Px), again (i + 1) d l = again i d l ++ [(again i d l).getD ((again i d l).length - d) Sn15.black]
  | 0, d, l => rfl
  | i + 1, d, l => by rw [jE, zaH i, <- jE]
theorem zff {f : Addr} {fd : FuncData} (F : Fun K "repeat" "Canvas.repeat" zcp f fd) (T : Tx K mg t) (G : zD P w K mg base 1 t.CV "put" ["self", "colour"] (zgj t)) : z0 P w K mg base (CXe P w) 2 f fd ["self", "length", "distance"] (zar t) := by
  refine F.okE zam (fun vs H Q E h => ?_) (fun cdv A outer s H vs Q E hr h => ?_)
  . obtain ⟨C, w, s, k, n, d, l, rfl, _⟩ := h
    rfl
  . obtain ⟨C, w, s, k, n, d, l, rfl, hC, hd0, hs, hn, hd, hl, kg, kb⟩ := h
    obtain ⟨dx, hin⟩ := hC.ins
    have hwl : (zm (zh l)).length = l.length := by rw [zo]; unfold zh; rw [List.length_map]
    refine ⟨_, zb (zp (i := 3) zam.nd rfl (Or.inl rfl) (zl yA (zG zC (by rfl) T.len PySem.boot_len (za (zy (pv 0) rfl) ze)) (pv 2)))
      (zb (yh (PW.pt (zer (zw jW (pv 3) zg (zE _)) (we (zw qP (zl zL (zG zC (by rfl) T.len PySem.boot_len (za (zy (pv 0) rfl) ze)) (pv 1)) (zy (pv 0) rfl) (zE _)))))
        (zf (z7 Lv.of (by rfl) T.gN T.xN)) zI)
      (zf (yV Lv.of.own rfl (jh rfl T.range (za (pv 3) (za (zl zL (pv 3) (pv 1)) ze))) (z6 (i := 4) zam.nd rfl (Or.inl rfl))
        (zf (zZ (pm G Lv.of T.cV hr (pv 0) (za (yu zP (zy (pv 0) rfl) (pv 4) (fun _ _ => rfl)) ze))))))), ?_⟩
    refine ⟨_, rfl, C.p, t.CV, dx, _, _, rfl, hin, T.cV, T.vC, xi _ _ _ _ _, C.l, _, rfl, .inl (SqL.of hC.lst), _, rfl, _, _, rfl, rfl, ?_⟩
    rw [hwl]
    refine ⟨_, rfl, _, _, rfl, rfl, _, rfl, yG (fun e => ?_) (fun e => ?_)⟩
    . have hlt : ¬ d <= l.length := by have := of_decide_eq_true e; omega
      exact zdB (kb (fun z => hlt z.1) _)
    . have hle : d <= l.length := by
        have : ¬ ((l.length : Int) - (d : Int)) < 0 := fun z => e (decide_eq_true z)
        omega
      refine ⟨_, rfl, C.p, t.CV, dx, _, _, rfl, hin, T.cV, T.vC, xi _ _ _ _ _, C.l, _, rfl, .inl (SqL.of hC.lst), _, rfl, _, _, rfl, rfl, _, rfl, C.p, t.CV, dx, _, _, rfl, hin, T.cV, T.vS, zaY _ _ _ _ _, _, _, rfl, rfl, _, rfl, yG (fun e2 => ?_) (fun e2 => ?_)⟩
      . have hgt : ¬ l.length + n <= s := by have := of_decide_eq_true e2; rw [hwl] at this; omega
        exact kb (fun z => hgt z.2) _
      . have hle2 : l.length + n <= s := by
          have : ¬ (s : Int) < ((zm (zh l)).length : Int) + (n : Int) := fun z => e2 (decide_eq_true z)
          rw [hwl] at this
          omega
        refine ⟨_, rfl, _, rfl, _, rfl, _, _, rfl, rfl, _, _, rfl, ⟨by omega, by omega, by omega, by omega⟩, ?_⟩
        have en : ((l.length : Int) - (d : Int) + (n : Int) - ((l.length : Int) - (d : Int))).toNat = n := by omega
        rw [en]
        refine y2 (n := n) (fun i σ H' => ∃ v4 : Option V, σ = [some (.ref C.p), some (nat n), some (nat d), some (.int ((l.length : Int) - (d : Int))), v4] /\ zY t H' C w s k (again i d l) /\ zF [C.l, C.c] H H')
          ⟨none, rfl, hC, zF.refl _ _⟩ ?_ ?_
        . rintro i σ H' hi ⟨v4, rfl, hC', kp⟩
          obtain ⟨dx2, hin2⟩ := hC'.ins
          obtain ⟨dx3, fs, e1, e3⟩ := hC'.meth (m := "put")
          have hal := kL i d l
          have hix : (again i d l).length - d < (again i d l).length := by rw [hal]; omega
          have hg : (zh (again i d l))[(again i d l).length - d]? = some ((again i d l).getD ((again i d l).length - d) Sn15.black).word := by
            unfold zh
            rw [List.getElem?_map, List.getElem?_eq_getElem hix, List.getD_eq_getElem?_getD, List.getElem?_eq_getElem hix]; rfl
          refine ⟨_, rfl, C.p, dx3, fs, rfl, e1, e3, _, rfl, C.p, t.CV, dx2, _, _, rfl, hin2, T.cV, T.vC, xi _ _ _ _ _, _, rfl, C.l, _, _, _, rfl, rfl, SqL.of hC'.lst, yB (by rw [hal]; omega) (yj hg),
            C, w, s, k, again i d l, _, rfl, hC', hC'.ok _ (getD_mem hix), ?_, ?_⟩
          . rw [hal]
            have : sizeLine = 2 ^ 24 := rfl
            omega
          . intro H2 c2 kp2
            rw [<- zaH] at c2
            exact ⟨_, rfl, c2, kp.trans kp2⟩
        . rintro σ H' ⟨v4, rfl, hC', kp⟩
          exact kg ⟨hle, hle2⟩ H' hC' kp
def zb6 (t : Ad) : Sp := fun vs H Q E => ∃ (B : Bi) (bs : List Bool) (s : Nat), vs = [.ref B.p, nat s] /\ s < 100 /\ zx t H B bs /\ Out t E B [] H zcu Q (value s bs)
theorem zfg : zn ["bits", "symbol", "extra"] ["bits", "symbol"] (zi zeK) := by trivial
theorem zh8 {f : Addr} {fd : FuncData} (F : Fun K "read_value" "read_value" zeK f fd) (T : Tx K mg t) (G : zD P w K mg base 2 t.CB "number" ["self", "width"] (yK t)) : z0 P w K mg base (CXe P w) 3 f fd ["bits", "symbol"] (zb6 t) := by
  refine F.okE zfg (fun vs H Q E h => ?_) (fun cdv A outer s H vs Q E hr h => ?_)
  . obtain ⟨B, bs, s, rfl, _⟩ := h
    rfl
  . obtain ⟨B, bs, sy, rfl, hs, hb, k⟩ := h
    refine ⟨_, zb (yh (zw jW (pv 1) zg (zE _)) (zf (zr (zl zL (pv 1) zg))) zI)
      (zb (zp (i := 2) zfg.nd rfl (Or.inl rfl) (zl qJ (zl yA (pv 1) zg) zg))
      (zf (zr (zl zL (zl zL (zl yT (zl zL zg (zl ze9 (pv 1) zg)) (pv 2)) (pm G Lv.of T.cB hr (pv 0) (za (pv 2) ze))) zg)))), ?_⟩
    refine ⟨_, rfl, _, _, rfl, rfl, _, rfl, yG (fun e => ?_) (fun e => ?_)⟩
    . have h4 : sy < 4 := by have := of_decide_eq_true e; omega
      refine ⟨_, rfl, _, _, rfl, rfl, ?_⟩
      unfold value at k
      rw [if_pos h4] at k
      exact k.pure hb rfl
    . have h4 : 4 <= sy := by
        have : ¬ (sy : Int) < 4 := fun z => e (decide_eq_true z)
        omega
      unfold value at k
      rw [if_neg (by omega)] at k
      obtain ⟨dx, fs, e1, e2⟩ := hb.meth (m := "number")
      have ex : ((sy : Int) - 2) / 2 = (((sy - 2) / 2 : Nat) : Int) := by omega
      refine ⟨_, rfl, _, _, rfl, rfl, _, _, rfl, rfl, ⟨by decide, by decide⟩, ?_⟩
      dsimp only
      rw [ex]
      refine ⟨_, rfl, _, _, rfl, rfl, (by show (0 : Int) < 2; decide), _, _, rfl, rfl, _, rfl, _, _, rfl, rfl, ⟨by omega, by omega, by omega⟩, _, rfl, B.p, dx, fs, rfl, e1, e2, _, rfl, B, bs, (sy - 2) / 2, rfl, by omega, hb, k.bind fun b bs' v H' hm hb' kp hv k' => ?_⟩
      cases hv
      refine ⟨_, _, rfl, rfl, _, _, rfl, rfl, ?_⟩
      have ev : (2 + (sy : Int) % 2) * 2 ^ (((sy - 2) / 2 : Nat) : Int).toNat + (b : Int) + 1 = (((2 + sy % 2) * 2 ^ ((sy - 2) / 2) + b + 1 : Nat) : Int) := by
        rw [Int.toNat_natCast, two_pow_int]
        simp
      dsimp only
      rw [ev]
      exact k'.pure hb' rfl
def zfy : Sp := fun vs H Q _ => ∃ (v w : Nat), vs = [nat v, nat w] /\ 0 < v /\ w <= 2 ^ 20 /\ Q (nat (back w v)) H
theorem zjq : zn ["value", "width", "pair"] ["value", "width"] (zi zj4) := by trivial
theorem vP : ∀ p ∈ Sn15.NEAR, -8 <= p.1 /\ p.1 <= 8 /\ 0 <= p.2 /\ p.2 <= 8 := by decide
theorem zkG {f : Addr} {fd : FuncData} (F : Fun K "distance_of" "distance_of" zj4 f fd) (T : Tx K mg t) : z0 P w K mg base (CXe P w) 1 f fd ["value", "width"] zfy := by
  obtain ⟨na, nas, hN, hNs, hNl, hNp⟩ := T.kNEAR
  refine F.okE zjq (fun vs H Q E h => ?_) (fun cdv A outer s H vs Q E hr h => ?_)
  . obtain ⟨v, w, rfl, _⟩ := h
    rfl
  . obtain ⟨v, w, rfl, hv, hw, k⟩ := h
    have hl : ((nas.map V.ref).length : Int) = 120 := by rw [List.length_map, hNl]; rfl
    refine ⟨_, zb (yh (zw qP (pv 0) (zG zC (by rfl) T.len PySem.boot_len (za (zH (v := .ref na) (by rfl) hN rfl) ze)) (zE _))
        (zf (zr (zl yA (pv 0) (zG zC (by rfl) T.len PySem.boot_len (za (zH (v := .ref na) (by rfl) hN rfl) ze))))) zI)
      (zb (zp (i := 2) zjq.nd rfl (Or.inl rfl) (yu zcV (zH (v := .ref na) (by rfl) hN rfl) (zl yA (pv 0) zg) (fun _ _ => rfl)))
      (zf (zr (zG (zbu rfl) (by rfl) T.max PyProof.Rows.boot_max (za zg (za (zl zL (yu zcV (pv 2) zg (fun _ _ => rfl)) (zl xA (yu zcV (pv 2) zg (fun _ _ => rfl)) (pv 1))) ze)))))), ?_⟩
    refine ⟨_, rfl, na, _, rfl, .inr (hNs _), _, _, rfl, rfl, _, rfl, yG (fun e => ?_) (fun e => ?_)⟩
    . have e' : 120 < v := by have := of_decide_eq_true e; rw [hl] at this; omega
      refine ⟨_, rfl, na, _, rfl, .inr (hNs _), _, _, rfl, rfl, ?_⟩
      dsimp only
      rw [hl]
      have q : (v : Int) - 120 = ((v - 120 : Nat) : Int) := by omega
      have qb : back w v = v - 120 := by unfold back; rw [if_pos e']
      rw [q, <- qb]
      exact k
    . have e' : v <= 120 := by
        have : ¬ ((nas.map V.ref).length : Int) < (v : Int) := fun z => e (decide_eq_true z)
        rw [hl] at this
        omega
      obtain ⟨b, hb⟩ : ∃ b, nas[v - 1]? = some b := ⟨_, List.getElem?_eq_getElem (by omega)⟩
      obtain ⟨x, y, hxy, hs⟩ := hNp (v - 1) b hb
      obtain ⟨h1, h2, h3, h4⟩ := vP _ (List.mem_of_getElem? hxy)
      refine ⟨_, rfl, _, _, rfl, rfl, na, _, _, .ref b, rfl, rfl, hNs _, yB (j := v - 1) (by omega) (jg hb), ?_⟩
      refine ⟨_, rfl, b, _, _, .int x, rfl, rfl, hs _, rfl, _, rfl, b, _, _, .int y, rfl, rfl, hs _, rfl, _, rfl, _, _, rfl, rfl, .inl ⟨by omega, by omega⟩, _, _, rfl, rfl, _, _, rfl, ?_⟩
      have qb : (if x + y * (w : Int) > 1 then x + y * (w : Int) else 1) = ((back w v : Nat) : Int) := by
        unfold back
        rw [if_neg (show ¬ 120 < v by omega)]
        have eg : Sn15.NEAR.getD (v - 1) (0, 0) = (x, y) := by rw [List.getD_eq_getElem?_getD, hxy]; rfl
        simp only [eg]
        by_cases hz : x + y * (w : Int) < 1
        . rw [if_pos hz, if_neg (by omega)]; rfl
        . rw [if_neg hz]
          by_cases h1 : x + y * (w : Int) > 1
          . rw [if_pos h1]; omega
          . rw [if_neg h1]; omega
      dsimp only
      rw [qb]
      exact k
end
end Lk
end
section
namespace Lk
open PySem PySem.Spec PyProof.Rows L2
open Sn15 (D bits bitsOf symbol Px)
abbrev zjK : Stmt := top 16
abbrev zgn : Stmt := top 17
abbrev zk8 : Stmt := top 18
abbrev zi5 : Stmt := top 19
abbrev zlE : Stmt := top 20
abbrev znN : Stmt := top 21
theorem Out.next {α β : Type} {t : Ad} {E : XK} {B : Bi} {ps : List Addr} {H : Hp} {R : β -> V -> Hp -> Prop} {Q : VK} {bs bs' : List Bool} {m : D α} {f : α -> D β} {a : α} (h : Out t E B ps H R Q ((m >>= f) bs)) (hm : m bs = some (a, bs')) : Out t E B ps H R Q (f a bs') := by
  rw [zJ, hm] at h
  exact h
theorem zx.same {t : Ad} {H H' : Hp} {B : Bi} {bs : List Bool} (h : zx t H B bs) (k : zN H H') : zx t H' B bs := h.kept (k := zF.same k []) (by simp) (by simp)
section
variable {P : Program} {w : World} {K : PySem.W.Frag} {mg : Str -> Option Value} {base : Heap} {t : Ad}
def ze3 (t : Ad) : Sp := fun vs H Q E => ∃ (B : Bi) (bs : List Bool) (size : Nat), vs = [.ref B.p, nat size] /\ zx t H B bs /\ Out t E B [] H zcu Q (zci size bs)
theorem zgX : zn ["bits", "size", "number_width", "most"] ["bits", "size"] (zi zlE) := by trivial
theorem zj3 {f : Addr} {fd : FuncData} (F : Fun K "read_most_symbols" "read_most_symbols" zlE f fd) (T : Tx K mg t) (Gb : zD P w K mg base 1 t.CB "bit" ["self"] (vt t)) (Gn : zD P w K mg base 2 t.CB "number" ["self", "width"] (yK t)) :
    z0 P w K mg base (CXe P w) 3 f fd ["bits", "size"] (ze3 t) := by
  refine F.okE zgX (fun vs H Q E h => ?_) (fun cdv A outer s H vs Q E hr h => ?_)
  . obtain ⟨B, bs, size, rfl, _⟩ := h
    rfl
  . obtain ⟨B, bs, size, rfl, hb, k⟩ := h
    have hr1 : yC 1 _ := hr.mono (by decide)
    refine ⟨_, zb (yh (zw xY (pm0 Gb Lv.of T.cB hr1 (pv 0)) zg (zE _)) (zf (zr (pv 1))) zI)
      (zb (zp (i := 2) zgX.nd rfl (Or.inl rfl) (zl zL zg (zl xA zg (pm Gn Lv.of T.cB hr (pv 0) (za zg ze)))))
      (zb (zp (i := 3) zgX.nd rfl (Or.inl rfl) (zl zL (pm Gn Lv.of T.cB hr (pv 0) (za (pv 2) ze)) zg))
      (zb (yh (zw qP (pv 3) (pv 1) (zE _)) (zf (z7 Lv.of (by rfl) T.gN T.xN)) zI)
      (zf (zr (pv 3)))))), ?_⟩
    unfold zci at k
    obtain ⟨dx, fs, e1, e2⟩ := hb.meth (m := "bit")
    refine ⟨_, rfl, B.p, dx, fs, rfl, e1, e2, B, bs, rfl, hb, k.bind fun u bs1 v H1 hm hb1 kp1 hv k1 => ?_⟩
    cases hv
    refine ⟨rfl, _, rfl, yG (fun e => ?_) (fun e => ?_)⟩
    . have e' : u = 0 := by have := V.int.inj (of_decide_eq_true e); omega
      rw [if_pos e'] at k1
      exact ⟨_, rfl, k1.pure hb1 rfl⟩
    . have e' : ¬ u = 0 := fun z => e (by rw [z]; exact decide_eq_true rfl)
      rw [if_neg e'] at k1
      obtain ⟨dx2, fs2, e3, e4⟩ := hb1.meth (m := "number")
      refine ⟨_, rfl, B.p, dx2, fs2, rfl, e3, e4, B, bs1, 3, rfl, by decide, hb1, k1.bind fun n bs2 v2 H2 hm2 hb2 kp2 hv2 k2 => ?_⟩
      cases hv2
      have hn : n < 8 := yk hm2
      obtain ⟨dx3, fs3, e5, e6⟩ := hb2.meth (m := "number")
      have q : (2 : Int) + 2 * (n : Int) = ((2 + 2 * n : Nat) : Int) := by omega
      refine ⟨_, _, rfl, rfl, .inl ⟨by decide, by decide⟩, _, _, rfl, rfl, ?_⟩
      dsimp only
      rw [q]
      refine ⟨_, rfl, B.p, dx3, fs3, rfl, e5, e6, _, rfl, B, bs2, 2 + 2 * n, rfl, by omega, hb2, k2.bind fun m bs3 v3 H3 hm3 hb3 kp3 hv3 k3 => ?_⟩
      cases hv3
      have q2 : (m : Int) + 2 = ((m + 2 : Nat) : Int) := by omega
      refine ⟨_, _, rfl, rfl, ?_⟩
      dsimp only
      rw [q2]
      obtain ⟨kt, kf⟩ := k3.need
      refine ⟨_, rfl, _, rfl, _, _, rfl, rfl, _, rfl, yG (fun e => ?_) (fun e => ?_)⟩
      . exact kf (decide_eq_false (by have := of_decide_eq_true e; omega)) _
      . have hle : m + 2 <= size := by
          have : ¬ (size : Int) < ((m + 2 : Nat) : Int) := fun z => e (decide_eq_true z)
          omega
        exact ⟨_, rfl, (kt (decide_eq_true hle)).pure hb3 rfl⟩
def zjl : List Nat -> V -> Hp -> Prop := fun l v H => ∃ a, v = .ref a /\ H a = some (.lst (zm l))
def zlN (s last : Nat) : D (List Nat) :=
  (if s = 16 then bits 2 else if s = 17 then bits 3 else bits 7) >>= fun k => pure (List.replicate (if s = 18 then k + 11 else k + 3) (if s = 16 then last else 0))
def zj8 (t : Ad) : Sp := fun vs H Q E => ∃ (B : Bi) (bs : List Bool) (s last : Nat), vs = [.ref B.p, nat s, nat last] /\ 15 < s /\ s < 19 /\ zx t H B bs /\ Out t E B [] H zjl Q (zlN s last bs)
theorem znb : zn ["bits", "symbol", "last"] ["bits", "symbol", "last"] (zi znN) := by trivial
theorem wP (n m : Nat) : (List.replicate n ([nat m] : List V)).flatten = zm (List.replicate n m) := by
  induction n with
  | zero => rfl
  | succ n ih => rw [List.replicate_succ, List.flatten_cons, ih]; rfl
theorem zbP {H H' : Hp} {B : Bi} {bs : List Bool} {x p : Addr} {l : List Nat} {E : XK} {Q : VK} (hb : zx t H' B bs) (hp : H' p = none) (k : Out t E B [] H' zjl Q ((pure l : D (List Nat)) bs)) : Q (.ref p) (upd H' p (.lst (zm l))) :=
  k.pure' (hb.kept (zF.new (ps := []) hp) (by simp) (by simp)) (zF.new hp) ⟨p, rfl, zc⟩
theorem zlW {f : Addr} {fd : FuncData} (F : Fun K "read_run" "read_run" znN f fd) (T : Tx K mg t) (Gn : zD P w K mg base 2 t.CB "number" ["self", "width"] (yK t)) :
    z0 P w K mg base (CXe P w) 3 f fd ["bits", "symbol", "last"] (zj8 t) := by
  refine F.okE znb (fun vs H Q E h => ?_) (fun cdv A outer s H vs Q E hr h => ?_)
  . obtain ⟨B, bs, s, last, rfl, _⟩ := h
    rfl
  . obtain ⟨B, bs, sy, last, rfl, hs1, hs2, hb, k⟩ := h
    refine ⟨_, zb (yh (zw xY (pv 1) zg (zE _)) (zf (zr (zl vX (yc (za (pv 2) ze)) (zl zL zg (pm Gn Lv.of T.cB hr (pv 0) (za zg ze)))))) zI)
      (zb (yh (zw xY (pv 1) zg (zE _)) (zf (zr (zl vX (yc (za zg ze)) (zl zL zg (pm Gn Lv.of T.cB hr (pv 0) (za zg ze)))))) zI)
      (zf (zr (zl vX (yc (za zg ze)) (zl zL zg (pm Gn Lv.of T.cB hr (pv 0) (za zg ze))))))), ?_⟩
    unfold zlN at k
    refine ⟨_, rfl, rfl, _, rfl, yG (fun e => ?_) (fun e => ?_)⟩
    . have e16 : sy = 16 := by have := V.int.inj (of_decide_eq_true e); omega
      subst e16
      simp only [if_true] at k
      refine ⟨_, rfl, (by show 1 <= sizeLine; decide), fun x hx => ?_⟩
      have hb0 : zx t (upd H x (.lst [nat last])) B bs := hb.kept (zF.new (ps := []) hx) (by simp) (by simp)
      have k0 := k.shift (zF.new (o := .lst [nat last]) hx)
      obtain ⟨dx, fs, e1, e2⟩ := hb0.meth (m := "number")
      refine ⟨_, rfl, B.p, dx, fs, rfl, e1, e2, B, bs, 2, rfl, by decide, hb0, k0.bind fun n bs1 v H1 hm hb1 kp1 hv k1 => ?_⟩
      cases hv
      have hn : n < 4 := yk hm
      have hx1 : H1 x = some (.lst [nat last]) := kp1.lst hb0 zc
      have q : ((3 : Int) + (n : Int)).toNat = n + 3 := by omega
      refine ⟨_, _, rfl, rfl, x, _, _, rfl, rfl, hx1, by omega, by omega, ?_, fun p hp => ?_⟩
      . rw [q]; show 1 * (n + 3) <= 2 ^ 24; omega
      . rw [q, wP]
        exact zbP (x := x) (H := H) hb1 hp k1
    . have e16 : ¬ sy = 16 := fun z => e (by rw [z]; exact decide_eq_true rfl)
      simp only [e16, if_false] at k
      refine ⟨_, rfl, rfl, _, rfl, yG (fun e => ?_) (fun e => ?_)⟩
      . have e17 : sy = 17 := by have := V.int.inj (of_decide_eq_true e); omega
        subst e17
        simp only [if_true] at k
        refine ⟨(by show 1 <= sizeLine; decide), fun x hx => ?_⟩
        have hb0 : zx t (upd H x (.lst [nat 0])) B bs := hb.kept (zF.new (ps := []) hx) (by simp) (by simp)
        have k0 := k.shift (zF.new (o := .lst [nat 0]) hx)
        obtain ⟨dx, fs, e1, e2⟩ := hb0.meth (m := "number")
        refine ⟨_, rfl, B.p, dx, fs, rfl, e1, e2, B, bs, 3, rfl, by decide, hb0, k0.bind fun n bs1 v H1 hm hb1 kp1 hv k1 => ?_⟩
        cases hv
        have hn : n < 8 := yk hm
        have hx1 : H1 x = some (.lst [nat 0]) := kp1.lst hb0 zc
        have q : ((3 : Int) + (n : Int)).toNat = n + 3 := by omega
        refine ⟨_, _, rfl, rfl, x, _, _, rfl, rfl, hx1, by omega, by omega, ?_, fun p hp => ?_⟩
        . rw [q]; show 1 * (n + 3) <= 2 ^ 24; omega
        . rw [q, wP]
          exact zbP (x := x) (H := H) hb1 hp k1
      . have e17 : ¬ sy = 17 := fun z => e (by rw [z]; exact decide_eq_true rfl)
        have e18 : sy = 18 := by omega
        subst e18
        simp only [if_true] at k
        refine ⟨(by show 1 <= sizeLine; decide), fun x hx => ?_⟩
        have hb0 : zx t (upd H x (.lst [nat 0])) B bs := hb.kept (zF.new (ps := []) hx) (by simp) (by simp)
        have k0 := k.shift (zF.new (o := .lst [nat 0]) hx)
        obtain ⟨dx, fs, e1, e2⟩ := hb0.meth (m := "number")
        refine ⟨_, rfl, B.p, dx, fs, rfl, e1, e2, B, bs, 7, rfl, by decide, hb0, k0.bind fun n bs1 v H1 hm hb1 kp1 hv k1 => ?_⟩
        cases hv
        have hn : n < 128 := yk hm
        have hx1 : H1 x = some (.lst [nat 0]) := kp1.lst hb0 zc
        have q : ((11 : Int) + (n : Int)).toNat = n + 11 := by omega
        refine ⟨_, _, rfl, rfl, x, _, _, rfl, rfl, hx1, by omega, by omega, ?_, fun p hp => ?_⟩
        . rw [q]; show 1 * (n + 11) <= 2 ^ 24; omega
        . rw [q, wP]
          exact zbP (x := x) (H := H) hb1 hp k1
def zfN (t : Ad) : Sp := fun vs H Q E => ∃ (B : Bi) (bs : List Bool), vs = [.ref B.p] /\ zx t H B bs /\ Out t E B [] H (vM t) Q (zbQ bs)
abbrev zmE : List Str := ["bits", "told", "lengths", "symbol"]
theorem zaL : zn zmE ["bits"] (zi zi5) := by trivial
theorem zac {n m : Nat} (h : m <= n) (d : Nat) : HT.sIx n d (some (m : Int)) = m := by
  show (if (m : Int) < 0 then ((m : Int) + (n : Int)).toNat else min (m : Int).toNat n) = m
  rw [if_neg (by omega), Int.toNat_natCast, Nat.min_eq_left h]
theorem zij (l : List Nat) (m : Nat) (h : m <= l.length) : zeb (zm l) none (some (m : Int)) = zm (l.take m) := by
  unfold zeb
  rw [zo, zac h]
  show ((zm l).drop 0).take (m - 0) = _
  unfold zm
  rw [List.drop_zero, Nat.sub_zero, List.map_take]
theorem zcQ : ∀ s ∈ Sn15.ORDER, s < 19 := by decide
theorem zjj {K : PySem.W.Frag} {H : Hp} {a : Addr} {xs : List V} (h : (∀ H', SqT K H' a xs) \/ H a = some (.tup xs)) : SqT K H a xs := by
  rcases h with h | h
  . exact h H
  . exact SqT.of h
def znW (K : PySem.W.Frag) (t : Ad) (E : XK) (B : Bi) (H1 : Hp) (Q : VK) (la ta : Addr) (ord : List Nat) (v1 : Option V) (i : Nat) (σ : L2.St) (Hx : Hp) : Prop := ∃ (v3 : Option V) (l : List Nat) (bs : List Bool), σ = [some (.ref B.p), v1, some (.ref la), v3] /\ Hx la = some (.lst (zm l)) /\ l.length = 19 /\ (∀ n ∈ l, n <= 15) /\
  zx t Hx B bs /\ zF [B.p] H1 Hx /\ H1 la = none /\ ((∀ H', SqT K H' ta (zm ord)) \/ Hx ta = some (.tup (zm ord))) /\ Out t E B [] H1 (vM t) Q ((zcC (ord.drop i) l >>= fun c => Sn15.need (Sn15.good c) >>= fun _ => pure c) bs)
theorem zjv {f : Addr} {fd : FuncData} (F : Fun K "read_code_of_lengths" "read_code_of_lengths" zi5 f fd) (T : Tx K mg t) (Gn : zD P w K mg base 2 t.CB "number" ["self", "width"] (yK t)) (Gc : zB P w K mg base 3 "code_of_lengths" ["lengths"] (ziN t)) :
    z0 P w K mg base (CXe P w) 4 f fd ["bits"] (zfN t) := by
  obtain ⟨oa, hO, hOs⟩ := T.kORDER
  refine F.okE zaL (fun vs H Q E h => ?_) (fun cdv A outer s H vs Q E hr h => ?_)
  . obtain ⟨B, bs, rfl, _⟩ := h
    rfl
  . obtain ⟨B, bs, rfl, hb, k⟩ := h
    have hr2 : yC 2 _ := hr.mono (by decide)
    refine ⟨_, zb (zp (i := 1) zaL.nd rfl (Or.inl rfl) (zl zL (pm Gn Lv.of T.cB hr2 (pv 0) (za zg ze)) zg))
      (zb (zc0 (i := 2) (own := [("symbol", 3)]) rfl zaL.nd rfl rfl (zeN rfl rfl rfl rfl) (zaI (zH (v := .ref oa) (by rfl) hO rfl)) (by show kO zmE (zi zi5) _ _; exact qw (by decide +kernel))
        (fun _ _ _ _ _ => z6 (i := 3) zaL.nd rfl (Or.inl rfl)) (fun _ _ _ _ _ => jz) (fun _ _ _ _ _ => zg))
      (zb (yV Lv.of.own rfl (zaI (j6 (zlS.or zkp) (zH (v := .ref oa) (by rfl) hO rfl) zk3 (qK (pv 1)))) (z6 (i := 3) zaL.nd rfl (Or.inl rfl))
        (zf (zgm (pm Gn Lv.of T.cB hr2 (pv 0) (za zg ze)) (zfs (pv 2) (pv 3) wQ))))
      (zf (zr (pd Gc Lv.of hr (za (pv 2) ze)))))), ?_⟩
    unfold zbQ at k
    obtain ⟨dx, fs, e1, e2⟩ := hb.meth (m := "number")
    refine ⟨_, rfl, B.p, dx, fs, rfl, e1, e2, B, bs, 4, rfl, by decide, hb, k.bind fun n bs1 v H1 hm hb1 kp1 hv k1 => ?_⟩
    cases hv
    have hn : n < 16 := yk hm
    have q4 : (n : Int) + 4 = ((n + 4 : Nat) : Int) := by omega
    refine ⟨_, _, rfl, rfl, ?_⟩
    dsimp only
    rw [q4]
    have hol : Sn15.ORDER.length = 19 := rfl
    refine ⟨oa, rfl, ⟨_, hOs _⟩, fun la hla => zmY (K := K) (a := oa) (xs := zm Sn15.ORDER) (fun i Hx => Hx la = some (.lst (zm (List.replicate i 0))) /\ zN H1 Hx) ⟨zc, zt (zN.refl _) hla⟩ (fun i Hx _ _ => hOs _) ?_ ?_⟩
    . rintro i x Hx hx ⟨h1, h2⟩
      have hi : i < 19 := by have := (List.getElem?_eq_some_iff.mp hx).1; rw [zo] at this; exact this
      refine ⟨rfl, wf ⟨_, h1, ?_, ?_, yo h2 hla⟩⟩
      . rw [zo, List.length_replicate]; exact Nat.lt_trans hi (by decide)
      . rw [zc, List.replicate_succ', yw]; rfl
    . rintro Hx ⟨h1, h2⟩
      rw [zo, hol] at h1
      have hbx := hb1.same h2
      have kx : zF [B.p] H1 Hx := zF.same h2 _
      have hlt : (Sn15.ORDER.take (n + 4)).length = n + 4 := by rw [List.length_take, hol]; omega
      by_cases hw : n + 4 = 19
      . refine ⟨_, rfl, _, rfl, .inr ⟨oa, _, rfl, hOs _, ⟨rfl, by rw [zo, hol]; exact (zac (by omega) _).trans hw⟩, oa, rfl, ⟨_, hOs _⟩, jv (K := K) (a := oa) (xs := zm (Sn15.ORDER.take (n + 4))) (znW K t E B H1 Q la oa (Sn15.ORDER.take (n + 4)) (some (nat (n + 4)))) ⟨none, List.replicate 19 0, bs1, rfl, h1, by simp, by simp, hbx, kx, hla, (.inl (by rw [hw]; exact hOs)), k1⟩ (fun i σ Hz _ ⟨_, _, _, _, _, _, _, _, kz, _, hS, _⟩ => zjj hS) ?_ ?_⟩⟩
        . rintro i x σ Hz hx ⟨v3, l, bs2, rfl, hl2, hlen2, h15, hb2, kz, nla, hS, k2⟩
          obtain ⟨sym, hsym, rfl⟩ := yQ hx
          have hil : i < (Sn15.ORDER.take (n + 4)).length := (List.getElem?_eq_some_iff.mp hsym).1
          have hs19 : sym < 19 := zcQ sym (List.mem_of_mem_take (List.mem_of_getElem? hsym))
          rw [List.drop_eq_getElem_cons hil] at k2
          have hsy : (Sn15.ORDER.take (n + 4))[i] = sym := by rw [List.getElem?_eq_getElem hil] at hsym; exact Option.some.inj hsym
          rw [hsy] at k2
          have k3 : Out t E B [] H1 (vM t) Q ((bits 3 >>= fun q => zcC ((Sn15.ORDER.take (n + 4)).drop (i + 1)) (l.set sym q) >>= fun c => Sn15.need (Sn15.good c) >>= fun _ => pure c) bs2) := by
            have e : (zcC (sym :: (Sn15.ORDER.take (n + 4)).drop (i + 1)) l >>= fun c => Sn15.need (Sn15.good c) >>= fun _ => (pure c : D Sn15.Code)) = (bits 3 >>= fun q => zcC ((Sn15.ORDER.take (n + 4)).drop (i + 1)) (l.set sym q) >>= fun c => Sn15.need (Sn15.good c) >>= fun _ => pure c) := by
              show ((bits 3 >>= fun q => zcC _ (l.set sym q)) >>= _) = _
              rw [zK]
            rw [<- e]; exact k2
          obtain ⟨dx2, fs2, e3, e4⟩ := hb2.meth (m := "number")
          refine ⟨_, rfl, B.p, dx2, fs2, rfl, e3, e4, B, bs2, 3, rfl, by decide, hb2, (k3.shift kz).bind fun q bs3 v H3 hm hb3 kp3 hv _ => ?_⟩
          cases hv
          have hq : q < 8 := yk hm
          have hl3 := kp3.lst hb2 hl2
          have nlp : B.p ≠ la := by
            obtain ⟨dz, iz, z1, _⟩ := hb3
            exact y6 z1 hl3 (by intro z; cases z)
          have nlo : B.o ≠ la := by
            obtain ⟨dz, iz, _, z2, _⟩ := hb1
            exact zd z2 nla
          refine ⟨_, rfl, _, rfl, la, _, _, sym, rfl, rfl, hl3, wK (by rw [zo, hlen2]; exact hs19), some (nat sym), l.set sym q, bs3, rfl, ?_, by rw [List.length_set]; exact hlen2, fun m hm => ?_, ?_, ?_, nla, ?_, k3.next hm⟩
          . rw [zc, kZ]
          . rcases List.mem_or_eq_of_mem_set hm with z | z
            . exact h15 m z
            . omega
          . exact hb3.kept (ps := [la]) (zF.put (by simp)) (by simpa using nlp) (by simpa using nlo)
          . intro b o e nb
            have := kp3 b o (kz b o e nb) nb
            rw [zk (zd e nla)]
            exact this
          . rcases hS with hS | hS
            . exact .inl hS
            . refine .inr ?_
              have nT : oa ≠ B.p := by
                obtain ⟨dz, iz, z1, _⟩ := hb2
                exact y6 hS z1 (by intro z; cases z)
              rw [zk (y6 hS hl2 (by intro z; cases z))]
              exact kp3 _ _ hS (by simpa using nT)
        . rintro σ Hz ⟨v3, l, bs2, rfl, hl2, hlen2, h15, hb2, kz, nla, hS, k2⟩
          rw [zo, List.drop_length] at k2
          have k3 : Out t E B [] H1 (vM t) Q ((Sn15.need (Sn15.good l) >>= fun _ => (pure l : D Sn15.Code)) bs2) := k2
          obtain ⟨kt, kf⟩ := k3.need
          refine ⟨_, rfl, la, l, rfl, hl2, h15, by omega, fun hg a H4 hc sm => ?_, fun hg => kf hg⟩
          exact (kt hg).pure' (hb2.same sm) (kz.trans (zF.same sm _)) ⟨a, rfl, hc.toAt⟩
      . refine ⟨_, rfl, _, rfl, .inl ⟨oa, _, rfl, hOs _, fun z => hw ?_, fun p hp => ⟨p, rfl, ⟨_, SqT.of zc⟩, jv (K := K) (a := p) (xs := zm (Sn15.ORDER.take (n + 4))) (znW K t E B H1 Q la p (Sn15.ORDER.take (n + 4)) (some (nat (n + 4)))) ⟨none, List.replicate 19 0, bs1, rfl, (by rw [zk (zd h1 hp)]; exact h1), by simp, by simp, (hbx.kept (zF.new (ps := []) hp) (by simp) (by simp)), (kx.trans (zF.new hp)), hla, (.inr (by rw [zc, zij _ _ (by rw [hol]; omega)])), k1⟩ (fun i σ Hz _ ⟨_, _, _, _, _, _, _, _, kz, _, hS, _⟩ => zjj hS) ?_ ?_⟩⟩⟩
        . have := z.2
          rw [zo, hol] at this
          exact (zac (n := 19) (m := n + 4) (by omega) 19).symm.trans this
        . rintro i x σ Hz hx ⟨v3, l, bs2, rfl, hl2, hlen2, h15, hb2, kz, nla, hS, k2⟩
          obtain ⟨sym, hsym, rfl⟩ := yQ hx
          have hil : i < (Sn15.ORDER.take (n + 4)).length := (List.getElem?_eq_some_iff.mp hsym).1
          have hs19 : sym < 19 := zcQ sym (List.mem_of_mem_take (List.mem_of_getElem? hsym))
          rw [List.drop_eq_getElem_cons hil] at k2
          have hsy : (Sn15.ORDER.take (n + 4))[i] = sym := by rw [List.getElem?_eq_getElem hil] at hsym; exact Option.some.inj hsym
          rw [hsy] at k2
          have k3 : Out t E B [] H1 (vM t) Q ((bits 3 >>= fun q => zcC ((Sn15.ORDER.take (n + 4)).drop (i + 1)) (l.set sym q) >>= fun c => Sn15.need (Sn15.good c) >>= fun _ => pure c) bs2) := by
            have e : (zcC (sym :: (Sn15.ORDER.take (n + 4)).drop (i + 1)) l >>= fun c => Sn15.need (Sn15.good c) >>= fun _ => (pure c : D Sn15.Code)) = (bits 3 >>= fun q => zcC ((Sn15.ORDER.take (n + 4)).drop (i + 1)) (l.set sym q) >>= fun c => Sn15.need (Sn15.good c) >>= fun _ => pure c) := by
              show ((bits 3 >>= fun q => zcC _ (l.set sym q)) >>= _) = _
              rw [zK]
            rw [<- e]; exact k2
          obtain ⟨dx2, fs2, e3, e4⟩ := hb2.meth (m := "number")
          refine ⟨_, rfl, B.p, dx2, fs2, rfl, e3, e4, B, bs2, 3, rfl, by decide, hb2, (k3.shift kz).bind fun q bs3 v H3 hm hb3 kp3 hv _ => ?_⟩
          cases hv
          have hq : q < 8 := yk hm
          have hl3 := kp3.lst hb2 hl2
          have nlp : B.p ≠ la := by
            obtain ⟨dz, iz, z1, _⟩ := hb3
            exact y6 z1 hl3 (by intro z; cases z)
          have nlo : B.o ≠ la := by
            obtain ⟨dz, iz, _, z2, _⟩ := hb1
            exact zd z2 nla
          refine ⟨_, rfl, _, rfl, la, _, _, sym, rfl, rfl, hl3, wK (by rw [zo, hlen2]; exact hs19), some (nat sym), l.set sym q, bs3, rfl, ?_, by rw [List.length_set]; exact hlen2, fun m hm => ?_, ?_, ?_, nla, ?_, k3.next hm⟩
          . rw [zc, kZ]
          . rcases List.mem_or_eq_of_mem_set hm with z | z
            . exact h15 m z
            . omega
          . exact hb3.kept (ps := [la]) (zF.put (by simp)) (by simpa using nlp) (by simpa using nlo)
          . intro b o e nb
            have := kp3 b o (kz b o e nb) nb
            rw [zk (zd e nla)]
            exact this
          . rcases hS with hS | hS
            . exact .inl hS
            . refine .inr ?_
              have nT : p ≠ B.p := by
                obtain ⟨dz, iz, z1, _⟩ := hb2
                exact y6 hS z1 (by intro z; cases z)
              rw [zk (y6 hS hl2 (by intro z; cases z))]
              exact kp3 _ _ hS (by simpa using nT)
        . rintro σ Hz ⟨v3, l, bs2, rfl, hl2, hlen2, h15, hb2, kz, nla, hS, k2⟩
          rw [zo, List.drop_length] at k2
          have k3 : Out t E B [] H1 (vM t) Q ((Sn15.need (Sn15.good l) >>= fun _ => (pure l : D Sn15.Code)) bs2) := k2
          obtain ⟨kt, kf⟩ := k3.need
          refine ⟨_, rfl, la, l, rfl, hl2, h15, by omega, fun hg a H4 hc sm => ?_, fun hg => kf hg⟩
          exact (kt hg).pure' (hb2.same sm) (kz.trans (zF.same sm _)) ⟨a, rfl, hc.toAt⟩
end
end Lk
end
section
namespace Lk
open PySem PySem.Spec PyProof.Rows L2
open Sn15 (D bits bitsOf symbol Px)
theorem zb9 (c : Sn15.Code) (size n most last : Nat) (l : List Nat) (h : l.length < size) (hm : 0 < most) : Sn15.lengths c size (n + 1) most last l = (symbol c >>= fun s => if s < 16 then Sn15.lengths c size n (most - 1) (if s = 0 then last else s) (l ++ [s]) else
    (zlN s last >>= fun r => Sn15.need (decide (l.length + r.length <= size)) >>= fun _ => Sn15.lengths c size n (most - 1) last (l ++ r))) := by
  rw [qj c size n most last l h hm]
  congr 1
  funext s
  by_cases h16 : s < 16
  . rw [if_pos h16, if_pos h16]
  . rw [if_neg h16, if_neg h16]
    unfold zlN
    rw [zK]
    simp only [zq, List.length_replicate]
theorem zkM {s last : Nat} {r : List Nat} {bs bs' : List Bool} (hl : last <= 15) (h : zlN s last bs = some (r, bs')) : (∀ n ∈ r, n <= 15) /\ r.length <= 140 := by
  unfold zlN at h
  obtain ⟨k, bs1, hk, h⟩ := bind_some h
  cases h
  have hk2 : k < 128 := by
    split at hk
    . have := yk hk; omega
    . split at hk
      . have := yk hk; omega
      . have := yk hk; omega
  refine ⟨fun n hn => ?_, ?_⟩
  . rw [List.eq_of_mem_replicate hn]
    split <;> omega
  . rw [List.length_replicate]
    split <;> omega
theorem zeL {c : Sn15.Code} {bs bs' : List Bool} (h : zbQ bs = some (c, bs')) : c.length = 19 := by
  unfold zbQ at h
  obtain ⟨n, bs1, _, h⟩ := bind_some h
  obtain ⟨d, bs2, hd, h⟩ := bind_some h
  obtain ⟨_, bs3, _, h⟩ := bind_some h
  cases h
  exact (zfC _ _ _ _ _ (by simp) hd).1.trans (by simp)
theorem ziK {size m : Nat} {bs bs' : List Bool} (h : zci size bs = some (m, bs')) : m <= size := by
  unfold zci at h
  obtain ⟨u, bs1, _, h⟩ := bind_some h
  split at h
  . cases h; exact Nat.le_refl _
  . obtain ⟨k, bs2, _, h⟩ := bind_some h
    obtain ⟨q, bs3, _, h⟩ := bind_some h
    obtain ⟨_, bs4, hn, h⟩ := bind_some h
    cases h
    exact of_decide_eq_true (qc hn).1
def ziZ (size : Nat) : D Sn15.Code := do
  let c <- zbQ
  let most <- zci size
  Sn15.lengths c size (size + 1) most 8 []
theorem ziC (size : Nat) : qX size = ziZ size := by unfold qX ziZ; rw [zle]
def zdA (size : Nat) : Sn15.Code -> V -> Hp -> Prop := fun l v H => ∃ (a : Addr) (l0 : List Nat), v = .ref a /\ H a = some (.lst (zm l0)) /\ l0.length <= size /\ l = l0 ++ List.replicate (size - l0.length) 0 /\ ∀ n ∈ l0, n <= 15
def zjM (t : Ad) (E : XK) (B : Bi) (H2 : Hp) (Q : VK) (size : Nat) (c : Sn15.Code) (ca la : Addr) (m : Nat) (σ : L2.St) (Hx : Hp) : Prop := ∃ (last : Nat) (l : List Nat) (bs : List Bool) (v6 : Option V),
  σ = [some (.ref B.p), some (nat size), some (.ref ca), some (nat m), some (.ref la), some (nat last), v6] /\ Hx la = some (.lst (zm l)) /\ (∀ n ∈ l, n <= 15) /\ last <= 15 /\ zx t Hx B bs /\ zF [B.p] H2 Hx /\ l.length <= size + 200 /\
  (l.length <= size -> ∃ n, m < n /\ Out t E B [] H2 (zdA size) Q (Sn15.lengths c size n m last l bs)) /\ (size < l.length -> ∀ H', E (.ref t.CN) none H')
theorem qY {t : Ad} {H2 Hx : Hp} {B : Bi} {bs bs2 : List Bool} {la : Addr} {o : HO} (hb : zx t Hx B bs) (hb2 : zx t H2 B bs2) (nla : H2 la = none) : zx t (upd Hx la o) B bs := by
  obtain ⟨dz, iz, z1, z2, _⟩ := hb2
  exact hb.kept (ps := [la]) (zF.put (by simp)) (by simpa using zd z1 nla) (by simpa using zd z2 nla)
theorem ji {H2 Hx : Hp} {ps : List Addr} {la : Addr} {o : HO} (k : zF ps H2 Hx) (nla : H2 la = none) : zF ps H2 (upd Hx la o) := fun b u e n => by
  rw [zk (zd e nla)]; exact k b u e n
section
variable {P : Program} {w : World} {K : PySem.W.Frag} {mg : Str -> Option Value} {base : Heap} {t : Ad}
def zgz (t : Ad) : Sp := fun vs H Q E => ∃ (B : Bi) (bs : List Bool) (size : Nat), vs = [.ref B.p, nat size] /\ size <= 3000 /\ zx t H B bs /\ Out t E B [] H (zdA size) Q (ziZ size bs)
theorem jR : zn ["bits", "size", "code", "left", "lengths", "last", "symbol"] ["bits", "size"] (zi zk8) := by trivial
theorem zkH {f : Addr} {fd : FuncData} (F : Fun K "read_lengths" "read_lengths" zk8 f fd) (T : Tx K mg t) (Gx : zD P w K mg base 2 t.CC "next_symbol" ["self", "bits"] (zbA t)) (Gc : zB P w K mg base 4 "read_code_of_lengths" ["bits"] (zfN t))
    (Gm : zB P w K mg base 3 "read_most_symbols" ["bits", "size"] (ze3 t)) (Gr : zB P w K mg base 3 "read_run" ["bits", "symbol", "last"] (zj8 t)) : z0 P w K mg base (CXe P w) 5 f fd ["bits", "size"] (zgz t) := by
  obtain ⟨uL, hL, rL⟩ := T.kLONGEST
  refine F.okE jR (fun vs H Q E h => ?_) (fun cdv A outer s H vs Q E hr h => ?_)
  . obtain ⟨B, bs, size, rfl, _⟩ := h
    rfl
  . obtain ⟨B, bs, size, rfl, hsz, hb, k⟩ := h
    have hr3 : yC 3 _ := hr.mono (by decide)
    have hr2 : yC 2 _ := hr.mono (by decide)
    refine ⟨_, zb (zp (i := 2) jR.nd rfl (Or.inl rfl) (pd Gc Lv.of hr (za (pv 0) ze)))
      (zb (zp (i := 3) jR.nd rfl (Or.inl rfl) (pd Gm Lv.of hr3 (za (pv 0) (za (pv 1) ze))))
      (zb (yh (PW.pt (zfa (zhi (zeF (zy (pv 2) rfl))) (zbT (zw zf0 (zy (pv 2) rfl) (zH (by rfl) hL rL) (zE _))))) (zf (zr (zl vX (yc (za (zy (pv 2) rfl) ze)) (pv 3)))) zI)
      (zb (zp (i := 4) jR.nd rfl (Or.inl rfl) (yc ze))
      (zb (zp (i := 5) jR.nd rfl (Or.inl rfl) zg)
      (zb (jl Lv.of.own (PW.pt (zfa (zw qP (pv 3) zg (zE _)) (zbT (zw jW (zG zC (by rfl) T.len PySem.boot_len (za (pv 4) ze)) (pv 1) (zE _)))))
        (zb (zba (i := 3) jR.nd rfl (Or.inl rfl) zg zl1)
        (zb (zp (i := 6) jR.nd rfl (Or.inl rfl) (pm Gx Lv.of T.cC hr2 (pv 2) (za (pv 0) ze)))
        (zf (yh (zw qP (pv 6) (zH (by rfl) hL rL) (zE _))
          (zf (zZ (xz PySem.F.plainAttrs_list PySem.F.slot_list_extend PySem.F.type_list_extend zbw (pv 4) (za (pd Gr Lv.of hr3 (za (pv 0) (za (pv 6) (za (pv 5) ze)))) ze))))
          (zb (zZ (xz PySem.F.plainAttrs_list PySem.F.slot_list_append PySem.F.type_list_append yb (pv 4) (za (pv 6) ze)))
            (zf (zp (i := 5) jR.nd rfl (Or.inl rfl) (xP (zw qP (pv 6) zg (zE _)) (pv 6) (pv 5))))))))))
      (zb (yh (zw qP (zG zC (by rfl) T.len PySem.boot_len (za (pv 4) ze)) (pv 1) (zE _)) (zf (z7 Lv.of (by rfl) T.gN T.xN)) zI)
      (zf (zr (pv 4))))))))), ?_⟩
    unfold ziZ at k
    refine ⟨_, rfl, B, bs, rfl, hb, k.bind fun c bs1 v H1 hm hb1 kp1 hv k1 => ?_⟩
    obtain ⟨ca, rfl, hc1⟩ := hv
    have hc19 := zeL hm
    refine ⟨_, rfl, _, rfl, B, bs1, size, rfl, hb1, k1.bind fun most bs2 v2 H2 hm2 hb2 kp2 hv2 k2 => ?_⟩
    cases hv2
    have hms := ziK hm2
    have hc2 := hc1.kept hb1 kp2
    obtain ⟨cdx, wa, was, words, sole, c1, c2, c3, c4⟩ := id hc2
    by_cases hq : ∃ sy, sole = some sy /\ sy <= 15
    . obtain ⟨sy, rfl, hsy⟩ := hq
      refine ⟨_, rfl, ca, t.CC, cdx, _, _, rfl, c1, T.cC, T.nS, xL _ _, _, rfl, zdB ?_⟩
      refine ⟨_, rfl, ca, t.CC, cdx, _, _, rfl, c1, T.cC, T.nS, xL _ _, _, _, rfl, rfl, _, rfl, ?_⟩
      have e1 : decide (((sy : Nat) : Int) <= 15) = true := decide_eq_true (by omega)
      rw [e1]
      refine zdB ?_
      refine ⟨_, rfl, ca, t.CC, cdx, _, _, rfl, c1, T.cC, T.nS, xL _ _, (by show 1 <= sizeLine; decide), fun x hx => ⟨_, rfl, x, _, _, rfl, rfl, zc, by omega, by omega, ?_, fun p hp => ?_⟩⟩
      . rw [Int.toNat_natCast]
        show 1 * most <= 2 ^ 24
        omega
      . rw [Int.toNat_natCast]
        show Q (.ref p) (upd (upd H2 x (.lst [nat sy])) p (.lst (List.replicate most [nat sy]).flatten))
        rw [wP]
        have kk := jL c4.1 (by omega : sy < 16) size (size + 1) most 8 [] (by omega) (by simpa using hms)
        rw [kk] at k2
        have sm : zN H2 (upd (upd H2 x (.lst [nat sy])) p (.lst (zm (List.replicate most sy)))) := zt (zt (zN.refl _) hx) hp
        refine k2.pure' (hb2.same sm) (zF.same sm _) ⟨p, List.replicate most sy, rfl, zc, by rw [List.length_replicate]; exact hms, ?_, fun n hn => by rw [List.eq_of_mem_replicate hn]; exact hsy⟩
        simp
    . have tst : ∀ (R : Bool -> Hp -> Prop), R false H2 -> (znY (tB (zmJ (znG K (zlL 2) "sole"))) (zmP (tOp (rI0 fun i j => .bl (decide (i <= j))) (znG K (zlL 2) "sole") (tC (.int 15))))) [some (.ref B.p), some (nat size), some (.ref ca), some (nat most), none, none, none] H2 R := fun R hR => by
        cases sole with
        | none => exact ⟨_, rfl, ca, t.CC, cdx, _, _, rfl, c1, T.cC, T.nS, xL _ _, _, rfl, zlP hR⟩
        | some sy =>
          have h15 : ¬ sy <= 15 := fun z => hq ⟨sy, rfl, z⟩
          refine ⟨_, rfl, ca, t.CC, cdx, _, _, rfl, c1, T.cC, T.nS, xL _ _, _, rfl, zdB ?_⟩
          refine ⟨_, rfl, ca, t.CC, cdx, _, _, rfl, c1, T.cC, T.nS, xL _ _, _, _, rfl, rfl, _, rfl, ?_⟩
          have e1 : decide (((sy : Nat) : Int) <= 15) = false := decide_eq_false (by omega)
          rw [e1]
          exact hR
      refine tst _ (zlP ?_)
      refine ⟨Nat.zero_le _, fun la hla => ?_⟩
      have sm0 : zN H2 (upd H2 la (.lst [])) := zt (zN.refl _) hla
      refine ⟨zjM t E B H2 Q size c ca la, ⟨most, 8, [], bs2, none, rfl, zc, fun n hn => absurd hn (by simp), by decide, hb2.same sm0, zF.same sm0 _, Nat.zero_le _, fun _ => ⟨size + 1, by omega, k2⟩, fun z => absurd z (by simp)⟩, ?_⟩
      rintro m σ Hx ⟨last, l, bs3, v6, rfl, hl3, h15, hlast, hb3, kp3, hlen, kl, kb⟩
      refine ⟨_, rfl, _, _, rfl, rfl, _, rfl, yG (fun e1 => ?_) (fun e1 => ?_)⟩
      . have hm0 : 0 < m := by have := of_decide_eq_true e1; omega
        refine ⟨_, rfl, la, _, rfl, .inl (SqL.of hl3), _, rfl, _, _, rfl, rfl, _, rfl, yG (fun e2 => ?_) (fun e2 => ?_)⟩
        . have hls : l.length < size := by have := of_decide_eq_true e2; rw [zo] at this; omega
          obtain ⟨n, hn, kn⟩ := kl (by omega)
          obtain ⟨n', rfl⟩ : ∃ n', n = n' + 1 := ⟨n - 1, by omega⟩
          rw [zb9 c size n' m last l hls hm0] at kn
          refine ⟨fun σ' H' => ∃ m', m' < m /\ zjM t E B H2 Q size c ca la m' σ' H', fun _ _ h => h, ?_⟩
          have qm : (m : Int) - 1 = ((m - 1 : Nat) : Int) := by omega
          refine ⟨_, rfl, _, _, rfl, rfl, ?_⟩
          dsimp only
          rw [qm]
          have hc3 := hc2.kept hb2 kp3
          obtain ⟨ddx, wa', was', words', sole', d1, _⟩ := id hc3
          refine ⟨_, rfl, ca, ddx, _, rfl, d1, zdk _ _ (by decide +kernel) (by decide +kernel), _, rfl, B, bs3, ca, c, rfl, hc3, hb3, (kn.shift kp3).bind fun sy bs4 v4 H4 hm4 hb4 kp4 hv4 _ => ?_⟩
          cases hv4
          have k4 := kn.next hm4
          have hs19 : sy < 19 := by rw [<- hc19]; exact xD hm4
          have hl4 := kp4.lst hb3 hl3
          have kp34 := kp3.trans kp4
          refine ⟨_, rfl, _, _, rfl, rfl, _, rfl, yG (fun e5 => ?_) (fun e5 => ?_)⟩
          . have h16 : 15 < sy := by have := of_decide_eq_true e5; omega
            rw [if_neg (by omega)] at k4
            refine ⟨_, rfl, .inl ⟨rfl, _, SqL.of hl4⟩, _, rfl, _, rfl, _, rfl, B, bs4, sy, last, rfl, h16, hs19, hb4, (k4.shift kp34).bind fun r bs5 v5 H5 hm5 hb5 kp5 hv5 _ => ?_⟩
            obtain ⟨ra, rfl, hra⟩ := hv5
            have k5 := k4.next hm5
            obtain ⟨hr15, hrl⟩ := zkM hlast hm5
            have hl5 := kp5.lst hb4 hl4
            refine ⟨la, ra, _, _, rfl, rfl, hl5, hra, ?_, m - 1, by omega, last, l ++ r, bs5, some (nat sy), rfl, by rw [zc, yw], fun n hn => ?_, hlast, qY hb5 hb2 hla, ji (kp34.trans kp5) hla, by rw [List.length_append]; omega, fun hle => ?_, fun hgt => ?_⟩
            . rw [zo, zo]
              show l.length + r.length <= 2 ^ 24
              omega
            . rcases List.mem_append.mp hn with z | z
              . exact h15 n z
              . exact hr15 n z
            . exact ⟨n', by omega, k5.need.1 (decide_eq_true (by rw [<- List.length_append]; exact hle))⟩
            . exact k5.need.2 (decide_eq_false (by rw [<- List.length_append]; omega))
          . have h16 : sy < 16 := by
              have : ¬ (15 : Int) < (sy : Int) := fun z => e5 (decide_eq_true z)
              omega
            rw [if_pos h16] at k4
            have go : ∀ lst : Nat, lst = (if sy = 0 then last else sy) -> ∃ m', m' < m /\ zjM t E B H2 Q size c ca la m' [some (.ref B.p), some (nat size), some (.ref ca), some (nat (m - 1)), some (.ref la), some (nat lst), some (nat sy)] (upd H4 la (.lst (zm l ++ [nat sy]))) := by
              intro lst hlst
              refine ⟨m - 1, by omega, lst, l ++ [sy], bs4, some (nat sy), rfl, by rw [zc, yw]; rfl, fun n hn => ?_, ?_, qY hb4 hb2 hla, ji kp34 hla, by simp; omega, fun hle => ⟨n', by omega, ?_⟩, fun hgt => ?_⟩
              . rcases List.mem_append.mp hn with z | z
                . exact h15 n z
                . rw [List.mem_singleton.mp z]; omega
              . rw [hlst]; split <;> omega
              . rw [hlst]; exact k4
              . rw [List.length_append] at hgt
                simp at hgt
                omega
            refine ⟨_, rfl, .inl ⟨rfl, _, SqL.of hl4⟩, _, rfl, la, _, _, rfl, rfl, hl4, ?_, ?_⟩
            . rw [zo]
              exact Nat.lt_of_le_of_lt (by omega : l.length <= 3000) (by decide)
            . refine ⟨_, rfl, _, _, rfl, rfl, _, rfl, yG (fun e6 => ?_) (fun e6 => ?_)⟩
              . have : 0 < sy := by have := of_decide_eq_true e6; omega
                exact ⟨_, rfl, go sy (by rw [if_neg (by omega)])⟩
              . have : sy = 0 := by
                  have : ¬ (0 : Int) < (sy : Int) := fun z => e6 (decide_eq_true z)
                  omega
                exact ⟨_, rfl, go last (by rw [if_pos this])⟩
        . have hge : size <= l.length := by
            have : ¬ ((zm l).length : Int) < (size : Int) := fun z => e2 (decide_eq_true z)
            rw [zo] at this
            omega
          have hend : l.length <= size -> ∃ q, Sn15.lengths c size q m last l bs3 = some (l ++ List.replicate (size - l.length) 0, bs3) /\ Out t E B [] H2 (zdA size) Q (Sn15.lengths c size q m last l bs3) := fun hle => by
            obtain ⟨n, hn, kn⟩ := kl hle
            obtain ⟨n', rfl⟩ : ∃ n', n = n' + 1 := ⟨n - 1, by omega⟩
            exact ⟨n' + 1, by rw [xE c size n' m last l (.inl hge)]; rfl, kn⟩
          refine ⟨_, rfl, la, _, rfl, .inl (SqL.of hl3), _, rfl, _, _, rfl, rfl, _, rfl, yG (fun e3 => ?_) (fun e3 => ?_)⟩
          . exact kb (by have := of_decide_eq_true e3; rw [zo] at this; omega) _
          . have hle : l.length <= size := by
              have : ¬ (size : Int) < ((zm l).length : Int) := fun z => e3 (decide_eq_true z)
              rw [zo] at this
              omega
            obtain ⟨q, hq, kq⟩ := hend hle
            rw [hq] at kq
            exact ⟨_, rfl, kq _ _ hb3 kp3 ⟨la, l, rfl, hl3, hle, rfl, h15⟩⟩
      . have hm0 : m = 0 := by
          have : ¬ (0 : Int) < (m : Int) := fun z => e1 (decide_eq_true z)
          omega
        refine zlP ?_
        have hend : l.length <= size -> ∃ q, Sn15.lengths c size q m last l bs3 = some (l ++ List.replicate (size - l.length) 0, bs3) /\ Out t E B [] H2 (zdA size) Q (Sn15.lengths c size q m last l bs3) := fun hle => by
          obtain ⟨n, hn, kn⟩ := kl hle
          obtain ⟨n', rfl⟩ : ∃ n', n = n' + 1 := ⟨n - 1, by omega⟩
          exact ⟨n' + 1, by rw [xE c size n' m last l (.inr hm0)]; rfl, kn⟩
        refine ⟨_, rfl, la, _, rfl, .inl (SqL.of hl3), _, rfl, _, _, rfl, rfl, _, rfl, yG (fun e3 => ?_) (fun e3 => ?_)⟩
        . exact kb (by have := of_decide_eq_true e3; rw [zo] at this; omega) _
        . have hle : l.length <= size := by
            have : ¬ (size : Int) < ((zm l).length : Int) := fun z => e3 (decide_eq_true z)
            rw [zo] at this
            omega
          obtain ⟨q, hq, kq⟩ := hend hle
          rw [hq] at kq
          exact ⟨_, rfl, kq _ _ hb3 kp3 ⟨la, l, rfl, hl3, hle, rfl, h15⟩⟩
def zbE (t : Ad) (H0 : Hp) : Sn15.Code -> V -> Hp -> Prop := fun c v H => ∃ a, v = .ref a /\ zV H0 t H a c
theorem yE {t : Ad} {H H' : Hp} {B : Bi} {bs : List Bool} (k : zF [B.p] H H') (hb : zx t H' B bs) : ∀ x, H' x = none -> H x = none := fun x hx => by
  obtain ⟨dx, i, z, _⟩ := hb
  exact k.free hx (by simpa using (zd z hx).symm)
def zcJ (t : Ad) : Sp := fun vs H Q E => ∃ (B : Bi) (bs : List Bool) (size : Nat), vs = [.ref B.p, nat size] /\ zx t H B bs /\ Out t E B [] H (zbE t H) Q (wc size bs)
theorem vw : zn ["bits", "size", "two", "first_width", "first", "second"] ["bits", "size"] (zi zgn) := by trivial
theorem zhG {f : Addr} {fd : FuncData} (F : Fun K "read_short_code" "read_short_code" zgn f fd) (T : Tx K mg t) (Gb : zD P w K mg base 1 t.CB "bit" ["self"] (vt t)) (Gn : zD P w K mg base 2 t.CB "number" ["self", "width"] (yK t))
    (G : yp P w K mg base 1 t.CC "Code" ["self", "words", "sole"] (zab t)) : z0 P w K mg base (CXe P w) 3 f fd ["bits", "size"] (zcJ t) := by
  refine F.okE vw (fun vs H Q E h => ?_) (fun cdv A outer s H vs Q E hr h => ?_)
  . obtain ⟨B, bs, size, rfl, _⟩ := h
    rfl
  . obtain ⟨B, bs, size, rfl, hb, k⟩ := h
    have hr1 : yC 1 _ := hr.mono (by decide)
    refine ⟨_, zb (zp (i := 2) vw.nd rfl (Or.inl rfl) (pm0 Gb Lv.of T.cB hr1 (pv 0)))
      (zb (zp (i := 3) vw.nd rfl (Or.inl rfl) (xP (zw xY (pm0 Gb Lv.of T.cB hr1 (pv 0)) zg (zE _)) zg zg))
      (zb (zp (i := 4) vw.nd rfl (Or.inl rfl) (pm Gn Lv.of T.cB hr (pv 0) (za (pv 3) ze)))
      (zb (yh (zw zgC (pv 4) (pv 1) (zE _)) (zf (z7 Lv.of (by rfl) T.gN T.xN)) zI)
      (zb (yh (zw xY (pv 2) zg (zE _)) (zf (zr (pmk G Lv.of hr (za (yc (za (yc ze) (za (yc (za (pv 4) ze)) ze))) (za (pv 4) ze))))) zI)
      (zb (zp (i := 5) vw.nd rfl (Or.inl rfl) (pm Gn Lv.of T.cB hr (pv 0) (za zg ze)))
      (zb (yh (PW.pt (zer (zw zgC (pv 5) (pv 1) (zE _)) (we (zw xY (pv 5) (pv 4) (zE _))))) (zf (z7 Lv.of (by rfl) T.gN T.xN)) zI)
      (zf (zr (pmk G Lv.of hr (za (yc (za (yc ze) (za (yc (za (zG (zfd rfl) (by rfl) T.min PyProof.Rows.boot_min (za (pv 4) (za (pv 5) ze))) (za (zG (zbu rfl) (by rfl) T.max PyProof.Rows.boot_max (za (pv 4) (za (pv 5) ze))) ze))) ze))) (za zc6 ze))))))))))), ?_⟩
    unfold wc at k
    obtain ⟨dx, fs, e1, e2⟩ := hb.meth (m := "bit")
    refine ⟨_, rfl, B.p, dx, fs, rfl, e1, e2, B, bs, rfl, hb, k.bind fun two bs1 v1 H1 hm1 hb1 kp1 hv1 k1 => ?_⟩
    cases hv1
    have htwo : two < 2 := qB hm1
    obtain ⟨dx1, fs1, e3, e4⟩ := hb1.meth (m := "bit")
    refine ⟨_, rfl, B.p, dx1, fs1, rfl, e3, e4, B, bs1, rfl, hb1, k1.bind fun long bs2 v2 H2 hm2 hb2 kp2 hv2 k2 => ?_⟩
    cases hv2
    obtain ⟨dx2, fs2, e5, e6⟩ := hb2.meth (m := "number")
    have hfw : ∀ fw : Nat, fw = (if long = 1 then 8 else 1) -> fw <= 1000 := fun fw h => by rw [h]; split <;> decide
    refine ⟨rfl, _, rfl, yG (fun e => ?_) (fun e => ?_)⟩
    . have hl : long = 1 := by have := V.int.inj (of_decide_eq_true e); omega
      rw [if_pos hl] at k2
      refine ⟨_, rfl, B.p, dx2, fs2, rfl, e5, e6, _, rfl, B, bs2, 8, rfl, by decide, hb2, k2.bind fun a bs3 v3 H3 hm3 hb3 kp3 hv3 k3 => ?_⟩
      cases hv3
      obtain ⟨kt, kf⟩ := k3.need
      refine ⟨_, rfl, _, rfl, _, _, rfl, rfl, _, rfl, yG (fun e7 => ?_) (fun e7 => ?_)⟩
      . exact kf (decide_eq_false (by have := of_decide_eq_true e7; omega)) _
      . have ha : a < size := by
          have : ¬ (size : Int) <= (a : Int) := fun z => e7 (decide_eq_true z)
          omega
        have k4 := kt (decide_eq_true ha)
        refine ⟨_, rfl, rfl, _, rfl, yG (fun e8 => ?_) (fun e8 => ?_)⟩
        . have h0 : ¬ two = 1 := by have := V.int.inj (of_decide_eq_true e8); omega
          rw [if_neg h0] at k4
          refine ⟨Nat.zero_le _, fun x0 hx0 => ⟨_, rfl, (by show 1 <= sizeLine; decide), fun x1 hx1 => ⟨(by show 2 <= sizeLine; decide), fun wa hwa => ⟨_, rfl, ?_⟩⟩⟩⟩
          intro p dxp hp hdxp hne
          refine ⟨p, wa, dxp, some a, rfl, zc, fun H' e9 kp => ⟨rfl, ?_⟩⟩
          have f0 : upd (upd (upd H3 x0 (.lst [])) x1 (.lst [nat a])) wa (.lst [.ref x0, .ref x1]) x0 = some (.lst (zm [])) := by
            rw [zk (zd (o := .lst []) (by rw [zk (zd zc hx1)]; exact zc) hwa), zk (zd zc hx1)]; exact zc
          have f1 : upd (upd (upd H3 x0 (.lst [])) x1 (.lst [nat a])) wa (.lst [.ref x0, .ref x1]) x1 = some (.lst (zm [a])) := by
            rw [zk (zd zc hwa)]; exact zc
          have sm : zN H3 (upd (upd (upd H3 x0 (.lst [])) x1 (.lst [nat a])) wa (.lst [.ref x0, .ref x1])) := zt (zt (zt (zN.refl _) hx0) hx1) hwa
          have d3 := yE ((kp1.trans kp2).trans kp3) hb3
          obtain ⟨g1, g2⟩ := zV.made (H0 := H) (c := jN size a) (was := [x0, x1]) (words := [[], [a]]) hp hdxp kp e9 zc ⟨rfl, fun j x hx => match j, hx with
            | 0, hx => ⟨[], rfl, by rw [<- Option.some.inj hx]; exact f0⟩
            | 1, hx => ⟨[a], rfl, by rw [<- Option.some.inj hx]; exact f1⟩
            | j + 2, hx => by simp at hx⟩ ⟨vn ha, by rw [qv]; exact ha⟩ (fun x hx => d3 x (sm.free hx)) (d3 _ ((zt (zt (zN.refl _) hx0) hx1).free hwa)) (fun x hx => by
            simp only [List.mem_cons, List.not_mem_nil, or_false] at hx
            rcases hx with z | z
            . rw [z]; exact d3 _ hx0
            . rw [z]; exact d3 _ ((zt (zN.refl _) hx0).free hx1))
          exact k4.pure' (hb3.same (sm.trans g2)) (zF.same (sm.trans g2) _) ⟨p, rfl, g1⟩
        . have h1 : two = 1 := by
            have : ¬ two = 0 := fun z => e8 (by rw [z]; exact decide_eq_true rfl)
            omega
          rw [if_pos h1] at k4
          obtain ⟨dx3, fs3, e9, e10⟩ := hb3.meth (m := "number")
          refine ⟨_, rfl, B.p, dx3, fs3, rfl, e9, e10, B, bs3, 8, rfl, by decide, hb3, k4.bind fun b bs5 v5 H5 hm5 hb5 kp5 hv5 k5 => ?_⟩
          cases hv5
          obtain ⟨kt5, kf5⟩ := k5.need
          refine ⟨_, rfl, _, rfl, _, _, rfl, rfl, _, rfl, yG (fun e11 => ?_) (fun e11 => ?_)⟩
          . have hbs : ¬ b < size := by have := of_decide_eq_true e11; omega
            exact zdB (kf5 (by rw [decide_eq_false hbs]; rfl) _)
          . have hbs : b < size := by
              have : ¬ (size : Int) <= (b : Int) := fun z => e11 (decide_eq_true z)
              omega
            refine ⟨_, rfl, _, rfl, rfl, _, rfl, yG (fun e12 => ?_) (fun e12 => ?_)⟩
            . have hab : b = a := by have := V.int.inj (of_decide_eq_true e12); omega
              exact kf5 (by rw [hab, decide_eq_true ha]; simp) _
            . have hab : a ≠ b := fun z => e12 (by rw [z]; exact decide_eq_true rfl)
              have k6 := kt5 (by rw [decide_eq_true hbs, Bool.true_and, bne_iff_ne]; exact fun z => hab z.symm)
              have qmin : (if (b : Int) < (a : Int) then (b : Int) else (a : Int)) = ((min a b : Nat) : Int) := by split <;> omega
              have qmax : (if (b : Int) > (a : Int) then (b : Int) else (a : Int)) = ((max a b : Nat) : Int) := by split <;> omega
              refine ⟨Nat.zero_le _, fun x0 hx0 => ⟨_, rfl, _, rfl, _, _, rfl, _, rfl, _, rfl, _, _, rfl, (by show 2 <= sizeLine; decide), fun x1 hx1 => ⟨(by show 2 <= sizeLine; decide), fun wa hwa => ?_⟩⟩⟩
              rw [qmin, qmax]
              intro p dxp hp hdxp hne
              refine ⟨p, wa, dxp, none, rfl, zc, fun H' e9 kp => ⟨rfl, ?_⟩⟩
              rw [qmin, qmax] at hwa
              generalize hW : upd (upd (upd H5 x0 (.lst [])) x1 (.lst [nat (min a b), nat (max a b)])) wa (.lst [.ref x0, .ref x1]) = HW at hp hdxp kp
              have f0 : HW x0 = some (.lst (zm [])) := by
                rw [<- hW, zk (zd (o := .lst []) (by rw [zk (zd zc hx1)]; exact zc) hwa), zk (zd zc hx1)]; exact zc
              have f1 : HW x1 = some (.lst (zm [min a b, max a b])) := by
                rw [<- hW, zk (zd zc hwa)]; exact zc
              have f2 : HW wa = some (.lst [.ref x0, .ref x1]) := by rw [<- hW]; exact zc
              have sm : zN H5 HW := by rw [<- hW]; exact zt (zt (zt (zN.refl _) hx0) hx1) hwa
              have d5 := yE (((kp1.trans kp2).trans kp3).trans kp5) hb5
              obtain ⟨g1, g2⟩ := zV.made (H0 := H) (c := xk size a b) (was := [x0, x1]) (words := [[], [min a b, max a b]]) hp hdxp kp e9 f2 ⟨rfl, fun j x hx => match j, hx with
                | 0, hx => ⟨[], rfl, by rw [<- Option.some.inj hx]; exact f0⟩
                | 1, hx => ⟨_, rfl, by rw [<- Option.some.inj hx]; exact f1⟩
                | j + 2, hx => by simp at hx⟩ ⟨_, rfl, ⟨by simp, by simp [zcA]⟩, ja ha hbs hab⟩ (fun x hx => d5 x (sm.free hx)) (d5 _ ((zt (zt (zN.refl _) hx0) hx1).free hwa)) (fun x hx => by
                simp only [List.mem_cons, List.not_mem_nil, or_false] at hx
                rcases hx with z | z
                . rw [z]; exact d5 _ hx0
                . rw [z]; exact d5 _ ((zt (zN.refl _) hx0).free hx1))
              exact k6.pure' (hb5.same (sm.trans g2)) (zF.same (sm.trans g2) _) ⟨p, rfl, g1⟩
    . have hl : ¬ long = 1 := fun z => e (by rw [z]; exact decide_eq_true rfl)
      rw [if_neg hl] at k2
      refine ⟨_, rfl, B.p, dx2, fs2, rfl, e5, e6, _, rfl, B, bs2, 1, rfl, by decide, hb2, k2.bind fun a bs3 v3 H3 hm3 hb3 kp3 hv3 k3 => ?_⟩
      cases hv3
      obtain ⟨kt, kf⟩ := k3.need
      refine ⟨_, rfl, _, rfl, _, _, rfl, rfl, _, rfl, yG (fun e7 => ?_) (fun e7 => ?_)⟩
      . exact kf (decide_eq_false (by have := of_decide_eq_true e7; omega)) _
      . have ha : a < size := by
          have : ¬ (size : Int) <= (a : Int) := fun z => e7 (decide_eq_true z)
          omega
        have k4 := kt (decide_eq_true ha)
        refine ⟨_, rfl, rfl, _, rfl, yG (fun e8 => ?_) (fun e8 => ?_)⟩
        . have h0 : ¬ two = 1 := by have := V.int.inj (of_decide_eq_true e8); omega
          rw [if_neg h0] at k4
          refine ⟨Nat.zero_le _, fun x0 hx0 => ⟨_, rfl, (by show 1 <= sizeLine; decide), fun x1 hx1 => ⟨(by show 2 <= sizeLine; decide), fun wa hwa => ⟨_, rfl, ?_⟩⟩⟩⟩
          intro p dxp hp hdxp hne
          refine ⟨p, wa, dxp, some a, rfl, zc, fun H' e9 kp => ⟨rfl, ?_⟩⟩
          have f0 : upd (upd (upd H3 x0 (.lst [])) x1 (.lst [nat a])) wa (.lst [.ref x0, .ref x1]) x0 = some (.lst (zm [])) := by
            rw [zk (zd (o := .lst []) (by rw [zk (zd zc hx1)]; exact zc) hwa), zk (zd zc hx1)]; exact zc
          have f1 : upd (upd (upd H3 x0 (.lst [])) x1 (.lst [nat a])) wa (.lst [.ref x0, .ref x1]) x1 = some (.lst (zm [a])) := by
            rw [zk (zd zc hwa)]; exact zc
          have sm : zN H3 (upd (upd (upd H3 x0 (.lst [])) x1 (.lst [nat a])) wa (.lst [.ref x0, .ref x1])) := zt (zt (zt (zN.refl _) hx0) hx1) hwa
          have d3 := yE ((kp1.trans kp2).trans kp3) hb3
          obtain ⟨g1, g2⟩ := zV.made (H0 := H) (c := jN size a) (was := [x0, x1]) (words := [[], [a]]) hp hdxp kp e9 zc ⟨rfl, fun j x hx => match j, hx with
            | 0, hx => ⟨[], rfl, by rw [<- Option.some.inj hx]; exact f0⟩
            | 1, hx => ⟨[a], rfl, by rw [<- Option.some.inj hx]; exact f1⟩
            | j + 2, hx => by simp at hx⟩ ⟨vn ha, by rw [qv]; exact ha⟩ (fun x hx => d3 x (sm.free hx)) (d3 _ ((zt (zt (zN.refl _) hx0) hx1).free hwa)) (fun x hx => by
            simp only [List.mem_cons, List.not_mem_nil, or_false] at hx
            rcases hx with z | z
            . rw [z]; exact d3 _ hx0
            . rw [z]; exact d3 _ ((zt (zN.refl _) hx0).free hx1))
          exact k4.pure' (hb3.same (sm.trans g2)) (zF.same (sm.trans g2) _) ⟨p, rfl, g1⟩
        . have h1 : two = 1 := by
            have : ¬ two = 0 := fun z => e8 (by rw [z]; exact decide_eq_true rfl)
            omega
          rw [if_pos h1] at k4
          obtain ⟨dx3, fs3, e9, e10⟩ := hb3.meth (m := "number")
          refine ⟨_, rfl, B.p, dx3, fs3, rfl, e9, e10, B, bs3, 8, rfl, by decide, hb3, k4.bind fun b bs5 v5 H5 hm5 hb5 kp5 hv5 k5 => ?_⟩
          cases hv5
          obtain ⟨kt5, kf5⟩ := k5.need
          refine ⟨_, rfl, _, rfl, _, _, rfl, rfl, _, rfl, yG (fun e11 => ?_) (fun e11 => ?_)⟩
          . have hbs : ¬ b < size := by have := of_decide_eq_true e11; omega
            exact zdB (kf5 (by rw [decide_eq_false hbs]; rfl) _)
          . have hbs : b < size := by
              have : ¬ (size : Int) <= (b : Int) := fun z => e11 (decide_eq_true z)
              omega
            refine ⟨_, rfl, _, rfl, rfl, _, rfl, yG (fun e12 => ?_) (fun e12 => ?_)⟩
            . have hab : b = a := by have := V.int.inj (of_decide_eq_true e12); omega
              exact kf5 (by rw [hab, decide_eq_true ha]; simp) _
            . have hab : a ≠ b := fun z => e12 (by rw [z]; exact decide_eq_true rfl)
              have k6 := kt5 (by rw [decide_eq_true hbs, Bool.true_and, bne_iff_ne]; exact fun z => hab z.symm)
              have qmin : (if (b : Int) < (a : Int) then (b : Int) else (a : Int)) = ((min a b : Nat) : Int) := by split <;> omega
              have qmax : (if (b : Int) > (a : Int) then (b : Int) else (a : Int)) = ((max a b : Nat) : Int) := by split <;> omega
              refine ⟨Nat.zero_le _, fun x0 hx0 => ⟨_, rfl, _, rfl, _, _, rfl, _, rfl, _, rfl, _, _, rfl, (by show 2 <= sizeLine; decide), fun x1 hx1 => ⟨(by show 2 <= sizeLine; decide), fun wa hwa => ?_⟩⟩⟩
              rw [qmin, qmax]
              intro p dxp hp hdxp hne
              refine ⟨p, wa, dxp, none, rfl, zc, fun H' e9 kp => ⟨rfl, ?_⟩⟩
              rw [qmin, qmax] at hwa
              generalize hW : upd (upd (upd H5 x0 (.lst [])) x1 (.lst [nat (min a b), nat (max a b)])) wa (.lst [.ref x0, .ref x1]) = HW at hp hdxp kp
              have f0 : HW x0 = some (.lst (zm [])) := by
                rw [<- hW, zk (zd (o := .lst []) (by rw [zk (zd zc hx1)]; exact zc) hwa), zk (zd zc hx1)]; exact zc
              have f1 : HW x1 = some (.lst (zm [min a b, max a b])) := by
                rw [<- hW, zk (zd zc hwa)]; exact zc
              have f2 : HW wa = some (.lst [.ref x0, .ref x1]) := by rw [<- hW]; exact zc
              have sm : zN H5 HW := by rw [<- hW]; exact zt (zt (zt (zN.refl _) hx0) hx1) hwa
              have d5 := yE (((kp1.trans kp2).trans kp3).trans kp5) hb5
              obtain ⟨g1, g2⟩ := zV.made (H0 := H) (c := xk size a b) (was := [x0, x1]) (words := [[], [min a b, max a b]]) hp hdxp kp e9 f2 ⟨rfl, fun j x hx => match j, hx with
                | 0, hx => ⟨[], rfl, by rw [<- Option.some.inj hx]; exact f0⟩
                | 1, hx => ⟨_, rfl, by rw [<- Option.some.inj hx]; exact f1⟩
                | j + 2, hx => by simp at hx⟩ ⟨_, rfl, ⟨by simp, by simp [zcA]⟩, ja ha hbs hab⟩ (fun x hx => d5 x (sm.free hx)) (d5 _ ((zt (zt (zN.refl _) hx0) hx1).free hwa)) (fun x hx => by
                simp only [List.mem_cons, List.not_mem_nil, or_false] at hx
                rcases hx with z | z
                . rw [z]; exact d5 _ hx0
                . rw [z]; exact d5 _ ((zt (zN.refl _) hx0).free hx1))
              exact k6.pure' (hb5.same (sm.trans g2)) (zF.same (sm.trans g2) _) ⟨p, rfl, g1⟩
def zlb (t : Ad) (H0 : Hp) (size : Nat) : Sn15.Code -> V -> Hp -> Prop := fun c v H => zbE t H0 c v H /\ c.length = size
def zg9 (t : Ad) : Sp := fun vs H Q E => ∃ (B : Bi) (bs : List Bool) (size : Nat), vs = [.ref B.p, nat size] /\ size <= 3000 /\ zx t H B bs /\ Out t E B [] H (zlb t H size) Q (Sn15.code size bs)
theorem zmn : zn ["bits", "size"] ["bits", "size"] (zi zjK) := by trivial
theorem zV.pad {H0 : Hp} {t : Ad} {H : Hp} {a : Addr} {l : List Nat} (h : zV H0 t H a l) (k : Nat) : zV H0 t H a (l ++ List.replicate k 0) := by
  obtain ⟨dx, wa, was, words, sole, ⟨h1, h2, h3, h4⟩, n⟩ := h
  refine ⟨dx, wa, was, words, sole, ⟨h1, h2, h3, ?_⟩, n⟩
  cases sole with
  | some s => exact ⟨by rw [wb]; exact h4.1, by rw [List.length_append]; exact Nat.lt_of_lt_of_le h4.2 (Nat.le_add_right _ _)⟩
  | none =>
    obtain ⟨ws, hw, hf, hs⟩ := h4
    exact ⟨ws, hw, hf, by rw [wb]; exact hs⟩
theorem zkB {f : Addr} {fd : FuncData} (F : Fun K "read_code" "read_code" zjK f fd) (T : Tx K mg t) (Gb : zD P w K mg base 1 t.CB "bit" ["self"] (vt t)) (Gs : zB P w K mg base 3 "read_short_code" ["bits", "size"] (zcJ t))
    (Gl : zB P w K mg base 5 "read_lengths" ["bits", "size"] (zgz t)) (Gc : zB P w K mg base 3 "code_of_lengths" ["lengths"] (ziN t)) : z0 P w K mg base (CXe P w) 6 f fd ["bits", "size"] (zg9 t) := by
  refine F.okE zmn (fun vs H Q E h => ?_) (fun cdv A outer s H vs Q E hr h => ?_)
  . obtain ⟨B, bs, size, rfl, _⟩ := h
    rfl
  . obtain ⟨B, bs, size, rfl, hsz, hb, k⟩ := h
    have hr1 : yC 1 _ := hr.mono (by decide)
    have hr3 : yC 3 _ := hr.mono (by decide)
    refine ⟨_, zb (yh (zw xY (pm0 Gb Lv.of T.cB hr1 (pv 0)) zg (zE _)) (zf (zr (pd Gs Lv.of hr3 (za (pv 0) (za (pv 1) ze))))) zI)
      (zf (zr (pd Gc Lv.of hr3 (za (pd Gl Lv.of hr (za (pv 0) (za (pv 1) ze))) ze)))), ?_⟩
    rw [zk4] at k
    have hlen : ∀ c bs', zaQ size bs = some (c, bs') -> c.length = size := fun c bs' h => zg8 h
    have k0 : Out t E B [] H (zbE t H) Q (zaQ size bs) := by
      cases hm : zaQ size bs with
      | none => rw [hm] at k; exact k
      | some x => rw [hm] at k; exact fun v H2 b k2 r => k v H2 b k2 ⟨r, hlen x.1 x.2 hm⟩
    unfold zaQ at k0
    rw [ziC] at k0
    obtain ⟨dx, fs, e1, e2⟩ := hb.meth (m := "bit")
    refine ⟨_, rfl, B.p, dx, fs, rfl, e1, e2, B, bs, rfl, hb, k0.bind fun u bs1 v1 H1 hm1 hb1 kp1 hv1 k1 => ?_⟩
    cases hv1
    refine ⟨rfl, _, rfl, yG (fun e => ?_) (fun e => ?_)⟩
    . have e' : u = 1 := by have := V.int.inj (of_decide_eq_true e); omega
      rw [if_pos e'] at k1
      exact ⟨_, rfl, _, rfl, B, bs1, size, rfl, hb1, k1.imp fun c v H' ⟨a, e, h⟩ => ⟨a, e, h.rebase (yE kp1 hb1)⟩⟩
    . have e' : ¬ u = 1 := fun z => e (by rw [z]; exact decide_eq_true rfl)
      rw [if_neg e'] at k1
      refine ⟨_, rfl, _, rfl, B, bs1, size, rfl, hsz, hb1, k1.bind fun l bs2 v2 H2 hm2 hb2 kp2 hv2 k2 => ?_⟩
      obtain ⟨la, l0, rfl, hla, hl0, rfl, h15⟩ := hv2
      rw [zhD] at k2
      obtain ⟨kt, kf⟩ := k2.need
      refine ⟨la, l0, rfl, hla, h15, by omega, fun hg a H4 hc sm => ?_, fun hg => kf hg⟩
      exact (kt hg).pure' (hb2.same sm) (zF.same sm _) ⟨a, rfl, (hc.rebase (yE (kp1.trans kp2) hb2)).pad _⟩
end
end Lk
end
section
namespace Lk
open PySem PySem.Spec PyProof.Rows L2
open Sn15 (D bits bitsOf symbol Px Group up)
abbrev zg1 : Stmt := zU (top 32) 0
abbrev zfx : Stmt := zU (top 32) 1
abbrev zfj : Stmt := zU (top 33) 0
abbrev zgW : Stmt := zU (top 33) 1
abbrev zf7 : Stmt := top 34
abbrev zfu : Stmt := top 35
abbrev zeX : Stmt := top 39
abbrev wN : Stmt := top 42
abbrev zkb : Stmt := top 43
abbrev zbD : Stmt := top 44
def sqF (z ac : Nat) (cl : Addr) : List (Str × V) := [("shift", nat z), ("across", nat ac), ("colours", .ref cl)]
theorem zmR (z ac : Nat) (cl : Addr) : (sqF z ac cl).lookup ("shift" : Str) = some (nat z) := zT
theorem znq (z ac : Nat) (cl : Addr) : (sqF z ac cl).lookup ("across" : Str) = some (nat ac) := (zu (by decide +kernel)).trans zT
theorem zkC (z ac : Nat) (cl : Addr) : (sqF z ac cl).lookup ("colours" : Str) = some (.ref cl) := (zu (by decide +kernel)).trans ((zu (by decide +kernel)).trans zT)
theorem zhd (z ac : Nat) (cl : Addr) {m : Str} (h1 : (m == ("shift" : Str)) = false) (h2 : (m == ("across" : Str)) = false) (h3 : (m == ("colours" : Str)) = false) : (sqF z ac cl).lookup m = none := (zu h1).trans ((zu h2).trans ((zu h3).trans rfl))
structure zex (t : Ad) (H : Hp) (a cl : Addr) (z ac : Nat) (l : List Px) : Prop where
  ins : ∃ dx, H a = some (.ins t.CS dx (sqF z ac cl))
  lst : H cl = some (.lst (zm (zh l)))
  ok : ∀ p ∈ l, yf p
theorem zex.kept {t : Ad} {H H' : Hp} {a cl : Addr} {z ac : Nat} {l : List Px} {B : Bi} {bs : List Bool} (h : zex t H a cl z ac l) (b : zx t H B bs) (k : zF [B.p] H H') : zex t H' a cl z ac l := by
  obtain ⟨dx, e⟩ := h.ins
  exact ⟨⟨dx, k.ins b e (by decide +kernel)⟩, k.lst b h.lst, h.ok⟩
theorem zex.same {t : Ad} {H H' : Hp} {a cl : Addr} {z ac : Nat} {l : List Px} (h : zex t H a cl z ac l) (k : zN H H') : zex t H' a cl z ac l := by
  obtain ⟨dx, e⟩ := h.ins
  exact ⟨⟨dx, k _ _ e⟩, k _ _ h.lst, h.ok⟩
structure zaw (k : Nat) (g : Group) : Prop where
  g1 : g.green.length = 280 + ye k
  r1 : g.red.length = 256
  b1 : g.blue.length = 256
  a1 : g.alpha.length = 256
  d1 : g.distance.length = 40
def y9 (t : Ad) (H : Hp) (k : Nat) (ga : Addr) (g : Group) : Prop := ∃ a0 a1 a2 a3 a4 : Addr, H ga = some (.lst [.ref a0, .ref a1, .ref a2, .ref a3, .ref a4]) /\ xc t H a0 g.green /\ xc t H a1 g.red /\ xc t H a2 g.blue /\ xc t H a3 g.alpha /\ xc t H a4 g.distance /\ zaw k g
theorem y9.kept {t : Ad} {H H' : Hp} {k : Nat} {ga : Addr} {g : Group} {B : Bi} {bs : List Bool} (h : y9 t H k ga g) (b : zx t H B bs) (kp : zF [B.p] H H') : y9 t H' k ga g := by
  obtain ⟨a0, a1, a2, a3, a4, h0, h1, h2, h3, h4, h5, h6⟩ := h
  exact ⟨a0, a1, a2, a3, a4, kp.lst b h0, h1.kept b kp, h2.kept b kp, h3.kept b kp, h4.kept b kp, h5.kept b kp, h6⟩
theorem y9.same {t : Ad} {H H' : Hp} {k : Nat} {ga : Addr} {g : Group} (h : y9 t H k ga g) (s : zN H H') : y9 t H' k ga g := by
  obtain ⟨a0, a1, a2, a3, a4, h0, h1, h2, h3, h4, h5, h6⟩ := h
  exact ⟨a0, a1, a2, a3, a4, s _ _ h0, h1.same s, h2.same s, h3.same s, h4.same s, h5.same s, h6⟩
def grF (sv : V) (la : Addr) : List (Str × V) := [("squares", sv), ("groups", .ref la)]
theorem zj9 (sv : V) (la : Addr) : (grF sv la).lookup ("squares" : Str) = some sv := zT
theorem zlQ (sv : V) (la : Addr) : (grF sv la).lookup ("groups" : Str) = some (.ref la) := (zu (by decide +kernel)).trans zT
theorem zms (sv : V) (la : Addr) {m : Str} (h1 : (m == ("squares" : Str)) = false) (h2 : (m == ("groups" : Str)) = false) : (grF sv la).lookup m = none := (zu h1).trans ((zu h2).trans rfl)
def zlT (t : Ad) (H : Hp) (w h : Nat) (gs : List Group) (wh : Nat -> Nat -> Nat) (sv : V) : Prop := (sv = .non /\ (wh = fun _ _ => 0) /\ 0 < gs.length) \/
  ∃ (sa cl : Addr) (z : Nat) (l : List Px), sv = .ref sa /\ zex t H sa cl z (up w (2 ^ z)) l /\ wh = yM w z l /\ z <= 20 /\ l.length = up w (2 ^ z) * up h (2 ^ z) /\ ∀ p ∈ l, y3 p < gs.length
structure za7 (t : Ad) (H : Hp) (k : Nat) (G : Addr) (w h : Nat) (gs : List Group) (wh : Nat -> Nat -> Nat) : Prop where
  ex : ∃ (dx la : Addr) (sv : V) (gas : List Addr), H G = some (.ins t.CG dx (grF sv la)) /\ H la = some (.lst (gas.map V.ref)) /\ gas.length = gs.length /\ (∀ (j : Nat) (ga : Addr), gas[j]? = some ga -> ∃ g, gs[j]? = some g /\ y9 t H k ga g) /\ zlT t H w h gs wh sv
theorem za7.kept {t : Ad} {H H' : Hp} {k : Nat} {G : Addr} {w h : Nat} {gs : List Group} {wh : Nat -> Nat -> Nat} {B : Bi} {bs : List Bool} (g : za7 t H k G w h gs wh) (b : zx t H B bs) (kp : zF [B.p] H H') : za7 t H' k G w h gs wh := by
  obtain ⟨dx, la, sv, gas, h1, h2, h3, h4, h5⟩ := g.ex
  refine ⟨dx, la, sv, gas, kp.ins b h1 (by decide +kernel), kp.lst b h2, h3, fun j ga e => ?_, ?_⟩
  . obtain ⟨g, e1, e2⟩ := h4 j ga e
    exact ⟨g, e1, e2.kept b kp⟩
  . rcases h5 with h5 | ⟨sa, cl, z, l, e1, e2, r⟩
    . exact .inl h5
    . exact .inr ⟨sa, cl, z, l, e1, e2.kept b kp, r⟩
section
variable {P : Program} {w : World} {K : PySem.W.Frag} {mg : Str -> Option Value} {base : Heap} {t : Ad}
def zbJ (t : Ad) : Sp := fun vs H Q _ => ∃ (p dx cl : Addr) (z ac : Nat), vs = [.ref p, nat z, nat ac, .ref cl] /\ H p = some (.ins t.CS dx []) /\ ∀ H', H' p = some (.ins t.CS dx (sqF z ac cl)) -> zF [p] H H' -> Q .non H'
theorem zjF : zn ["self", "shift", "across", "colours"] ["self", "shift", "across", "colours"] (zi zg1) := by trivial
theorem zh9 {f : Addr} {fd : FuncData} (F : Fun K "__init__" "Squares.__init__" zg1 f fd) (T : Tx K mg t) : z0 P w K mg base (CXe P w) 1 f fd ["self", "shift", "across", "colours"] (zbJ t) := by
  refine F.okE zjF (fun vs H Q E h => ?_) (fun cdv A outer s H vs Q E hr h => ?_)
  . obtain ⟨p, dx, cl, z, ac, rfl, _⟩ := h
    rfl
  . obtain ⟨p, dx, cl, z, ac, rfl, hp, k⟩ := h
    refine ⟨_, zb (z9 (pv 0) (pv 1) rfl) (zb (z9 (pv 0) (pv 2) rfl) (zf (z9 (pv 0) (pv 3) rfl))), ?_⟩
    refine ⟨_, rfl, _, rfl, p, t.CS, dx, _, rfl, hp, T.cS, T.sS, (by show 0 < 1000; decide), ?_⟩
    refine ⟨_, rfl, _, rfl, p, t.CS, dx, _, rfl, zc, T.cS, T.sA, (by show 1 < 1000; decide), ?_⟩
    refine ⟨_, rfl, _, rfl, p, t.CS, dx, _, rfl, zc, T.cS, T.sC, (by show 2 < 1000; decide), ?_⟩
    refine k _ ?_ (((zF.put (by simp)).trans (zF.put (by simp))).trans (zF.put (by simp)))
    rw [zc]
    rfl
def wU (t : Ad) : Sp := fun vs H Q _ => ∃ (p dx la : Addr) (sv : V), vs = [.ref p, sv, .ref la] /\ H p = some (.ins t.CG dx []) /\ ∀ H', H' p = some (.ins t.CG dx (grF sv la)) -> zF [p] H H' -> Q .non H'
theorem zj7 : zn ["self", "squares", "groups"] ["self", "squares", "groups"] (zi zfj) := by trivial
theorem ziE {f : Addr} {fd : FuncData} (F : Fun K "__init__" "Groups.__init__" zfj f fd) (T : Tx K mg t) : z0 P w K mg base (CXe P w) 1 f fd ["self", "squares", "groups"] (wU t) := by
  refine F.okE zj7 (fun vs H Q E h => ?_) (fun cdv A outer s H vs Q E hr h => ?_)
  . obtain ⟨p, dx, la, sv, rfl, _⟩ := h
    rfl
  . obtain ⟨p, dx, la, sv, rfl, hp, k⟩ := h
    refine ⟨_, zb (z9 (pv 0) (pv 1) rfl) (zf (z9 (pv 0) (pv 2) rfl)), ?_⟩
    refine ⟨_, rfl, _, rfl, p, t.CG, dx, _, rfl, hp, T.cG, T.gS, (by show 0 < 1000; decide), ?_⟩
    refine ⟨_, rfl, _, rfl, p, t.CG, dx, _, rfl, zc, T.cG, T.gG, (by show 1 < 1000; decide), ?_⟩
    refine k _ ?_ ((zF.put (by simp)).trans (zF.put (by simp)))
    rw [zc]
    rfl
theorem zez {p : Px} (h : yf p) : Builtin.bitAnd (((p.word : Nat) : Int) / 2 ^ (8 : Int).toNat) 65535 = ((y3 p : Nat) : Int) := by
  obtain ⟨h1, h2, h3, h4⟩ := h
  have e : (2 : Int) ^ (8 : Int).toNat = 256 := by decide
  rw [bitAnd_m16, e]
  unfold y3 Px.word
  omega
def zaq : Sp := fun vs H Q _ => ∃ p : Px, vs = [nat p.word] /\ yf p /\ Q (nat (y3 p)) H
theorem zkT : zn ["colour"] ["colour"] (zi zf7) := by trivial
theorem zhw {f : Addr} {fd : FuncData} (F : Fun K "group_number" "group_number" zf7 f fd) : z0 P w K mg base (CXe P w) 1 f fd ["colour"] zaq := by
  refine F.okE zkT (fun vs H Q E h => ?_) (fun cdv A outer s H vs Q E hr h => ?_)
  . obtain ⟨p, rfl, _⟩ := h
    rfl
  . obtain ⟨p, rfl, hp, k⟩ := h
    refine ⟨_, zf (zr (zl zW (zl ya (pv 0) zg) zg)), ?_⟩
    refine ⟨_, rfl, _, _, rfl, rfl, (by show (0 : Int) <= 8; decide), _, _, rfl, rfl, ?_⟩
    show Q (.int (Builtin.bitAnd (((p.word : Nat) : Int) / 2 ^ (8 : Int).toNat) 65535)) H
    rw [zez hp]
    exact k
def wB : Sp := fun vs H Q _ => ∃ n z : Nat, vs = [nat n, nat z] /\ z <= 100 /\ Q (nat (up n (2 ^ z))) H
theorem zlm : zn ["number", "shift"] ["number", "shift"] (zi zfu) := by trivial
theorem zh5 {f : Addr} {fd : FuncData} (F : Fun K "divided_up" "divided_up" zfu f fd) : z0 P w K mg base (CXe P w) 1 f fd ["number", "shift"] wB := by
  refine F.okE zlm (fun vs H Q E h => ?_) (fun cdv A outer s H vs Q E hr h => ?_)
  . obtain ⟨n, z, rfl, _⟩ := h
    rfl
  . obtain ⟨n, z, rfl, hz, k⟩ := h
    refine ⟨_, zf (zr (zl ya (zl yA (zl zL (pv 0) (zl yT zg (pv 1))) zg) (pv 1))), ?_⟩
    refine ⟨_, rfl, _, rfl, _, _, rfl, rfl, ⟨by omega, by omega, by decide⟩, _, _, rfl, rfl, _, _, rfl, rfl, _, rfl, _, _, rfl, rfl, (by show (0 : Int) <= (z : Int); omega), ?_⟩
    show Q (.int (((n : Int) + 1 * 2 ^ ((z : Nat) : Int).toNat - 1) / 2 ^ ((z : Nat) : Int).toNat)) H
    have e : ((n : Int) + 1 * 2 ^ ((z : Nat) : Int).toNat - 1) / 2 ^ ((z : Nat) : Int).toNat = ((up n (2 ^ z) : Nat) : Int) := by
      have hp : 0 < (2 : Nat) ^ z := Nat.pow_pos (by decide)
      unfold up
      rw [Int.toNat_natCast, two_pow_int, Int.natCast_ediv]
      congr 1
      omega
    rw [e]
    exact k
def ve (t : Ad) : Sp := fun vs H Q _ => ∃ (a cl : Addr) (z ac x y : Nat) (l : List Px), vs = [.ref a, nat x, nat y] /\ zex t H a cl z ac l /\ ac <= 2 ^ 20 /\ y / 2 ^ z * ac + x / 2 ^ z < l.length /\ Q (nat (l.getD (y / 2 ^ z * ac + x / 2 ^ z) Sn15.black).word) H
theorem zld : zn ["self", "x", "y"] ["self", "x", "y"] (zi zfx) := by trivial
theorem zhy {f : Addr} {fd : FuncData} (F : Fun K "colour_at" "Squares.colour_at" zfx f fd) (T : Tx K mg t) : z0 P w K mg base (CXe P w) 1 f fd ["self", "x", "y"] (ve t) := by
  refine F.okE zld (fun vs H Q E h => ?_) (fun cdv A outer s H vs Q E hr h => ?_)
  . obtain ⟨a, cl, z, ac, x, y, l, rfl, _⟩ := h
    rfl
  . obtain ⟨a, cl, z, ac, x, y, l, rfl, hS, hac, hix, k⟩ := h
    obtain ⟨dx, e⟩ := hS.ins
    refine ⟨_, zf (zr (yu zP (zy (pv 0) rfl) (zl zL (zl xA (zl ya (pv 2) (zy (pv 0) rfl)) (zy (pv 0) rfl)) (zl ya (pv 1) (zy (pv 0) rfl))) (fun _ _ => rfl))), ?_⟩
    have hg : (zh l)[y / 2 ^ z * ac + x / 2 ^ z]? = some (l.getD (y / 2 ^ z * ac + x / 2 ^ z) Sn15.black).word := by
      unfold zh
      rw [List.getElem?_map, List.getD_eq_getElem?_getD, List.getElem?_eq_getElem hix]; rfl
    refine ⟨_, rfl, a, t.CS, dx, _, _, rfl, e, T.cS, T.sC, zkC _ _ _, _, rfl, _, rfl, a, t.CS, dx, _, _, rfl, e, T.cS, T.sS, zmR _ _ _, _, _, rfl, rfl, (by show (0 : Int) <= (z : Int); omega), _, rfl, a, t.CS, dx, _, _, rfl, e, T.cS, T.sA, znq _ _ _, _, _, rfl, rfl, .inr ⟨by omega, by omega⟩,
      _, rfl, _, rfl, a, t.CS, dx, _, _, rfl, e, T.cS, T.sS, zmR _ _ _, _, _, rfl, rfl, (by show (0 : Int) <= (z : Int); omega), _, _, rfl, rfl, cl, _, _, _, rfl, rfl, SqL.of hS.lst, yB (j := y / 2 ^ z * ac + x / 2 ^ z) ?_ (yj hg), k⟩
    show (y : Int) / 2 ^ ((z : Nat) : Int).toNat * (ac : Int) + (x : Int) / 2 ^ ((z : Nat) : Int).toNat = _
    rw [Int.toNat_natCast, two_pow_int]
    simp
def zcG (t : Ad) : Sp := fun vs H Q _ => ∃ (G : Addr) (k w h x y : Nat) (gs : List Group) (wh : Nat -> Nat -> Nat), vs = [.ref G, nat x, nat y] /\ za7 t H k G w h gs wh /\ x < w /\ y < h /\ w <= 2 ^ 20 /\ h <= 2 ^ 20 /\
  ∀ ga g, gs[wh x y]? = some g -> y9 t H k ga g -> Q (.ref ga) H
theorem zj0 : zn ["self", "x", "y"] ["self", "x", "y"] (zi zgW) := by trivial
theorem zbF {n z : Nat} (h : 0 < z) : up n z <= n := by
  unfold up
  rw [Nat.div_le_iff_le_mul_add_pred h]
  have : n <= z * n := Nat.le_mul_of_pos_left n h
  omega
theorem yU {x n z : Nat} (h : 0 < z) (hx : x < n) : x / z < up n z := by
  unfold up
  rw [Nat.div_lt_iff_lt_mul h]
  have h1 : n + z - 1 < ((n + z - 1) / z + 1) * z := by
    have := Nat.lt_div_mul_add (a := n + z - 1) h
    rw [Nat.add_mul, Nat.one_mul]; exact this
  rw [Nat.add_mul, Nat.one_mul] at h1
  omega
theorem wO {w h x y a b : Nat} (hx : a < w) (hy : b < h) : b * w + a < w * h := by
  calc b * w + a < b * w + w := by omega
    _ = (b + 1) * w := by rw [Nat.add_mul, Nat.one_mul]
    _ <= h * w := Nat.mul_le_mul_right _ hy
    _ = w * h := Nat.mul_comm _ _
theorem zhF {f : Addr} {fd : FuncData} (F : Fun K "group_at" "Groups.group_at" zgW f fd) (T : Tx K mg t) (Gn : zB P w K mg base 1 "group_number" ["colour"] zaq) (Gc : zD P w K mg base 1 t.CS "colour_at" ["self", "x", "y"] (ve t)) :
    z0 P w K mg base (CXe P w) 2 f fd ["self", "x", "y"] (zcG t) := by
  refine F.okE zj0 (fun vs H Q E h => ?_) (fun cdv A outer s H vs Q E hr h => ?_)
  . obtain ⟨G, k, w, h, x, y, gs, wh, rfl, _⟩ := h
    rfl
  . obtain ⟨G, k, w, h, x, y, gs, wh, rfl, hG, hx, hy, hw, hh, kk⟩ := h
    obtain ⟨dx, la, sv, gas, h1, h2, h3, h4, h5⟩ := hG.ex
    refine ⟨_, zb (yh (zhi (zl5 (zy (pv 0) rfl))) (zf (zr (yu zP (zy (pv 0) rfl) zg (fun _ _ => rfl)))) zI)
      (zf (zr (yu zP (zy (pv 0) rfl) (pd Gn Lv.of hr (za (pm Gc Lv.of T.cS hr (zy (pv 0) rfl) (za (pv 1) (za (pv 2) ze))) ze)) (fun _ _ => rfl)))), ?_⟩
    rcases h5 with ⟨rfl, rfl, hpos⟩ | ⟨sa, cl, z, l, rfl, hS, rfl, hz, hl, hnum⟩
    . obtain ⟨ga, hga⟩ : ∃ ga, gas[0]? = some ga := ⟨_, List.getElem?_eq_getElem (by omega)⟩
      obtain ⟨g, hg1, hg2⟩ := h4 0 ga hga
      refine ⟨_, rfl, G, t.CG, dx, _, _, rfl, h1, T.cG, T.gS, zj9 _ _, _, rfl, zdB ?_⟩
      exact ⟨_, rfl, G, t.CG, dx, _, _, rfl, h1, T.cG, T.gG, zlQ _ _, la, _, _, .ref ga, rfl, rfl, SqL.of h2, yB (j := 0) rfl (jg hga), kk ga g hg1 hg2⟩
    . have hzp : 0 < (2 : Nat) ^ z := Nat.pow_pos (by decide)
      have hix : y / 2 ^ z * up w (2 ^ z) + x / 2 ^ z < l.length := by rw [hl]; exact wO (x := x) (y := y) (yU hzp hx) (yU hzp hy)
      have hmem := getD_mem (d := Sn15.black) hix
      have hnl := hnum _ hmem
      obtain ⟨ga, hga⟩ : ∃ ga, gas[yM w z l x y]? = some ga := ⟨_, List.getElem?_eq_getElem (by rw [h3]; exact hnl)⟩
      obtain ⟨g, hg1, hg2⟩ := h4 _ ga hga
      obtain ⟨dxs, eS⟩ := hS.ins
      refine ⟨_, rfl, G, t.CG, dx, _, _, rfl, h1, T.cG, T.gS, zj9 _ _, _, rfl, zlP ?_⟩
      refine ⟨_, rfl, G, t.CG, dx, _, _, rfl, h1, T.cG, T.gG, zlQ _ _, _, rfl, G, t.CG, dx, _, _, rfl, h1, T.cG, T.gS, zj9 _ _, sa, dxs, _, rfl, eS, zhd _ _ _ (by decide +kernel) (by decide +kernel) (by decide +kernel), _, rfl, _, rfl,
        sa, cl, z, up w (2 ^ z), x, y, l, rfl, hS, Nat.le_trans (zbF hzp) hw, hix, _, rfl, hS.ok _ hmem, la, _, _, .ref ga, rfl, rfl, SqL.of h2, yB rfl (jg hga), kk ga g hg1 hg2⟩
def wX (t : Ad) : Sp := fun vs H Q E => ∃ (B : Bi) (bs : List Bool), vs = [.ref B.p] /\ zx t H B bs /\ Out t E B [] H zcu Q (jQ bs)
theorem zgG : zn ["bits", "depth"] ["bits"] (zi zeX) := by trivial
theorem zh3 {f : Addr} {fd : FuncData} (F : Fun K "read_cache_depth" "read_cache_depth" zeX f fd) (T : Tx K mg t) (Gb : zD P w K mg base 1 t.CB "bit" ["self"] (vt t)) (Gn : zD P w K mg base 2 t.CB "number" ["self", "width"] (yK t)) :
    z0 P w K mg base (CXe P w) 3 f fd ["bits"] (wX t) := by
  refine F.okE zgG (fun vs H Q E h => ?_) (fun cdv A outer s H vs Q E hr h => ?_)
  . obtain ⟨B, bs, rfl, _⟩ := h
    rfl
  . obtain ⟨B, bs, rfl, hb, k⟩ := h
    have hr1 : yC 1 _ := hr.mono (by decide)
    refine ⟨_, zb (yh (zw xY (pm0 Gb Lv.of T.cB hr1 (pv 0)) zg (zE _)) (zf (zr zg)) zI)
      (zb (zp (i := 1) zgG.nd rfl (Or.inl rfl) (pm Gn Lv.of T.cB hr (pv 0) (za zg ze)))
      (zb (yh (PW.pt (zer (zw jW (pv 1) zg (zE _)) (we (zw qP (pv 1) zg (zE _))))) (zf (z7 Lv.of (by rfl) T.gN T.xN)) zI)
      (zf (zr (pv 1))))), ?_⟩
    unfold jQ at k
    obtain ⟨dx, fs, e1, e2⟩ := hb.meth (m := "bit")
    refine ⟨_, rfl, B.p, dx, fs, rfl, e1, e2, B, bs, rfl, hb, k.bind fun u bs1 v1 H1 hm1 hb1 kp1 hv1 k1 => ?_⟩
    cases hv1
    have hu : u < 2 := qB hm1
    refine ⟨rfl, _, rfl, yG (fun e => ?_) (fun e => ?_)⟩
    . have e' : ¬ u = 1 := by have := V.int.inj (of_decide_eq_true e); omega
      rw [if_neg e'] at k1
      exact k1.pure hb1 rfl
    . have e' : u = 1 := by
        have : ¬ u = 0 := fun z => e (by rw [z]; exact decide_eq_true rfl)
        omega
      rw [if_pos e'] at k1
      obtain ⟨dx2, fs2, e3, e4⟩ := hb1.meth (m := "number")
      refine ⟨_, rfl, B.p, dx2, fs2, rfl, e3, e4, B, bs1, 4, rfl, by decide, hb1, k1.bind fun n bs2 v2 H2 hm2 hb2 kp2 hv2 k2 => ?_⟩
      cases hv2
      obtain ⟨kt, kf⟩ := k2.need
      refine ⟨_, rfl, _, _, rfl, rfl, _, rfl, yG (fun e5 => ?_) (fun e5 => ?_)⟩
      . exact zdB (kf (decide_eq_false (by have := of_decide_eq_true e5; omega)) _)
      . have h1 : 1 <= n := by
          have : ¬ (n : Int) < 1 := fun z => e5 (decide_eq_true z)
          omega
        refine ⟨_, rfl, _, _, rfl, rfl, _, rfl, yG (fun e6 => ?_) (fun e6 => ?_)⟩
        . exact kf (decide_eq_false (by have := of_decide_eq_true e6; omega)) _
        . have h2 : n <= 11 := by
            have : ¬ (11 : Int) < (n : Int) := fun z => e6 (decide_eq_true z)
            omega
          exact ⟨_, rfl, (kt (decide_eq_true ⟨h1, h2⟩)).pure hb2 rfl⟩
end
end Lk
end
section
namespace Lk
open PySem PySem.Spec PyProof.Rows L2
open Sn15 (D bits bitsOf symbol Px Group up value back again cached)
def xx (g : Group) (s : Nat) : D Px := do
  let r <- symbol g.red
  let b <- symbol g.blue
  let a <- symbol g.alpha
  return ⟨a, r, s, b⟩
theorem zdd (w t k : Nat) (g : Group) (l : List Px) : zd9 w t k g l = (symbol g.green >>= fun s => if s < 256 then xx g s >>= fun p => pure (l ++ [p]) else
    if s < 280 then value (s - 256) >>= fun n => symbol g.distance >>= fun ds => value ds >>= fun dv => Sn15.need (decide (back w dv <= l.length) && decide (l.length + n <= t)) >>= fun _ => pure (again n (back w dv) l)
    else pure (l ++ [cached k l (s - 280)])) := by
  unfold zd9 xx
  congr 1
  funext s
  by_cases h1 : s < 256
  . simp only [h1, if_true, zK, zq]
  . simp only [h1, if_false]
theorem zdW {g : Group} {k s : Nat} {p : Px} {bs bs' : List Bool} (hg : zaw k g) (hs : s < 256) (h : xx g s bs = some (p, bs')) : yf p := by
  unfold xx at h
  obtain ⟨r, bs1, hr, h⟩ := bind_some h
  obtain ⟨b, bs2, hb, h⟩ := bind_some h
  obtain ⟨a, bs3, ha, h⟩ := bind_some h
  cases h
  have h1 := xD hr
  have h2 := xD hb
  have h3 := xD ha
  rw [hg.r1] at h1
  rw [hg.b1] at h2
  rw [hg.a1] at h3
  exact ⟨h3, h1, hs, h2⟩
theorem zc2 {s v : Nat} {bs bs' : List Bool} (hs : s < 40) (h : value s bs = some (v, bs')) : v <= 2 ^ 30 := by
  unfold value at h
  split at h
  . cases h; omega
  . obtain ⟨e, bs1, he, h⟩ := bind_some h
    cases h
    have h1 := yk he
    have h2 : (2 : Nat) ^ ((s - 2) / 2) <= 2 ^ 18 := Nat.pow_le_pow_right (by decide) (by omega)
    have h3 : 2 + s % 2 <= 3 := by omega
    have h4 : (2 + s % 2) * 2 ^ ((s - 2) / 2) <= 3 * 2 ^ 18 := Nat.mul_le_mul h3 h2
    generalize (2 : Nat) ^ ((s - 2) / 2) = m at *
    omega
theorem zkV {w d : Nat} (hw : w <= 2 ^ 20) (hd : d <= 2 ^ 30) (h0 : 0 < d) : back w d <= 2 ^ 50 := by
  unfold back
  split
  . omega
  . rename_i hd2
    simp only []
    have hlt : d - 1 < Sn15.NEAR.length := by show d - 1 < 120; omega
    have hm : Sn15.NEAR.getD (d - 1) (0, 0) ∈ Sn15.NEAR := by rw [List.getD_eq_getElem?_getD, List.getElem?_eq_getElem hlt]; exact List.getElem_mem _
    obtain ⟨h1, h2, h3, h4⟩ := vP _ hm
    have h5 : (Sn15.NEAR.getD (d - 1) (0, 0)).2 * (w : Int) <= 8 * (w : Int) := Int.mul_le_mul_of_nonneg_right h4 (by omega)
    split
    . decide
    . omega
theorem zil {w t k : Nat} {g : Group} {l l' : List Px} {bs bs' : List Bool} (hl : l.length < t) (h : zd9 w t k g l bs = some (l', bs')) : l.length < l'.length /\ l'.length <= t := by
  rw [zdd] at h
  obtain ⟨s, bs1, _, h⟩ := bind_some h
  split at h
  . obtain ⟨p, bs2, _, h⟩ := bind_some h
    cases h
    rw [List.length_append]
    exact ⟨by simp, by simp; omega⟩
  . split at h
    . obtain ⟨n, bs2, hn, h⟩ := bind_some h
      obtain ⟨ds, bs3, _, h⟩ := bind_some h
      obtain ⟨dv, bs4, _, h⟩ := bind_some h
      obtain ⟨_, bs5, hq, h⟩ := bind_some h
      cases h
      have hq := (qc hq).1
      rw [Bool.and_eq_true] at hq
      have h2 := of_decide_eq_true hq.2
      have h3 := zaR hn
      rw [kL]
      omega
    . cases h
      rw [List.length_append]
      exact ⟨by simp, by simp; omega⟩
theorem or4 {a r g b i j k : Nat} (hr : r < 2 ^ i) (hg : g < 2 ^ j) (hb : b < 2 ^ k) : Builtin.bitOr (Builtin.bitOr (Builtin.bitOr ((a * 2 ^ (i + (j + k)) : Nat) : Int) ((r * 2 ^ (j + k) : Nat) : Int)) ((g * 2 ^ k : Nat) : Int)) ((b : Nat) : Int) = ((((a * 2 ^ i + r) * 2 ^ j + g) * 2 ^ k + b : Nat) : Int) := by
  have h1 : r * 2 ^ (j + k) < 2 ^ (i + (j + k)) := by
    rw [Nat.pow_add 2 i]
    exact Nat.mul_lt_mul_of_pos_right hr (Nat.pow_pos (by decide))
  have h2 : g * 2 ^ k < 2 ^ (j + k) := by
    rw [Nat.pow_add 2 j]
    exact Nat.mul_lt_mul_of_pos_right hg (Nat.pow_pos (by decide))
  have e1 : a * 2 ^ (i + (j + k)) + r * 2 ^ (j + k) = (a * 2 ^ i + r) * 2 ^ (j + k) := by rw [Nat.add_mul, Nat.pow_add 2 i, Nat.mul_assoc]
  have e2 : (a * 2 ^ i + r) * 2 ^ (j + k) + g * 2 ^ k = ((a * 2 ^ i + r) * 2 ^ j + g) * 2 ^ k := by rw [Nat.add_mul _ g, Nat.pow_add 2 j, Nat.mul_assoc]
  rw [ka h1, e1, ka h2, e2, ka hb]
theorem ziL {p : Px} (h : yf p) : Builtin.bitOr (Builtin.bitOr (Builtin.bitOr ((p.a : Int) * 2 ^ (24 : Int).toNat) ((p.r : Int) * 2 ^ (16 : Int).toNat)) ((p.g : Int) * 2 ^ (8 : Int).toNat)) (p.b : Int) = ((p.word : Nat) : Int) := by
  obtain ⟨h1, h2, h3, h4⟩ := h
  have e1 : (p.a : Int) * 2 ^ (24 : Int).toNat = ((p.a * 2 ^ (8 + (8 + 8)) : Nat) : Int) := by rw [show (24 : Int).toNat = 8 + (8 + 8) from rfl, two_pow_int, <- Int.natCast_mul]
  have e2 : (p.r : Int) * 2 ^ (16 : Int).toNat = ((p.r * 2 ^ (8 + 8) : Nat) : Int) := by rw [show (16 : Int).toNat = 8 + 8 from rfl, two_pow_int, <- Int.natCast_mul]
  have e3 : (p.g : Int) * 2 ^ (8 : Int).toNat = ((p.g * 2 ^ 8 : Nat) : Int) := by rw [show (8 : Int).toNat = 8 from rfl, two_pow_int, <- Int.natCast_mul]
  rw [e1, e2, e3, or4 (show p.r < 2 ^ 8 from h2) (show p.g < 2 ^ 8 from h3) (show p.b < 2 ^ 8 from h4)]
  rfl
def zmb : Px -> V -> Hp -> Prop := fun p v _ => v = nat p.word /\ yf p
theorem xc.meth {t : Ad} {H : Hp} {a : Addr} {c : Sn15.Code} (h : xc t H a c) : ∃ dx fs, H a = some (.ins t.CC dx fs) /\ fs.lookup ("next_symbol" : Str) = none := by
  obtain ⟨dx, wa, was, words, sole, h1, _⟩ := h
  exact ⟨dx, _, h1, zdk _ _ (by decide +kernel) (by decide +kernel)⟩
section
variable {P : Program} {w : World} {K : PySem.W.Frag} {mg : Str -> Option Value} {base : Heap} {t : Ad}
def zas (t : Ad) : Sp := fun vs H Q E => ∃ (B : Bi) (bs : List Bool) (s k : Nat) (ga : Addr) (g : Group), vs = [.ref B.p, nat s, .ref ga] /\ s < 256 /\ y9 t H k ga g /\ zx t H B bs /\ Out t E B [] H zmb Q (xx g s bs)
theorem j5 : zn ["bits", "green", "group", "red", "blue", "alpha"] ["bits", "green", "group"] (zi zbD) := by trivial
theorem ze6 {f : Addr} {fd : FuncData} (F : Fun K "read_colour" "read_colour" zbD f fd) (T : Tx K mg t) (Gx : zD P w K mg base 2 t.CC "next_symbol" ["self", "bits"] (zbA t)) : z0 P w K mg base (CXe P w) 3 f fd ["bits", "green", "group"] (zas t) := by
  obtain ⟨uR, hR, rR⟩ := T.kRED
  obtain ⟨uB, hB, rB⟩ := T.kBLUE
  obtain ⟨uA, hA, rA⟩ := T.kALPHA
  refine F.okE j5 (fun vs H Q E h => ?_) (fun cdv A outer s H vs Q E hr h => ?_)
  . obtain ⟨B, bs, s, k, ga, g, rfl, _⟩ := h
    rfl
  . obtain ⟨B, bs, sy, kk, ga, g, rfl, hs, hG, hb, k⟩ := h
    refine ⟨_, zb (zp (i := 3) j5.nd rfl (Or.inl rfl) (pm Gx Lv.of T.cC hr (yu zP (pv 2) (zH (by rfl) hR rR) (fun _ _ => rfl)) (za (pv 0) ze)))
      (zb (zp (i := 4) j5.nd rfl (Or.inl rfl) (pm Gx Lv.of T.cC hr (yu zP (pv 2) (zH (by rfl) hB rB) (fun _ _ => rfl)) (za (pv 0) ze)))
      (zb (zp (i := 5) j5.nd rfl (Or.inl rfl) (pm Gx Lv.of T.cC hr (yu zP (pv 2) (zH (by rfl) hA rA) (fun _ _ => rfl)) (za (pv 0) ze)))
      (zf (zr (zl vx (zl vx (zl vx (zl yT (pv 5) zg) (zl yT (pv 3) zg)) (zl yT (pv 1) zg)) (pv 4)))))), ?_⟩
    have hok : ∀ p bs', xx g sy bs = some (p, bs') -> yf p := fun p bs' h => by
      obtain ⟨_, _, _, _, _, _, _, _, _, _, _, ho⟩ := hG
      exact zdW ho hs h
    have k0 : Out t E B [] H (fun (p : Px) v _ => v = nat p.word) Q (xx g sy bs) := by
      cases hm : xx g sy bs with
      | none => rw [hm] at k; exact k
      | some x => rw [hm] at k; exact fun v H2 b k2 r => k v H2 b k2 ⟨r, hok x.1 x.2 hm⟩
    have hoks := hok
    unfold xx at k0 hoks
    obtain ⟨a0, a1, a2, a3, a4, g0, c0, c1, c2, c3, c4, go⟩ := id hG
    obtain ⟨dx1, fs1, e1, e2⟩ := c1.meth
    refine ⟨_, rfl, ga, _, _, .ref a1, rfl, rfl, SqL.of g0, yB (j := 1) rfl rfl, a1, dx1, fs1, rfl, e1, e2, _, rfl, B, bs, a1, _, rfl, c1, hb, k0.bind fun r bs1 v1 H1 hm1 hb1 kp1 hv1 k1 => ?_⟩
    cases hv1
    obtain ⟨dx2, fs2, e3, e4⟩ := (c2.kept hb kp1).meth
    refine ⟨_, rfl, ga, _, _, .ref a2, rfl, rfl, SqL.of (kp1.lst hb g0), yB (j := 2) rfl rfl, a2, dx2, fs2, rfl, e3, e4, _, rfl, B, bs1, a2, _, rfl, c2.kept hb kp1, hb1, k1.bind fun b bs2 v2 H2 hm2 hb2 kp2 hv2 k2 => ?_⟩
    cases hv2
    have kp12 := kp1.trans kp2
    obtain ⟨dx3, fs3, e5, e6⟩ := (c3.kept hb kp12).meth
    refine ⟨_, rfl, ga, _, _, .ref a3, rfl, rfl, SqL.of (kp12.lst hb g0), yB (j := 3) rfl rfl, a3, dx3, fs3, rfl, e5, e6, _, rfl, B, bs2, a3, _, rfl, c3.kept hb kp12, hb2, k2.bind fun a bs3 v3 H3 hm3 hb3 kp3 hv3 k3 => ?_⟩
    cases hv3
    have hp : yf ⟨a, r, sy, b⟩ := hok _ bs3 (by
      unfold xx
      rw [zJ, hm1]
      simp only [Option.bind_some]
      rw [zJ, hm2]
      simp only [Option.bind_some]
      rw [zJ, hm3]
      rfl)
    obtain ⟨q1, q2, q3, q4⟩ := id hp
    refine ⟨_, rfl, _, _, rfl, rfl, ⟨by decide, by decide, ?_⟩, _, rfl, _, _, rfl, rfl, ⟨by decide, by decide, ?_⟩, _, _, rfl, rfl, _, rfl, _, _, rfl, rfl, ⟨by decide, by decide, ?_⟩, _, _, rfl, rfl, _, rfl, _, _, rfl, rfl, ?_⟩
    . simp only [] at q1; omega
    . simp only [] at q2; omega
    . omega
    . have ew := ziL hp
      dsimp only at ew ⊢
      rw [ew]
      exact k3.pure hb3 rfl
def zmU (t : Ad) (C : Ca) (w s k : Nat) : List Px -> V -> Hp -> Prop := fun l v H => v = .non /\ zY t H C w s k l
structure zaJ (t : Ad) (H0 H : Hp) (B : Bi) (C : Ca) : Prop where
  kp : zF [B.p] H0 H
  b0 : ∃ bs0, zx t H0 B bs0
  nl : H0 C.l = none
  nc : H0 C.c = none
theorem zaJ.bits {t : Ad} {H0 H Hx Hy : Hp} {B : Bi} {C : Ca} {bs : List Bool} (a : zaJ t H0 H B C) (hb : zx t Hx B bs) (k : zF [C.l, C.c] Hx Hy) : zx t Hy B bs := by
  obtain ⟨bs0, dz, iz, z1, z2, _⟩ := a.b0
  refine hb.kept k ?_ ?_
  . simp only [List.mem_cons, List.not_mem_nil, or_false]
    exact fun z => z.elim (zd z1 a.nl) (zd z1 a.nc)
  . simp only [List.mem_cons, List.not_mem_nil, or_false]
    exact fun z => z.elim (zd z2 a.nl) (zd z2 a.nc)
theorem zaJ.next {t : Ad} {H0 H H' : Hp} {B : Bi} {C : Ca} (a : zaJ t H0 H B C) (k : zF [B.p, C.l, C.c] H H') : zaJ t H0 H' B C := by
  refine ⟨fun b o e n => k b o (a.kp b o e n) ?_, a.b0, a.nl, a.nc⟩
  simp only [List.mem_cons, List.not_mem_nil, or_false] at n ⊢
  exact fun z => z.elim n fun z => z.elim (zd e a.nl) (zd e a.nc)
def zeO (t : Ad) : Sp := fun vs H Q E => ∃ (B : Bi) (bs : List Bool) (C : Ca) (w s k : Nat) (l : List Px) (ga : Addr) (g : Group) (H0 : Hp), vs = [.ref B.p, .ref C.p, .ref ga] /\ y9 t H k ga g /\ zaJ t H0 H B C /\ zY t H C w s k l /\ zx t H B bs /\
  l.length < s /\ s <= 2 ^ 23 /\ w <= 2 ^ 20 /\ Out t E B [C.l, C.c] H (zmU t C w s k) Q (zd9 w s k g l bs)
theorem zdt : zn ["bits", "canvas", "group", "symbol", "length", "value"] ["bits", "canvas", "group"] (zi zkb) := by trivial
theorem zjC {f : Addr} {fd : FuncData} (F : Fun K "read_step" "read_step" zkb f fd) (T : Tx K mg t) (Gx : zD P w K mg base 2 t.CC "next_symbol" ["self", "bits"] (zbA t)) (Gp : zD P w K mg base 1 t.CV "put" ["self", "colour"] (zgj t)) (Gc : zD P w K mg base 2 t.CV "put_cached" ["self", "slot"] (zgf t))
    (Gr : zD P w K mg base 2 t.CV "repeat" ["self", "length", "distance"] (zar t)) (Gv : zB P w K mg base 3 "read_value" ["bits", "symbol"] (zb6 t)) (Gd : zB P w K mg base 1 "distance_of" ["value", "width"] zfy) (Gk : zB P w K mg base 3 "read_colour" ["bits", "green", "group"] (zas t)) :
    z0 P w K mg base (CXe P w) 4 f fd ["bits", "canvas", "group"] (zeO t) := by
  obtain ⟨uF, hF, rF⟩ := T.kFIRST
  obtain ⟨uD, hD, rD⟩ := T.kDISTANCE
  refine F.okE zdt (fun vs H Q E h => ?_) (fun cdv A outer s H vs Q E hr h => ?_)
  . obtain ⟨B, bs, C, w, s, k, l, ga, g, H0, rfl, _⟩ := h
    rfl
  . obtain ⟨B, bs, C, w, sz, kc, l, ga, g, H0, rfl, hG, ap, hC, hb, hl, hsz, hw, k⟩ := h
    have hr1 : yC 1 _ := hr.mono (by decide)
    have hr2 : yC 2 _ := hr.mono (by decide)
    refine ⟨_, zb (zp (i := 3) zdt.nd rfl (Or.inl rfl) (pm Gx Lv.of T.cC hr2 (yu zP (pv 2) (zH (by rfl) hF rF) (fun _ _ => rfl)) (za (pv 0) ze)))
      (zf (yh (zw jW (pv 3) zg (zE _)) (zf (zZ (pm Gp Lv.of T.cV hr1 (pv 1) (za (pd Gk Lv.of hr (za (pv 0) (za (pv 3) (za (pv 2) ze)))) ze))))
        (zf (yh (zw jW (pv 3) zg (zE _))
          (zb (zp (i := 4) zdt.nd rfl (Or.inl rfl) (pd Gv Lv.of hr (za (pv 0) (za (zl yA (pv 3) zg) ze))))
          (zb (zp (i := 5) zdt.nd rfl (Or.inl rfl) (pd Gv Lv.of hr (za (pv 0) (za (pm Gx Lv.of T.cC hr2 (yu zP (pv 2) (zH (by rfl) hD rD) (fun _ _ => rfl)) (za (pv 0) ze)) ze))))
          (zf (zZ (pm Gr Lv.of T.cV hr2 (pv 1) (za (pv 4) (za (pd Gd Lv.of hr1 (za (pv 5) (za (zy (pv 1) rfl) ze))) ze)))))))
          (zf (zZ (pm Gc Lv.of T.cV hr2 (pv 1) (za (zl yA (pv 3) zg) ze)))))))), ?_⟩
    rw [zdd] at k
    obtain ⟨a0, a1, a2, a3, a4, g0, c0, c1, c2, c3, c4, go⟩ := id hG
    obtain ⟨dx1, fs1, e1, e2⟩ := c0.meth
    refine ⟨_, rfl, ga, _, _, .ref a0, rfl, rfl, SqL.of g0, yB (j := 0) rfl rfl, a0, dx1, fs1, rfl, e1, e2, _, rfl, B, bs, a0, _, rfl, c0, hb, k.bind fun sy bs1 v1 H1 hm1 hb1 kp1 hv1 k1 => ?_⟩
    cases hv1
    have hsy := xD hm1
    rw [go.g1] at hsy
    have hC1 := hC.kept hb kp1
    have hsl : l.length < sizeLine := Nat.lt_of_lt_of_le hl (Nat.le_trans hsz (by decide))
    refine ⟨_, rfl, _, _, rfl, rfl, _, rfl, yG (fun e => ?_) (fun e => ?_)⟩
    . have h256 : sy < 256 := by have := of_decide_eq_true e; omega
      rw [if_pos h256] at k1
      obtain ⟨dxp, fsp, e3, e4⟩ := hC1.meth (m := "put")
      refine ⟨_, rfl, C.p, dxp, fsp, rfl, e3, e4, _, rfl, _, rfl, _, rfl, B, bs1, sy, kc, ga, g, rfl, h256, hG.kept hb kp1, hb1, k1.bind fun p bs2 v2 H2 hm2 hb2 kp2 hv2 k2 => ?_⟩
      obtain ⟨rfl, hpx⟩ := hv2
      have hC2 := hC1.kept hb1 kp2
      refine ⟨C, w, sz, kc, l, p, rfl, hC2, hpx, hsl, fun H3 hC3 kp3 => ?_⟩
      exact k2.pure' (ap.bits hb2 kp3) (kp3.mono (fun x hx => List.mem_cons_of_mem _ hx)) ⟨rfl, hC3⟩
    . have h256 : ¬ sy < 256 := fun z => e (decide_eq_true (by omega))
      rw [if_neg h256] at k1
      refine ⟨_, rfl, _, _, rfl, rfl, _, rfl, yG (fun e5 => ?_) (fun e5 => ?_)⟩
      . have h280 : sy < 280 := by have := of_decide_eq_true e5; omega
        rw [if_pos h280] at k1
        have q1 : (sy : Int) - 256 = ((sy - 256 : Nat) : Int) := by omega
        refine ⟨_, rfl, _, rfl, _, _, rfl, rfl, ?_⟩
        dsimp only
        rw [q1]
        refine ⟨B, bs1, sy - 256, rfl, by omega, hb1, k1.bind fun n bs2 v2 H2 hm2 hb2 kp2 hv2 k2 => ?_⟩
        cases hv2
        have hn := zc2 (by omega) hm2
        have kp12 := kp1.trans kp2
        obtain ⟨dx2, fs2, e6, e7⟩ := (c4.kept hb kp12).meth
        refine ⟨_, rfl, _, rfl, ga, _, _, .ref a4, rfl, rfl, SqL.of (kp12.lst hb g0), yB (j := 4) rfl rfl, a4, dx2, fs2, rfl, e6, e7, _, rfl, B, bs2, a4, _, rfl, c4.kept hb kp12, hb2, k2.bind fun ds bs3 v3 H3 hm3 hb3 kp3 hv3 k3 => ?_⟩
        cases hv3
        have hds := xD hm3
        rw [go.d1] at hds
        refine ⟨B, bs3, ds, rfl, by omega, hb3, k3.bind fun dv bs4 v4 H4 hm4 hb4 kp4 hv4 k4 => ?_⟩
        cases hv4
        have hdv := zc2 hds hm4
        have hdp := zaR hm4
        have hC4 := ((hC1.kept hb1 kp2).kept hb2 kp3).kept hb3 kp4
        obtain ⟨dxp, fsp, e8, e9⟩ := hC4.meth (m := "repeat")
        obtain ⟨dxi, hin⟩ := hC4.ins
        obtain ⟨kt, kf⟩ := k4.need
        refine ⟨_, rfl, C.p, dxp, fsp, rfl, e8, e9, _, rfl, _, rfl, _, rfl, C.p, t.CV, dxi, _, _, rfl, hin, T.cV, T.vW, vi _ _ _ _ _, dv, w, rfl, hdp, hw,
          C, w, sz, kc, n, back w dv, l, rfl, hC4, zik w dv hdp, hsz, Nat.le_trans hn (by decide), zkV hw hdv hdp, by omega, fun hc H5 hC5 kp5 => ?_, fun hc => ?_⟩
        . have kq := kt (by rw [decide_eq_true hc.1, decide_eq_true hc.2]; rfl)
          exact kq.pure' (ap.bits hb4 kp5) (kp5.mono (fun x hx => List.mem_cons_of_mem _ hx)) ⟨rfl, hC5⟩
        . refine kf ?_
          rw [Bool.and_eq_false_iff]
          by_cases h1 : back w dv <= l.length
          . exact .inr (decide_eq_false fun z => hc ⟨h1, z⟩)
          . exact .inl (decide_eq_false h1)
      . have h280 : ¬ sy < 280 := fun z => e5 (decide_eq_true (by omega))
        rw [if_neg h280] at k1
        have q1 : (sy : Int) - 280 = ((sy - 280 : Nat) : Int) := by omega
        have hkc : 0 < kc /\ sy - 280 < 2 ^ kc := by
          unfold ye at hsy
          by_cases h0 : kc = 0
          . rw [if_pos h0] at hsy; omega
          . rw [if_neg h0] at hsy
            generalize (2 : Nat) ^ kc = m at *
            omega
        obtain ⟨dxp, fsp, e8, e9⟩ := hC1.meth (m := "put_cached")
        refine ⟨_, rfl, C.p, dxp, fsp, rfl, e8, e9, _, rfl, _, _, rfl, rfl, ?_⟩
        dsimp only
        rw [q1]
        refine ⟨C, w, sz, kc, sy - 280, l, rfl, hC1, hkc.1, hkc.2, hsl, fun H3 hC3 kp3 => ?_⟩
        exact k1.pure' (ap.bits hb1 kp3) (kp3.mono (fun x hx => List.mem_cons_of_mem _ hx)) ⟨rfl, hC3⟩
def vF (H0 : Hp) (n : Nat) : List Px -> V -> Hp -> Prop := fun l v H => ∃ a, v = .ref a /\ H a = some (.lst (zm (zh l))) /\ l.length = n /\ (∀ p ∈ l, yf p) /\ H0 a = none
theorem vF.rebase {H0 H1 : Hp} {n : Nat} (d : ∀ x, H1 x = none -> H0 x = none) (l : List Px) (v : V) (H : Hp) (h : vF H1 n l v H) : vF H0 n l v H := by
  obtain ⟨a, h1, h2, h3, h4, h5⟩ := h
  exact ⟨a, h1, h2, h3, h4, d _ h5⟩
def x8 (t : Ad) : Sp := fun vs H Q E => ∃ (B : Bi) (bs : List Bool) (C : Ca) (w h k : Nat) (gs : List Group) (wh : Nat -> Nat -> Nat) (G : Addr) (H0 : Hp), vs = [.ref B.p, .ref C.p, .ref G] /\ za7 t H0 k G w h gs wh /\ zaJ t H0 H B C /\ zY t H C w (w * h) k [] /\ zx t H B bs /\
  0 < w /\ 0 < h /\ w * h <= 2 ^ 20 /\ Out t E B [C.l, C.c] H (vF H0 (w * h)) Q (zbC w h k gs wh bs)
theorem kQ : zn ["bits", "canvas", "groups", "place", "group"] ["bits", "canvas", "groups"] (zi wN) := by trivial
def zdj (t : Ad) (E : XK) (B : Bi) (C : Ca) (H0 H : Hp) (Q : VK) (w h k : Nat) (gs : List Group) (wh : Nat -> Nat -> Nat) (G : Addr) (m : Nat) (σ : L2.St) (Hx : Hp) : Prop := ∃ (l : List Px) (bs : List Bool) (v3 v4 : Option V) (n : Nat), m = w * h - l.length /\ σ = [some (.ref B.p), some (.ref C.p), some (.ref G), v3, v4] /\
  zaJ t H0 Hx B C /\ zY t Hx C w (w * h) k l /\ zx t Hx B bs /\ l.length <= w * h /\ zF [B.p, C.l, C.c] H Hx /\ w * h - l.length < n /\ Out t E B [C.l, C.c] H (vF H0 (w * h)) Q (Sn15.elements w (w * h) k gs wh n l bs)
theorem zdR {f : Addr} {fd : FuncData} (F : Fun K "read_colours" "read_colours" wN f fd) (T : Tx K mg t) (Gg : zD P w K mg base 2 t.CG "group_at" ["self", "x", "y"] (zcG t)) (Gs : zB P w K mg base 4 "read_step" ["bits", "canvas", "group"] (zeO t)) :
    z0 P w K mg base (CXe P w) 5 f fd ["bits", "canvas", "groups"] (x8 t) := by
  refine F.okE kQ (fun vs H Q E h => ?_) (fun cdv A outer s H vs Q E hr h => ?_)
  . obtain ⟨B, bs, C, w, h, k, gs, wh, G, H0, rfl, _⟩ := h
    rfl
  . obtain ⟨B, bs, C, w, h, kc, gs, wh, G, H0, rfl, hG0, ap, hC, hb, hw0, hh0, hwh, k⟩ := h
    have hr2 : yC 2 _ := hr.mono (by decide)
    refine ⟨_, zb (jl Lv.of.own (zw jW (zG zC (by rfl) T.len PySem.boot_len (za (zy (pv 1) rfl) ze)) (zy (pv 1) rfl) (zE _))
        (zb (zp (i := 3) kQ.nd rfl (Or.inl rfl) (zG zC (by rfl) T.len PySem.boot_len (za (zy (pv 1) rfl) ze)))
        (zb (zp (i := 4) kQ.nd rfl (Or.inl rfl) (pm Gg Lv.of T.cG hr2 (pv 2) (za (zl ze9 (pv 3) (zy (pv 1) rfl)) (za (zl qJ (pv 3) (zy (pv 1) rfl)) ze))))
        (zf (zZ (pd Gs Lv.of hr (za (pv 0) (za (pv 1) (za (pv 4) ze)))))))))
      (zf (zr (zy (pv 1) rfl))), ?_⟩
    have hwle : w <= 2 ^ 20 := Nat.le_trans (Nat.le_mul_of_pos_right w hh0) hwh
    have hhle : h <= 2 ^ 20 := Nat.le_trans (Nat.le_mul_of_pos_left h hw0) hwh
    refine ⟨zdj t E B C H0 H Q w h kc gs wh G, ⟨_, [], bs, none, none, w * h + 1, rfl, rfl, ap, hC, hb, Nat.zero_le _, zF.refl _ _, by simp, k⟩, ?_⟩
    rintro m σ Hx ⟨l, bs1, v3, v4, n, rfl, rfl, ap1, hC1, hb1, hl, kp1, hn, k1⟩
    obtain ⟨dx, hin⟩ := hC1.ins
    have hwl : (zm (zh l)).length = l.length := by rw [zo]; unfold zh; rw [List.length_map]
    obtain ⟨n', rfl⟩ : ∃ n', n = n' + 1 := ⟨n - 1, by omega⟩
    refine ⟨_, rfl, C.p, t.CV, dx, _, _, rfl, hin, T.cV, T.vC, xi _ _ _ _ _, C.l, _, rfl, .inl (SqL.of hC1.lst), _, rfl, C.p, t.CV, dx, _, _, rfl, hin, T.cV, T.vS, zaY _ _ _ _ _, _, _, rfl, rfl, _, rfl, yG (fun e => ?_) (fun e => ?_)⟩
    . have hlt : l.length < w * h := by have := of_decide_eq_true e; rw [hwl] at this; omega
      refine ⟨fun σ' H' => ∃ m', m' < w * h - l.length /\ zdj t E B C H0 H Q w h kc gs wh G m' σ' H', fun _ _ h => h, ?_⟩
      obtain ⟨bs0, hb0⟩ := ap.b0
      have hG1 := hG0.kept hb0 ap1.kp
      obtain ⟨gdx, gla, gsv, ggas, gh1, _⟩ := hG1.ex
      refine ⟨_, rfl, C.p, t.CV, dx, _, _, rfl, hin, T.cV, T.vC, xi _ _ _ _ _, C.l, _, rfl, .inl (SqL.of hC1.lst), ?_⟩
      rw [hwl]
      have q1 : (l.length : Int) % (w : Int) = ((l.length % w : Nat) : Int) := by omega
      have q2 : (l.length : Int) / (w : Int) = ((l.length / w : Nat) : Int) := by rw [Int.natCast_ediv]
      refine ⟨_, rfl, G, gdx, _, rfl, gh1, zms _ _ (by decide +kernel) (by decide +kernel), _, rfl, _, rfl, C.p, t.CV, dx, _, _, rfl, hin, T.cV, T.vW, vi _ _ _ _ _, _, _, rfl, rfl, (by show (0 : Int) < (w : Int); omega), _, rfl, _, rfl, C.p, t.CV, dx, _, _, rfl, hin, T.cV, T.vW, vi _ _ _ _ _, _, _, rfl, rfl, ⟨by show (0 : Int) < (w : Int); omega, by show (w : Int) < 1073741824; omega⟩, ?_⟩
      dsimp only
      rw [q1, q2]
      have hdiv : l.length / w < h := by rw [Nat.div_lt_iff_lt_mul hw0, Nat.mul_comm]; exact hlt
      refine ⟨G, kc, w, h, l.length % w, l.length / w, gs, wh, rfl, hG1, Nat.mod_lt _ hw0, hdiv, hwle, hhle, fun ga g hg hga => ?_⟩
      rw [zaa w (w * h) kc gs wh n' l g hlt hg] at k1
      refine ⟨_, rfl, _, rfl, _, rfl, B, bs1, C, w, w * h, kc, l, ga, g, H0, rfl, hga, ap1, hC1, hb1, hlt, Nat.le_trans hwh (by decide), hwle, (k1.shift kp1).bind' (fun x hx => hx) fun l' bs2 v H2 hm hb2 kp2 hv k2 => ?_⟩
      obtain ⟨rfl, hC2⟩ := hv
      obtain ⟨h1, h2⟩ := zil hlt hm
      exact ⟨w * h - l'.length, by omega, l', bs2, _, _, n', rfl, rfl, ap1.next kp2, hC2, hb2, h2, kp1.trans kp2, by omega, k1.next hm⟩
    . have hge : w * h <= l.length := by
        have : ¬ ((zm (zh l)).length : Int) < ((w * h : Nat) : Int) := fun z => e (decide_eq_true z)
        rw [hwl] at this
        omega
      rw [za4 w (w * h) kc gs wh n' l hge] at k1
      refine ⟨_, rfl, C.p, t.CV, dx, _, _, rfl, hin, T.cV, T.vC, xi _ _ _ _ _, ?_⟩
      exact k1.pure' hb1 kp1 ⟨C.l, rfl, hC1.lst, by omega, hC1.ok, ap1.nl⟩
end
end Lk
end
section
namespace Lk
open PySem PySem.Spec PyProof.Rows L2
open Sn15 (D bits bitsOf symbol Px Group up)
abbrev zad : Stmt := top 36
abbrev zft : Stmt := top 37
abbrev zal : Stmt := top 38
abbrev zaf : Stmt := top 40
abbrev zg4 : Stmt := top 41
def xX : List Nat -> D (List Sn15.Code)
  | [] => pure []
  | n :: r => Sn15.code n >>= fun c => xX r >>= fun cs => pure (c :: cs)
def yW (cs : List Sn15.Code) : Group := ⟨cs.getD 0 [], cs.getD 1 [], cs.getD 2 [], cs.getD 3 [], cs.getD 4 []⟩
theorem zco (c : Nat) : Sn15.group c = (xX [280 + c, 256, 256, 256, 40] >>= fun cs => pure (yW cs)) := by
  unfold Sn15.group
  simp only [xX, zK, zq]
  rfl
def yd (c : Nat) : List Nat := [280 + c, 256, 256, 256, 40]
theorem zV.kept {H0 : Hp} {t : Ad} {H H' : Hp} {B : Bi} {bs : List Bool} {a : Addr} {c : Sn15.Code} (h : zV H0 t H a c) (b : zx t H B bs) (k : zF [B.p] H H') : zV H0 t H' a c := by
  obtain ⟨dx, wa, was, words, sole, ⟨h1, h2, h3, h4⟩, n⟩ := h
  exact ⟨dx, wa, was, words, sole, ⟨k.ins b h1 (by decide +kernel), k.lst b h2, h3.kept fun x l e => k.lst b e, h4⟩, n⟩
theorem zV.over {H0 : Hp} {t : Ad} {H : Hp} {a la : Addr} {c : Sn15.Code} {o u : HO} (h : zV H0 t H a c) (hl : H0 la = some u) : zV H0 t (upd H la o) a c := by
  obtain ⟨dx, wa, was, words, sole, ⟨h1, h2, h3, h4⟩, n1, n2, n3⟩ := h
  have ne : ∀ x, H0 x = none -> x ≠ la := fun x hx => (zd hl hx).symm
  refine ⟨dx, wa, was, words, sole, ⟨by rw [zk (ne _ n1)]; exact h1, by rw [zk (ne _ n2)]; exact h2, ⟨h3.len, fun j x e => ?_⟩, h4⟩, n1, n2, n3⟩
  obtain ⟨w1, e1, e2⟩ := h3.at_ j x e
  exact ⟨w1, e1, by rw [zk (ne _ (n3 x (List.mem_of_getElem? e)))]; exact e2⟩
theorem znV {α : Type} {l : List α} (h : l.length = 5) : ∃ a b c d e, l = [a, b, c, d, e] := by
  match l, h with
  | [a, b, c, d, e], _ => exact ⟨a, b, c, d, e, rfl⟩
structure zbU (H0 : Hp) (t : Ad) (H : Hp) (as : List Addr) (cs : List Sn15.Code) (ns : List Nat) : Prop where
  l1 : as.length = cs.length
  l2 : cs.map List.length = ns
  at_ : ∀ (j : Nat) (a : Addr), as[j]? = some a -> ∃ c, cs[j]? = some c /\ zV H0 t H a c
def yz (H0 : Hp) (t : Ad) (H : Hp) (k : Nat) (ga : Addr) (g : Group) : Prop := ∃ a0 a1 a2 a3 a4 : Addr, H ga = some (.lst [.ref a0, .ref a1, .ref a2, .ref a3, .ref a4]) /\ zV H0 t H a0 g.green /\ zV H0 t H a1 g.red /\ zV H0 t H a2 g.blue /\ zV H0 t H a3 g.alpha /\ zV H0 t H a4 g.distance /\ zaw k g /\ H0 ga = none
theorem yz.toAt {H0 : Hp} {t : Ad} {H : Hp} {k : Nat} {ga : Addr} {g : Group} (h : yz H0 t H k ga g) : y9 t H k ga g := by
  obtain ⟨a0, a1, a2, a3, a4, h0, h1, h2, h3, h4, h5, h6, _⟩ := h
  exact ⟨a0, a1, a2, a3, a4, h0, h1.toAt, h2.toAt, h3.toAt, h4.toAt, h5.toAt, h6⟩
theorem yz.rebase {H0 H1 : Hp} {t : Ad} {H : Hp} {k : Nat} {ga : Addr} {g : Group} (h : yz H1 t H k ga g) (d : ∀ x, H1 x = none -> H0 x = none) : yz H0 t H k ga g := by
  obtain ⟨a0, a1, a2, a3, a4, h0, h1, h2, h3, h4, h5, h6, h7⟩ := h
  exact ⟨a0, a1, a2, a3, a4, h0, h1.rebase d, h2.rebase d, h3.rebase d, h4.rebase d, h5.rebase d, h6, d _ h7⟩
theorem yz.kept {H0 : Hp} {t : Ad} {H H' : Hp} {k : Nat} {ga : Addr} {g : Group} {B : Bi} {bs : List Bool} (h : yz H0 t H k ga g) (b : zx t H B bs) (kp : zF [B.p] H H') : yz H0 t H' k ga g := by
  obtain ⟨a0, a1, a2, a3, a4, h0, h1, h2, h3, h4, h5, h6, h7⟩ := h
  exact ⟨a0, a1, a2, a3, a4, kp.lst b h0, h1.kept b kp, h2.kept b kp, h3.kept b kp, h4.kept b kp, h5.kept b kp, h6, h7⟩
theorem yz.over {H0 : Hp} {t : Ad} {H : Hp} {k : Nat} {ga la : Addr} {g : Group} {o u : HO} (h : yz H0 t H k ga g) (hl : H0 la = some u) : yz H0 t (upd H la o) k ga g := by
  obtain ⟨a0, a1, a2, a3, a4, h0, h1, h2, h3, h4, h5, h6, h7⟩ := h
  exact ⟨a0, a1, a2, a3, a4, by rw [zk (zd hl h7).symm]; exact h0, h1.over hl, h2.over hl, h3.over hl, h4.over hl, h5.over hl, h6, h7⟩
theorem zbU.toGroup {H0 : Hp} {t : Ad} {H : Hp} {ga : Addr} {as : List Addr} {cs : List Sn15.Code} {k : Nat} (h : zbU H0 t H as cs (yd (ye k))) (hg : H ga = some (.lst (as.map V.ref))) : y9 t H k ga (yW cs) /\ ∀ H1 : Hp, H1 ga = none -> (∀ x, H0 x = none -> H1 x = none) -> yz H1 t H k ga (yW cs) := by
  obtain ⟨l1, l2, at_⟩ := h
  have h5 : cs.length = 5 := by have := congrArg List.length l2; simpa [yd] using this
  obtain ⟨c0, c1, c2, c3, c4, rfl⟩ := znV h5
  obtain ⟨a0, a1, a2, a3, a4, rfl⟩ := znV (l1.trans h5)
  . obtain ⟨_, q0, r0⟩ := at_ 0 a0 rfl
    obtain ⟨_, q1, r1⟩ := at_ 1 a1 rfl
    obtain ⟨_, q2, r2⟩ := at_ 2 a2 rfl
    obtain ⟨_, q3, r3⟩ := at_ 3 a3 rfl
    obtain ⟨_, q4, r4⟩ := at_ 4 a4 rfl
    cases q0; cases q1; cases q2; cases q3; cases q4
    simp only [yd, List.map_cons, List.map_nil, List.cons.injEq, and_true] at l2
    have ok : zaw k (yW [c0, c1, c2, c3, c4]) := ⟨l2.1, l2.2.1, l2.2.2.1, l2.2.2.2.1, l2.2.2.2.2⟩
    exact ⟨⟨a0, a1, a2, a3, a4, hg, r0.toAt, r1.toAt, r2.toAt, r3.toAt, r4.toAt, ok⟩, fun H1 n d => ⟨a0, a1, a2, a3, a4, hg, r0.rebase d, r1.rebase d, r2.rebase d, r3.rebase d, r4.rebase d, ok, n⟩⟩
def js (t : Ad) (H0 : Hp) (k : Nat) : Group -> V -> Hp -> Prop := fun g v H => ∃ ga, v = .ref ga /\ yz H0 t H k ga g
theorem zhx {k : Nat} (h : k <= 11) : ye k <= 2048 := by
  unfold ye
  split
  . omega
  . exact Nat.le_trans (Nat.pow_le_pow_right (by decide) h) (by decide)
section
variable {P : Program} {w : World} {K : PySem.W.Frag} {mg : Str -> Option Value} {base : Heap} {t : Ad}
def zaj (t : Ad) : Sp := fun vs H Q E => ∃ (B : Bi) (bs : List Bool) (k : Nat), vs = [.ref B.p, nat k] /\ k <= 11 /\ zx t H B bs /\ Out t E B [] H (js t H k) Q (Sn15.group (ye k) bs)
theorem zan : zn ["bits", "depth", "cached", "codes", "size"] ["bits", "depth"] (zi zg4) := by trivial
def zi6 (t : Ad) (E : XK) (B : Bi) (H H1 : Hp) (Q : VK) (k : Nat) (la ta : Addr) (i : Nat) (σ : L2.St) (Hx : Hp) : Prop := ∃ (as : List Addr) (cs : List Sn15.Code) (bs : List Bool) (v4 : Option V), σ = [some (.ref B.p), some (nat k), some (nat (ye k)), some (.ref la), v4] /\
  Hx la = some (.lst (as.map V.ref)) /\ Hx ta = some (.tup (zm (yd (ye k)))) /\ zbU H1 t Hx as cs ((yd (ye k)).take i) /\ zx t Hx B bs /\ zF [B.p] H Hx /\ (∀ x, Hx x = none -> H1 x = none) /\ Out t E B [] H (js t H k) Q ((xX ((yd (ye k)).drop i) >>= fun r => pure (yW (cs ++ r))) bs)
theorem zhu {f : Addr} {fd : FuncData} (F : Fun K "read_group" "read_group" zg4 f fd) (T : Tx K mg t) (Gc : zB P w K mg base 6 "read_code" ["bits", "size"] (zg9 t)) : z0 P w K mg base (CXe P w) 7 f fd ["bits", "depth"] (zaj t) := by
  refine F.okE zan (fun vs H Q E h => ?_) (fun cdv A outer s H vs Q E hr h => ?_)
  . obtain ⟨B, bs, k, rfl, _⟩ := h
    rfl
  . obtain ⟨B, bs, kc, rfl, hk, hb, k⟩ := h
    refine ⟨_, zb (zp (i := 2) zan.nd rfl (Or.inl rfl) (xP (zw qP (pv 1) zg (zE _)) (zl yT zg (pv 1)) zg))
      (zb (zp (i := 3) zan.nd rfl (Or.inl rfl) (yc ze))
      (zb (yV Lv.of.own rfl (zaI (zjn (za (zl zL zg (pv 2)) (za zg (za zg (za zg (za zg ze))))))) (z6 (i := 4) zan.nd rfl (Or.inl rfl))
        (zf (zZ (xz PySem.F.plainAttrs_list PySem.F.slot_list_append PySem.F.type_list_append yb (pv 3) (za (pd Gc Lv.of hr (za (pv 0) (za (pv 4) ze))) ze)))))
      (zf (zr (pv 3))))), ?_⟩
    rw [zco] at k
    have hcs := zhx hk
    have q280 : (280 : Int) + ((ye kc : Nat) : Int) = ((280 + ye kc : Nat) : Int) := by omega
    refine ⟨_, rfl, _, _, rfl, rfl, _, rfl, yG (fun e => ?_) (fun e => ?_)⟩
    . have h0 : ¬ kc = 0 := by have := of_decide_eq_true e; omega
      have ec : (1 : Int) * 2 ^ ((kc : Nat) : Int).toNat = ((ye kc : Nat) : Int) := by
        unfold ye
        rw [if_neg h0, Int.toNat_natCast, two_pow_int, Int.one_mul]
      refine ⟨_, rfl, _, _, rfl, rfl, ⟨by omega, by omega, by decide⟩, ?_⟩
      dsimp -proj only
      rw [ec]
      refine ⟨Nat.zero_le _, fun la hla => ?_⟩
      refine ⟨_, rfl, _, _, rfl, rfl, ?_⟩
      dsimp -proj only
      rw [q280]
      refine ⟨(by show 5 <= sizeLine; decide), fun ta hta => ⟨ta, rfl, ⟨_, SqT.of zc⟩, ?_⟩⟩
      generalize hH1 : upd (upd H la (.lst [])) ta _ = H1
      have la1 : H1 la = some (.lst []) := by rw [<- hH1, zk (zd zc hta)]; exact zc
      have ta1 : H1 ta = some (.tup (zm (yd (ye kc)))) := by rw [<- hH1, zc]; rfl
      have sm : zN H H1 := by rw [<- hH1]; exact zt (zt (zN.refl _) hla) hta
      refine jv (K := K) (a := ta) (xs := zm (yd (ye kc))) (zi6 t E B H H1 Q kc la ta) ⟨[], [], bs, none, rfl, la1, ta1, ⟨rfl, rfl, fun j a e => by simp at e⟩, hb.same sm, zF.same sm _, fun x h => h, k⟩ (fun i σ Hz _ ⟨_, _, _, _, _, _, ht, _⟩ => SqT.of ht) ?_ ?_
      . rintro i x σ Hz hx ⟨as, cs, bs1, v4, rfl, hla1, hta1, hcs1, hb1, kp1, dm, k1⟩
        obtain ⟨n, hn, rfl⟩ := yQ hx
        have hil : i < (yd (ye kc)).length := (List.getElem?_eq_some_iff.mp hn).1
        have hge : (yd (ye kc))[i] = n := by rw [List.getElem?_eq_getElem hil] at hn; exact Option.some.inj hn
        have hn3 : n <= 3000 := by
          have hm := List.mem_of_getElem? hn
          simp only [yd, List.mem_cons, List.not_mem_nil, or_false] at hm
          omega
        rw [List.drop_eq_getElem_cons hil, hge] at k1
        have k2 : Out t E B [] H (js t H kc) Q ((Sn15.code n >>= fun c => xX ((yd (ye kc)).drop (i + 1)) >>= fun r => pure (yW ((cs ++ [c]) ++ r))) bs1) := by
          have e : (xX (n :: (yd (ye kc)).drop (i + 1)) >>= fun r => (pure (yW (cs ++ r)) : D Group)) = (Sn15.code n >>= fun c => xX ((yd (ye kc)).drop (i + 1)) >>= fun r => pure (yW ((cs ++ [c]) ++ r))) := by
            simp only [xX, zK, zq, List.append_assoc, List.singleton_append]
          rw [<- e]; exact k1
        refine ⟨_, rfl, .inl ⟨rfl, _, SqL.of hla1⟩, _, rfl, _, rfl, B, bs1, n, rfl, hn3, hb1, (k2.shift kp1).bind fun c bs2 v H2 hm hb2 kp2 hv _ => ?_⟩
        obtain ⟨⟨ca, rfl, hcn⟩, hcl⟩ := hv
        have hla2 := kp2.lst hb1 hla1
        have hasl : as.length <= 5 := by
          have h1 := hcs1.l1
          have h2 := congrArg List.length hcs1.l2
          rw [List.length_map, List.length_take] at h2
          have h3 : (yd (ye kc)).length = 5 := rfl
          omega
        have ntp : ta ≠ B.p := by
          obtain ⟨dz, iz, z1, _⟩ := hb1
          exact y6 hta1 z1 (by intro z; cases z)
        refine ⟨la, _, _, rfl, rfl, hla2, ?_, as ++ [ca], cs ++ [c], bs2, some (nat n), rfl, by rw [zc, List.map_append]; rfl, ?_, ⟨?_, ?_, fun j a e => ?_⟩, qY hb2 hb hla, ji (kp1.trans kp2) hla, fun x hx => ?_, k2.next hm⟩
        . rw [List.length_map]
          exact Nat.lt_of_le_of_lt hasl (by decide)
        . rw [zk (y6 hta1 hla1 (by intro z; cases z))]
          exact kp2 _ _ hta1 (by simpa using ntp)
        . rw [List.length_append, List.length_append, hcs1.l1]; rfl
        . rw [List.map_append, hcs1.l2, List.take_succ_eq_append_getElem hil, hge, <- hcl]; rfl
        . by_cases hj : j < as.length
          . rw [List.getElem?_append_left hj] at e
            obtain ⟨c', e1, e2⟩ := hcs1.at_ j a e
            refine ⟨c', ?_, (e2.kept hb1 kp2).over la1⟩
            rw [List.getElem?_append_left (by rw [<- hcs1.l1]; exact hj)]
            exact e1
          . rw [List.getElem?_append_right (by omega)] at e
            have hj0 : j - as.length = 0 := by
              cases q : j - as.length with
              | zero => rfl
              | succ m => rw [q] at e; simp at e
            rw [hj0] at e
            have ea : ca = a := Option.some.inj e
            subst ea
            refine ⟨c, ?_, (hcn.rebase dm).over la1⟩
            rw [List.getElem?_append_right (by rw [<- hcs1.l1]; omega), <- hcs1.l1, hj0]
            rfl
        . by_cases hxl : x = la
          . rw [hxl, zc] at hx; cases hx
          . rw [zk hxl] at hx
            exact dm x (yE kp2 hb2 x hx)
      . rintro σ Hz ⟨as, cs, bs1, v4, rfl, hla1, hta1, hcs1, hb1, kp1, dm, k1⟩
        rw [zo] at hcs1 k1
        rw [List.take_length] at hcs1
        rw [List.drop_length] at k1
        have k2 : Out t E B [] H (js t H kc) Q ((pure (yW (cs ++ [])) : D Group) bs1) := k1
        rw [List.append_nil] at k2
        exact ⟨_, rfl, k2.pure' hb1 kp1 ⟨la, rfl, (hcs1.toGroup hla1).2 H hla (fun x hx => sm.free hx)⟩⟩
    . have h0 : kc = 0 := by
        have : ¬ (0 : Int) < (kc : Int) := fun z => e (decide_eq_true z)
        omega
      have ec : (0 : Int) = ((ye kc : Nat) : Int) := by
        unfold ye
        rw [if_pos h0]; rfl
      show zhl 2 (.int 0) _ _ _
      rw [ec]
      refine ⟨Nat.zero_le _, fun la hla => ?_⟩
      refine ⟨_, rfl, _, _, rfl, rfl, ?_⟩
      dsimp -proj only
      rw [q280]
      refine ⟨(by show 5 <= sizeLine; decide), fun ta hta => ⟨ta, rfl, ⟨_, SqT.of zc⟩, ?_⟩⟩
      generalize hH1 : upd (upd H la (.lst [])) ta _ = H1
      have la1 : H1 la = some (.lst []) := by rw [<- hH1, zk (zd zc hta)]; exact zc
      have ta1 : H1 ta = some (.tup (zm (yd (ye kc)))) := by rw [<- hH1, zc]; rfl
      have sm : zN H H1 := by rw [<- hH1]; exact zt (zt (zN.refl _) hla) hta
      refine jv (K := K) (a := ta) (xs := zm (yd (ye kc))) (zi6 t E B H H1 Q kc la ta) ⟨[], [], bs, none, rfl, la1, ta1, ⟨rfl, rfl, fun j a e => by simp at e⟩, hb.same sm, zF.same sm _, fun x h => h, k⟩ (fun i σ Hz _ ⟨_, _, _, _, _, _, ht, _⟩ => SqT.of ht) ?_ ?_
      . rintro i x σ Hz hx ⟨as, cs, bs1, v4, rfl, hla1, hta1, hcs1, hb1, kp1, dm, k1⟩
        obtain ⟨n, hn, rfl⟩ := yQ hx
        have hil : i < (yd (ye kc)).length := (List.getElem?_eq_some_iff.mp hn).1
        have hge : (yd (ye kc))[i] = n := by rw [List.getElem?_eq_getElem hil] at hn; exact Option.some.inj hn
        have hn3 : n <= 3000 := by
          have hm := List.mem_of_getElem? hn
          simp only [yd, List.mem_cons, List.not_mem_nil, or_false] at hm
          omega
        rw [List.drop_eq_getElem_cons hil, hge] at k1
        have k2 : Out t E B [] H (js t H kc) Q ((Sn15.code n >>= fun c => xX ((yd (ye kc)).drop (i + 1)) >>= fun r => pure (yW ((cs ++ [c]) ++ r))) bs1) := by
          have e : (xX (n :: (yd (ye kc)).drop (i + 1)) >>= fun r => (pure (yW (cs ++ r)) : D Group)) = (Sn15.code n >>= fun c => xX ((yd (ye kc)).drop (i + 1)) >>= fun r => pure (yW ((cs ++ [c]) ++ r))) := by
            simp only [xX, zK, zq, List.append_assoc, List.singleton_append]
          rw [<- e]; exact k1
        refine ⟨_, rfl, .inl ⟨rfl, _, SqL.of hla1⟩, _, rfl, _, rfl, B, bs1, n, rfl, hn3, hb1, (k2.shift kp1).bind fun c bs2 v H2 hm hb2 kp2 hv _ => ?_⟩
        obtain ⟨⟨ca, rfl, hcn⟩, hcl⟩ := hv
        have hla2 := kp2.lst hb1 hla1
        have hasl : as.length <= 5 := by
          have h1 := hcs1.l1
          have h2 := congrArg List.length hcs1.l2
          rw [List.length_map, List.length_take] at h2
          have h3 : (yd (ye kc)).length = 5 := rfl
          omega
        have ntp : ta ≠ B.p := by
          obtain ⟨dz, iz, z1, _⟩ := hb1
          exact y6 hta1 z1 (by intro z; cases z)
        refine ⟨la, _, _, rfl, rfl, hla2, ?_, as ++ [ca], cs ++ [c], bs2, some (nat n), rfl, by rw [zc, List.map_append]; rfl, ?_, ⟨?_, ?_, fun j a e => ?_⟩, qY hb2 hb hla, ji (kp1.trans kp2) hla, fun x hx => ?_, k2.next hm⟩
        . rw [List.length_map]
          exact Nat.lt_of_le_of_lt hasl (by decide)
        . rw [zk (y6 hta1 hla1 (by intro z; cases z))]
          exact kp2 _ _ hta1 (by simpa using ntp)
        . rw [List.length_append, List.length_append, hcs1.l1]; rfl
        . rw [List.map_append, hcs1.l2, List.take_succ_eq_append_getElem hil, hge, <- hcl]; rfl
        . by_cases hj : j < as.length
          . rw [List.getElem?_append_left hj] at e
            obtain ⟨c', e1, e2⟩ := hcs1.at_ j a e
            refine ⟨c', ?_, (e2.kept hb1 kp2).over la1⟩
            rw [List.getElem?_append_left (by rw [<- hcs1.l1]; exact hj)]
            exact e1
          . rw [List.getElem?_append_right (by omega)] at e
            have hj0 : j - as.length = 0 := by
              cases q : j - as.length with
              | zero => rfl
              | succ m => rw [q] at e; simp at e
            rw [hj0] at e
            have ea : ca = a := Option.some.inj e
            subst ea
            refine ⟨c, ?_, (hcn.rebase dm).over la1⟩
            rw [List.getElem?_append_right (by rw [<- hcs1.l1]; omega), <- hcs1.l1, hj0]
            rfl
        . by_cases hxl : x = la
          . rw [hxl, zc] at hx; cases hx
          . rw [zk hxl] at hx
            exact dm x (yE kp2 hb2 x hx)
      . rintro σ Hz ⟨as, cs, bs1, v4, rfl, hla1, hta1, hcs1, hb1, kp1, dm, k1⟩
        rw [zo] at hcs1 k1
        rw [List.take_length] at hcs1
        rw [List.drop_length] at k1
        have k2 : Out t E B [] H (js t H kc) Q ((pure (yW (cs ++ [])) : D Group) bs1) := k1
        rw [List.append_nil] at k2
        exact ⟨_, rfl, k2.pure' hb1 kp1 ⟨la, rfl, (hcs1.toGroup hla1).2 H hla (fun x hx => sm.free hx)⟩⟩
def wZ (t : Ad) : Sp := fun vs H Q E => ∃ (B : Bi) (bs : List Bool) (w h : Nat), vs = [.ref B.p, nat w, nat h] /\ 0 < w /\ 0 < h /\ w * h <= 2 ^ 20 /\ zx t H B bs /\ Out t E B [] H (vF H (w * h)) Q (qS w h bs)
theorem zbN : zn ["bits", "width", "height", "depth", "groups"] ["bits", "width", "height"] (zi zft) := by trivial
theorem zbr {k : Nat} {bs bs' : List Bool} (h : jQ bs = some (k, bs')) : k <= 11 := by
  unfold jQ at h
  obtain ⟨u, bs1, _, h⟩ := bind_some h
  split at h
  . obtain ⟨q, bs2, _, h⟩ := bind_some h
    obtain ⟨_, bs3, hn, h⟩ := bind_some h
    cases h
    exact (of_decide_eq_true (qc hn).1).2
  . cases h; decide
theorem jV {H : Hp} {E : XK} {Q : VK} {B : Bi} {bs : List Bool} {w h k : Nat} {gs : List Group} {wh : Nat -> Nat -> Nat} {G p dx : Addr} (hG : za7 t H k G w h gs wh) (hb : zx t H B bs) (hw : 0 < w) (hh : 0 < h) (hwh : w * h <= 2 ^ 20) (hk : k <= 11)
    (hp : H p = none) (hdx : H dx = none) (hne : dx ≠ p) (kk : Out t E B [] H (vF H (w * h)) Q (zbC w h k gs wh bs)) {H' : Hp} {C : Ca} (eC : C.p = p) (hC : zY t H' C w (w * h) k []) (kp : zF [p] (upd (upd H dx (.own p)) p (.ins t.CV dx [])) H') (nl : (upd (upd H dx (.own p)) p (.ins t.CV dx [])) C.l = none) (nc : (upd (upd H dx (.own p)) p (.ins t.CV dx [])) C.c = none) :
    x8 t [.ref B.p, .ref p, .ref G] H' Q E := by
  have sm : zN H H' := zN.made hp hdx fun b o e ne => kp b o e (by simpa using ne)
  have free : ∀ x, (upd (upd H dx (.own p)) p (.ins t.CV dx [])) x = none -> H x = none := fun x hx => by
    by_cases h1 : x = p
    . rw [h1]; exact hp
    . rw [zk h1] at hx
      by_cases h2 : x = dx
      . rw [h2]; exact hdx
      . rw [zk h2] at hx; exact hx
  refine ⟨B, bs, C, w, h, k, gs, wh, G, H, by rw [eC], hG, ⟨zF.same sm _, ⟨bs, hb⟩, free _ nl, free _ nc⟩, hC, hb.same sm, hw, hh, hwh, ?_⟩
  cases hm : zbC w h k gs wh bs with
  | none => rw [hm] at kk; exact kk
  | some x =>
    rw [hm] at kk
    refine fun v H2 b2 k2 r => kk v H2 b2 (fun b o e n => k2 b o (sm b o e) ?_) r
    simp only [List.mem_cons, List.not_mem_nil, or_false] at n ⊢
    exact fun z => z.elim n fun z => z.elim (fun z => zd e (free _ nl) z) (fun z => zd e (free _ nc) z)
theorem ziI {f : Addr} {fd : FuncData} (F : Fun K "read_plain_picture" "read_plain_picture" zft f fd) (T : Tx K mg t) (Gd : zB P w K mg base 3 "read_cache_depth" ["bits"] (wX t)) (Gg : zB P w K mg base 7 "read_group" ["bits", "depth"] (zaj t))
    (GG : yp P w K mg base 1 t.CG "Groups" ["self", "squares", "groups"] (wU t)) (GV : yp P w K mg base 1 t.CV "Canvas" ["self", "width", "height", "depth"] (wG t)) (Gc : zB P w K mg base 5 "read_colours" ["bits", "canvas", "groups"] (x8 t)) :
    z0 P w K mg base (CXe P w) 8 f fd ["bits", "width", "height"] (wZ t) := by
  refine F.okE zbN (fun vs H Q E h => ?_) (fun cdv A outer s H vs Q E hr h => ?_)
  . obtain ⟨B, bs, w, h, rfl, _⟩ := h
    rfl
  . obtain ⟨B, bs, w, h, rfl, hw, hh, hwh, hb, k⟩ := h
    have hr2 : yC 2 _ := hr.mono (by decide)
    have hr3 : yC 3 _ := hr.mono (by decide)
    have hr5 : yC 5 _ := hr.mono (by decide)
    refine ⟨_, zb (zp (i := 3) zbN.nd rfl (Or.inl rfl) (pd Gd Lv.of hr3 (za (pv 0) ze)))
      (zb (zp (i := 4) zbN.nd rfl (Or.inl rfl) (pmk GG Lv.of hr2 (za zc6 (za (yc (za (pd Gg Lv.of hr (za (pv 0) (za (pv 3) ze))) ze)) ze))))
      (zf (zr (pd Gc Lv.of hr5 (za (pv 0) (za (pmk GV Lv.of hr2 (za (pv 1) (za (pv 2) (za (pv 3) ze)))) (za (pv 4) ze))))))), ?_⟩
    unfold qS at k
    refine ⟨_, rfl, B, bs, rfl, hb, k.bind fun kc bs1 v1 H1 hm1 hb1 kp1 hv1 k1 => ?_⟩
    cases hv1
    have hk := zbr hm1
    refine ⟨_, rfl, _, rfl, B, bs1, kc, rfl, hk, hb1, k1.bind fun g bs2 v2 H2 hm2 hb2 kp2 hv2 k2 => ?_⟩
    obtain ⟨ga, rfl, hg⟩ := hv2
    refine ⟨(by show 1 <= sizeLine; decide), fun la hla => ?_⟩
    intro p dx hp hdx hne
    refine ⟨p, dx, la, .non, rfl, zc, fun H3 e3 kp3 => ⟨rfl, ?_⟩⟩
    have sm3 : zN H2 H3 := (zt (zN.refl _) hla).trans (zN.made hp hdx fun b o e ne => kp3 b o e (by simpa using ne))
    have la3 : H3 la = some (.lst [.ref ga]) := (zN.made hp hdx fun b o e ne => kp3 b o e (by simpa using ne)) _ _ zc
    have hG : za7 t H3 kc p w h [g] (fun _ _ => 0) := ⟨dx, la, .non, [ga], e3, la3, rfl, fun j ga' e => by
      cases j with
      | zero =>
        have : ga = ga' := Option.some.inj e
        subst this
        exact ⟨g, rfl, hg.toAt.same sm3⟩
      | succ j => simp at e, .inl ⟨rfl, rfl, by simp⟩⟩
    have hwle : w <= 2 ^ 20 := Nat.le_trans (Nat.le_mul_of_pos_right w hh) hwh
    refine ⟨_, rfl, _, rfl, _, rfl, _, rfl, ?_⟩
    intro p4 dx4 hp4 hdx4 hne4
    refine ⟨p4, dx4, w, h, kc, rfl, zc, hwle, hk, fun H5 C eC hC5 kp5 nl5 nc5 => ⟨rfl, _, rfl, ?_⟩⟩
    exact jV hG (hb2.same sm3) hw hh hwh hk hp4 hdx4 hne4 ((k2.shift (zF.same sm3 _)).imp (vF.rebase fun x hx => yE kp1 hb1 x (yE kp2 hb2 x (sm3.free hx)))) eC hC5 kp5 nl5 nc5
end
end Lk
end
section
namespace Lk
open PySem PySem.Spec PyProof.Rows L2
open Sn15 (D bits bitsOf symbol Px Group up)
theorem wr {n z : Nat} (h : 0 < z) (hn : 0 < n) : 0 < up n z := by
  have := yU (x := 0) h hn
  rw [Nat.zero_div] at this
  exact this
theorem zbo {w h z : Nat} (hz : 0 < z) {m : Nat} (hm : w * h <= m) : up w z * up h z <= m := Nat.le_trans (Nat.mul_le_mul (zbF hz) (zbF hz)) hm
def znS (t : Ad) (H0 : Hp) (w h : Nat) : Nat × List Px -> V -> Hp -> Prop := fun m v H => ∃ sa cl, v = .ref sa /\ zex t H sa cl m.1 (up w (2 ^ m.1)) m.2 /\ m.1 <= 9 /\ m.2.length = up w (2 ^ m.1) * up h (2 ^ m.1) /\ H0 sa = none /\ H0 cl = none
theorem x9 : ∀ (l : List Nat) (a b : Nat), a <= b -> (∀ x ∈ l, x <= b) -> l.foldl max a <= b
  | [], a, b, h, _ => h
  | x :: r, a, b, h, hx => x9 r (max a x) b (by have := hx x List.mem_cons_self; omega) fun y hy => hx y (List.mem_cons_of_mem _ hy)
theorem qp : ∀ (l : List Nat) (a : Nat), a <= l.foldl max a /\ ∀ x ∈ l, x <= l.foldl max a
  | [], a => ⟨Nat.le_refl _, fun x hx => by cases hx⟩
  | y :: r, a => by
    obtain ⟨h1, h2⟩ := qp r (max a y)
    refine ⟨Nat.le_trans (Nat.le_max_left a y) h1, fun x hx => ?_⟩
    rcases List.mem_cons.mp hx with e | e
    . rw [e]; exact Nat.le_trans (Nat.le_max_right a y) h1
    . exact h2 x e
theorem zmM {l : List Nat} {M : Int} (h1 : M ∈ l.map fun (n : Nat) => (n : Int)) (h2 : ∀ x ∈ l.map (fun (n : Nat) => (n : Int)), x <= M) : M = ((l.foldl max 0 : Nat) : Int) := by
  obtain ⟨m, hm, rfl⟩ := List.mem_map.mp h1
  have a := (qp l 0).2 m hm
  have b := x9 l 0 m (Nat.zero_le _) fun x hx => by
    have := h2 (x : Int) (List.mem_map.mpr ⟨x, hx, rfl⟩)
    omega
  omega
theorem pdn {X : Cx} {k : Nat} {x : Str} {ps : List Str} {sp : Sp} {p pos : Pos} {e : Expr} {es : List Expr} {ts : TA} (G : zB X.prog X.w X.K X.mg X.base k x ps sp) (hr : yC k X.A) (ha : PA X (e :: es) ts) (hg : Gl X x := by rfl) (hdb : (x == ("__debug__" : Str)) = false := by decide)
    (he : starEach (e :: es) X.env = (false, eval e X.env) :: starEach es X.env := by rfl) (hpl : (backTo pos (starEach es X.env)).any (·.1) = false := by rfl) : PE X (.Call (.Name x p) (e :: es) [] pos) (zic sp [] (fun _ _ _ => False) ts) := by
  obtain ⟨f, fd, F, hm, hk, hb⟩ := G.ex
  exact zb5 F hr hg hm hk hb .nil (fun _ _ _ _ _ _ _ h => by obtain ⟨_, _, _, _, _, _, hE, _⟩ := h; exact hE.elim) ha hdb he hpl
section
variable {P : Program} {w : World} {K : PySem.W.Frag} {mg : Str -> Option Value} {base : Heap} {t : Ad}
def qk (t : Ad) : Sp := fun vs H Q E => ∃ (B : Bi) (bs : List Bool) (w h : Nat), vs = [.ref B.p, nat w, nat h] /\ 0 < w /\ 0 < h /\ w * h <= 2 ^ 20 /\ zx t H B bs /\ Out t E B [] H (znS t H w h) Q (y1 w h bs)
theorem qV : zn ["bits", "width", "height", "shift", "across", "colours"] ["bits", "width", "height"] (zi zad) := by trivial
theorem zei {f : Addr} {fd : FuncData} (F : Fun K "read_squares" "read_squares" zad f fd) (T : Tx K mg t) (Gn : zD P w K mg base 2 t.CB "number" ["self", "width"] (yK t)) (Gu : zB P w K mg base 1 "divided_up" ["number", "shift"] wB) (Gp : zB P w K mg base 8 "read_plain_picture" ["bits", "width", "height"] (wZ t))
    (GS : yp P w K mg base 1 t.CS "Squares" ["self", "shift", "across", "colours"] (zbJ t)) : z0 P w K mg base (CXe P w) 9 f fd ["bits", "width", "height"] (qk t) := by
  refine F.okE qV (fun vs H Q E h => ?_) (fun cdv A outer s H vs Q E hr h => ?_)
  . obtain ⟨B, bs, w, h, rfl, _⟩ := h
    rfl
  . obtain ⟨B, bs, w, h, rfl, hw, hh, hwh, hb, k⟩ := h
    have hr1 : yC 1 _ := hr.mono (by decide)
    have hr2 : yC 2 _ := hr.mono (by decide)
    refine ⟨_, zb (zp (i := 3) qV.nd rfl (Or.inl rfl) (zl zL (pm Gn Lv.of T.cB hr2 (pv 0) (za zg ze)) zg))
      (zb (zp (i := 4) qV.nd rfl (Or.inl rfl) (pd Gu Lv.of hr1 (za (pv 1) (za (pv 3) ze))))
      (zb (zp (i := 5) qV.nd rfl (Or.inl rfl) (pd Gp Lv.of hr (za (pv 0) (za (pv 4) (za (pd Gu Lv.of hr1 (za (pv 2) (za (pv 3) ze))) ze)))))
      (zf (zr (pmk GS Lv.of hr2 (za (pv 3) (za (pv 4) (za (pv 5) ze)))))))), ?_⟩
    unfold y1 at k
    obtain ⟨dx, fs, e1, e2⟩ := hb.meth (m := "number")
    refine ⟨_, rfl, B.p, dx, fs, rfl, e1, e2, B, bs, 3, rfl, by decide, hb, k.bind fun q bs1 v1 H1 hm1 hb1 kp1 hv1 k1 => ?_⟩
    cases hv1
    have hq : q < 8 := yk hm1
    have eq2 : (q : Int) + 2 = ((q + 2 : Nat) : Int) := by omega
    refine ⟨_, _, rfl, rfl, ?_⟩
    dsimp -proj only
    rw [eq2]
    have hzp : 0 < (2 : Nat) ^ (q + 2) := Nat.pow_pos (by decide)
    refine ⟨_, rfl, _, rfl, w, q + 2, rfl, by omega, _, rfl, _, rfl, _, rfl, _, rfl, h, q + 2, rfl, by omega, B, bs1, up w (2 ^ (q + 2)), up h (2 ^ (q + 2)), rfl, wr hzp hw, wr hzp hh, zbo hzp hwh, hb1, k1.bind fun l bs2 v2 H2 hm2 hb2 kp2 hv2 k2 => ?_⟩
    obtain ⟨cl, rfl, hcl, hll, hok, ncl⟩ := hv2
    refine ⟨_, rfl, _, rfl, _, rfl, ?_⟩
    intro p dxp hp hdxp hne
    refine ⟨p, dxp, cl, q + 2, up w (2 ^ (q + 2)), rfl, zc, fun H3 e3 kp3 => ⟨rfl, ?_⟩⟩
    have sm : zN H2 H3 := zN.made hp hdxp fun b o e ne => kp3 b o e (by simpa using ne)
    exact k2.pure' (hb2.same sm) (zF.same sm _) ⟨p, cl, rfl, ⟨⟨dxp, e3⟩, sm _ _ hcl, hok⟩, by show q + 2 <= 9; omega, hll, yE kp1 hb1 _ (yE kp2 hb2 _ hp), yE kp1 hb1 _ ncl⟩
def zfZ (t : Ad) (k w h : Nat) : List Group × (Nat -> Nat -> Nat) -> V -> Hp -> Prop := fun m v H => ∃ G, v = .ref G /\ za7 t H k G w h m.1 m.2
def w8 (t : Ad) : Sp := fun vs H Q E => ∃ (B : Bi) (bs : List Bool) (w h k : Nat), vs = [.ref B.p, nat w, nat h, nat k] /\ 0 < w /\ 0 < h /\ w * h <= 2 ^ 20 /\ k <= 11 /\ zx t H B bs /\ Out t E B [] H (zfZ t k w h) Q (zap w h k bs)
abbrev zgS : List Str := ["bits", "width", "height", "depth", "squares", "greatest", "groups", "colour"]
theorem qy : zn zgS ["bits", "width", "height", "depth"] (zi zaf) := by trivial
theorem zb2 (c n : Nat) : Sn15.groups c (n + 1) = (Sn15.group c >>= fun g => Sn15.groups c n >>= fun r => pure (g :: r)) := rfl
def zfB (t : Ad) (E : XK) (B : Bi) (H H3 : Hp) (Q : VK) (kc w h N : Nat) (wh : Nat -> Nat -> Nat) (sa la : Addr) (m : Nat) (σ : L2.St) (Hx : Hp) : Prop := ∃ (gas : List Addr) (gs : List Group) (bs : List Bool) (v7 : Option V), m = N - gs.length /\
  σ = [some (.ref B.p), some (nat w), some (nat h), some (nat kc), some (.ref sa), some (.int ((N : Int) - 1)), some (.ref la), v7] /\ gas.length = gs.length /\ gs.length <= N /\ Hx la = some (.lst (gas.map V.ref)) /\ (∀ (j : Nat) (ga : Addr), gas[j]? = some ga -> ∃ g, gs[j]? = some g /\ yz H3 t Hx kc ga g) /\
  zx t Hx B bs /\ zF [B.p] H Hx /\ (∀ x, Hx x = none -> H3 x = none) /\ Out t E B [] H (zfZ t kc w h) Q ((Sn15.groups (ye kc) (N - gs.length) >>= fun r => pure (gs ++ r, wh)) bs)
theorem zgq {f : Addr} {fd : FuncData} (F : Fun K "read_groups" "read_groups" zaf f fd) (T : Tx K mg t) (Gb : zD P w K mg base 1 t.CB "bit" ["self"] (vt t)) (Gg : zB P w K mg base 7 "read_group" ["bits", "depth"] (zaj t)) (GG : yp P w K mg base 1 t.CG "Groups" ["self", "squares", "groups"] (wU t))
    (Gs : zB P w K mg base 9 "read_squares" ["bits", "width", "height"] (qk t)) (Gn : zB P w K mg base 1 "group_number" ["colour"] zaq) : z0 P w K mg base (CXe P w) 10 f fd ["bits", "width", "height", "depth"] (w8 t) := by
  refine F.okE qy (fun vs H Q E h => ?_) (fun cdv A outer s H vs Q E hr h => ?_)
  . obtain ⟨B, bs, w, h, k, rfl, _⟩ := h
    rfl
  . obtain ⟨B, bs, w, h, kc, rfl, hw, hh, hwh, hk, hb, k⟩ := h
    have hr1 : yC 1 _ := hr.mono (by decide)
    have hr2 : yC 2 _ := hr.mono (by decide)
    have hr7 : yC 7 _ := hr.mono (by decide)
    refine ⟨_, zb (yh (zw xY (pm0 Gb Lv.of T.cB hr1 (pv 0)) zg (zE _)) (zf (zr (pmk GG Lv.of hr2 (za zc6 (za (yc (za (pd Gg Lv.of hr7 (za (pv 0) (za (pv 3) ze))) ze)) ze))))) zI)
      (zb (zp (i := 4) qy.nd rfl (Or.inl rfl) (pd Gs Lv.of hr (za (pv 0) (za (pv 1) (za (pv 2) ze)))))
      (zb (zp (i := 5) qy.nd rfl (Or.inl rfl) (zG (zbl rfl) (by rfl) T.max PyProof.Rows.boot_max (za (zis (own := [("colour", 7)]) rfl qy.nd (kE (zy (pv 4) rfl)) (by show kO zgS (zi zaf) _ _; exact qw (by decide +kernel))
          (fun _ _ _ _ _ => by exact z6 (i := 7) qy.nd (by rfl) (Or.inl (by rfl)) (Or.inr (by rfl))) (fun _ _ _ _ _ => jz) (fun _ _ _ _ _ => by exact pdn Gn hr1 (za (pv 7) ze))) ze)))
      (zb (zp (i := 6) qy.nd rfl (Or.inl rfl) (yc ze))
      (zb (jl Lv.of.own (zw zf0 (zG zC (by rfl) T.len PySem.boot_len (za (pv 6) ze)) (pv 5) (zE _))
        (zf (zZ (xz PySem.F.plainAttrs_list PySem.F.slot_list_append PySem.F.type_list_append yb (pv 6) (za (pd Gg Lv.of hr7 (za (pv 0) (za (pv 3) ze))) ze)))))
      (zf (zr (pmk GG Lv.of hr2 (za (pv 4) (za (pv 6) ze))))))))), ?_⟩
    unfold zap at k
    obtain ⟨dx, fs, e1, e2⟩ := hb.meth (m := "bit")
    refine ⟨_, rfl, B.p, dx, fs, rfl, e1, e2, B, bs, rfl, hb, k.bind fun u bs1 v1 H1 hm1 hb1 kp1 hv1 k1 => ?_⟩
    cases hv1
    have hu : u < 2 := qB hm1
    refine ⟨rfl, _, rfl, yG (fun e => ?_) (fun e => ?_)⟩
    . have e' : ¬ u = 1 := by have := V.int.inj (of_decide_eq_true e); omega
      rw [if_neg e'] at k1
      refine ⟨_, rfl, _, rfl, B, bs1, kc, rfl, hk, hb1, k1.bind fun g bs2 v2 H2 hm2 hb2 kp2 hv2 k2 => ?_⟩
      obtain ⟨ga, rfl, hg⟩ := hv2
      refine ⟨(by show 1 <= sizeLine; decide), fun la hla => ?_⟩
      intro p dxp hp hdxp hne
      refine ⟨p, dxp, la, .non, rfl, zc, fun H3 e3 kp3 => ⟨rfl, ?_⟩⟩
      have smm := zN.made hp hdxp fun b o e ne => kp3 b o e (by simpa using ne)
      have sm3 : zN H2 H3 := (zt (zN.refl _) hla).trans smm
      have la3 : H3 la = some (.lst [.ref ga]) := smm _ _ zc
      refine k2.pure' (hb2.same sm3) (zF.same sm3 _) ⟨p, rfl, ⟨dxp, la, .non, [ga], e3, la3, rfl, fun j ga' e => ?_, .inl ⟨rfl, rfl, by simp⟩⟩⟩
      cases j with
      | zero =>
        have : ga = ga' := Option.some.inj e
        subst this
        exact ⟨g, rfl, hg.toAt.same sm3⟩
      | succ j => simp at e
    . have e' : u = 1 := by
        have : ¬ u = 0 := fun z => e (by rw [z]; exact decide_eq_true rfl)
        omega
      rw [if_pos e'] at k1
      refine ⟨_, rfl, _, rfl, _, rfl, B, bs1, w, h, rfl, hw, hh, hwh, hb1, k1.bind fun sq bs2 v2 H2 hm2 hb2 kp2 hv2 k2 => ?_⟩
      obtain ⟨z, l⟩ := sq
      obtain ⟨sa, cl, rfl, hS, hz9, hll, _, _⟩ := hv2
      dsimp only at hS hz9 hll k2
      obtain ⟨sdx, hsin⟩ := hS.ins
      have hzp : 0 < (2 : Nat) ^ z := Nat.pow_pos (by decide)
      have hlpos : 0 < l.length := by rw [hll]; exact Nat.mul_pos (wr hzp hw) (wr hzp hh)
      have hlle : l.length <= 2 ^ 20 := by rw [hll]; exact zbo hzp hwh
      have hwl : (zm (zh l)).length = l.length := by rw [zo]; unfold zh; rw [List.length_map]
      refine ⟨_, rfl, sa, t.CS, sdx, _, _, rfl, hsin, T.cS, T.sC, zkC _ _ _, cl, rfl, ⟨_, SqL.of hS.lst⟩, fun Dl hDl => ze4 (K := K) (a := cl) (xs := zm (zh l)) (fun i Hx => zN H2 Hx /\ Hx Dl = some (.lst (zm ((l.take i).map y3)))) ⟨zt (zN.refl _) hDl, zc⟩ (fun i Hx _ h => SqL.of (h.1 _ _ hS.lst)) ?_ ?_⟩
      . rintro i x Hx hx ⟨sx, dxx⟩
        obtain ⟨n, hn, rfl⟩ := yQ hx
        unfold zh at hn
        rw [List.getElem?_map] at hn
        cases hp : l[i]? with
        | none => rw [hp] at hn; cases hn
        | some p =>
          rw [hp] at hn
          have en : p.word = n := Option.some.inj hn
          subst en
          have hil : i < l.length := (List.getElem?_eq_some_iff.mp hp).1
          refine ⟨rfl, wf ⟨_, rfl, p, rfl, hS.ok p (List.mem_of_getElem? hp), _, dxx, ?_, yo sx hDl, ?_⟩⟩
          . rw [zo, List.length_map, List.length_take]
            exact Nat.lt_of_le_of_lt (Nat.le_trans (Nat.min_le_right _ _) hlle) (by decide)
          . have hg : l[i] = p := by rw [List.getElem?_eq_getElem hil] at hp; exact Option.some.inj hp
            rw [zc, List.take_succ_eq_append_getElem hil, List.map_append, yw, hg]; rfl
      . rintro Hx ⟨sx, dxx⟩
        rw [hwl, List.take_length] at dxx
        refine ⟨Dl, (l.map y3).map fun (n : Nat) => (n : Int), rfl, SqL.of (by rw [<- wu]; exact dxx), by rw [List.length_map, List.length_map]; exact hlpos, fun M hM hMx => ?_⟩
        have hMe := zmM hM hMx
        generalize hN : (l.map y3).foldl max 0 = N0 at hMe k2
        subst hMe
        refine ⟨Nat.zero_le _, fun la hla => ?_⟩
        have smx : zN H2 (upd Hx la (.lst [])) := zt sx hla
        have la2 : H2 la = none := sx.free hla
        generalize hH3 : upd Hx la (.lst []) = H3
        rw [hH3] at smx
        have la3 : H3 la = some (.lst []) := by rw [<- hH3]; exact zc
        have qN : ((N0 : Nat) : Int) = ((N0 + 1 : Nat) : Int) - 1 := by omega
        rw [qN]
        refine ⟨zfB t E B H2 H3 Q kc w h (N0 + 1) (yM w z l) sa la, ⟨_, [], [], bs2, none, rfl, rfl, rfl, Nat.zero_le _, la3, fun j ga e => by simp at e, hb2.same smx, zF.same smx _, fun x h => h, ?_⟩, ?_⟩
        . have e5 : (Sn15.groups (ye kc) (N0 + 1) >>= fun r => (pure (([] : List Group) ++ r, yM w z l) : D (List Group × (Nat -> Nat -> Nat)))) = (Sn15.groups (ye kc) (N0 + 1) >>= fun r => pure (r, yM w z l)) := rfl
          show Out t E B [] H2 (zfZ t kc w h) Q ((Sn15.groups (ye kc) (N0 + 1) >>= fun r => (pure (([] : List Group) ++ r, yM w z l) : D (List Group × (Nat -> Nat -> Nat)))) bs2)
          rw [e5]
          exact k2
        . rintro m σ Hy ⟨gas, gs, bs3, v7, rfl, rfl, hgl, hgN, hly, hgr, hb3, kp3, dm, k3⟩
          refine ⟨_, rfl, la, _, rfl, .inl (SqL.of hly), _, rfl, _, _, rfl, rfl, _, rfl, yG (fun e6 => ?_) (fun e6 => ?_)⟩
          . have hlt : gs.length < N0 + 1 := by have := of_decide_eq_true e6; rw [List.length_map, hgl] at this; omega
            refine ⟨fun σ' H' => ∃ m', m' < N0 + 1 - gs.length /\ zfB t E B H2 H3 Q kc w h (N0 + 1) (yM w z l) sa la m' σ' H', fun _ _ h => h, ?_⟩
            have k4 : Out t E B [] H2 (zfZ t kc w h) Q ((Sn15.group (ye kc) >>= fun g => Sn15.groups (ye kc) (N0 + 1 - (gs.length + 1)) >>= fun r => pure ((gs ++ [g]) ++ r, yM w z l)) bs3) := by
              have e7 : (Sn15.groups (ye kc) (N0 + 1 - gs.length) >>= fun r => (pure (gs ++ r, yM w z l) : D (List Group × (Nat -> Nat -> Nat)))) = (Sn15.group (ye kc) >>= fun g => Sn15.groups (ye kc) (N0 + 1 - (gs.length + 1)) >>= fun r => pure ((gs ++ [g]) ++ r, yM w z l)) := by
                have e8 : N0 + 1 - gs.length = (N0 + 1 - (gs.length + 1)) + 1 := by omega
                rw [e8, zb2]
                simp only [zK, zq, List.append_assoc, List.singleton_append]
              rw [<- e7]; exact k3
            refine ⟨_, rfl, .inl ⟨rfl, _, SqL.of hly⟩, _, rfl, _, rfl, B, bs3, kc, rfl, hk, hb3, (k4.shift kp3).bind fun g bs4 v4 H4 hm4 hb4 kp4 hv4 _ => ?_⟩
            obtain ⟨ga, rfl, hgn⟩ := hv4
            have hly4 := kp4.lst hb3 hly
            refine ⟨la, _, _, rfl, rfl, hly4, ?_, N0 + 1 - (gs ++ [g]).length, ?_, gas ++ [ga], gs ++ [g], bs4, v7, rfl, rfl, by rw [List.length_append, List.length_append, hgl]; rfl, by rw [List.length_append]; simp; omega, by rw [zc, List.map_append]; rfl, fun j a ej => ?_, qY hb4 hb2 la2, ji (kp3.trans kp4) la2, fun x hx => ?_, ?_⟩
            . rw [List.length_map, hgl]
              have hNle : N0 <= 65535 := by
                rw [<- hN]
                refine x9 _ 0 _ (Nat.zero_le _) fun x hx => ?_
                obtain ⟨p, hp, rfl⟩ := List.mem_map.mp hx
                obtain ⟨_, q2, q3, _⟩ := hS.ok p hp
                unfold y3
                omega
              exact Nat.lt_of_le_of_lt (by omega : gs.length <= 65536) (by decide)
            . rw [List.length_append]; simp; omega
            . by_cases hj : j < gas.length
              . rw [List.getElem?_append_left hj] at ej
                obtain ⟨g', e9, e10⟩ := hgr j a ej
                refine ⟨g', ?_, (e10.kept hb3 kp4).over la3⟩
                rw [List.getElem?_append_left (by rw [<- hgl]; exact hj)]
                exact e9
              . rw [List.getElem?_append_right (by omega)] at ej
                have hj0 : j - gas.length = 0 := by
                  cases q : j - gas.length with
                  | zero => rfl
                  | succ m => rw [q] at ej; simp at ej
                rw [hj0] at ej
                have ea : ga = a := Option.some.inj ej
                subst ea
                refine ⟨g, ?_, (hgn.rebase dm).over la3⟩
                rw [List.getElem?_append_right (by rw [<- hgl]; omega), <- hgl, hj0]
                rfl
            . by_cases hxl : x = la
              . rw [hxl, zc] at hx; cases hx
              . rw [zk hxl] at hx
                exact dm x (yE kp4 hb4 x hx)
            . rw [List.length_append]
              exact k4.next hm4
          . have hge : gs.length = N0 + 1 := by
              have : ¬ ((gas.map V.ref).length : Int) <= ((N0 + 1 : Nat) : Int) - 1 := fun z => e6 (decide_eq_true z)
              rw [List.length_map, hgl] at this
              omega
            have k4 : Out t E B [] H2 (zfZ t kc w h) Q ((pure (gs, yM w z l) : D (List Group × (Nat -> Nat -> Nat))) bs3) := by
              have e7 : (Sn15.groups (ye kc) (N0 + 1 - gs.length) >>= fun r => (pure (gs ++ r, yM w z l) : D (List Group × (Nat -> Nat -> Nat)))) = pure (gs, yM w z l) := by
                rw [hge, Nat.sub_self]
                show (pure [] >>= _) = _
                rw [zq, List.append_nil]
              rw [<- e7]; exact k3
            refine ⟨_, rfl, _, rfl, ?_⟩
            intro p dxp hp hdxp hne
            refine ⟨p, dxp, la, .ref sa, rfl, zc, fun H5 e5 kp5 => ⟨rfl, ?_⟩⟩
            have smm := zN.made hp hdxp fun b o e ne => kp5 b o e (by simpa using ne)
            refine k4.pure' (hb3.same smm) (kp3.trans (zF.same smm _)) ⟨p, rfl, ⟨dxp, la, .ref sa, gas, e5, smm _ _ hly, hgl, fun j ga ej => ?_, .inr ⟨sa, cl, z, l, rfl, (hS.kept hb2 kp3).same smm, rfl, by omega, hll, fun p hp => ?_⟩⟩⟩
            . obtain ⟨g', e9, e10⟩ := hgr j ga ej
              exact ⟨g', e9, e10.toAt.same smm⟩
            . rw [hge, <- hN]
              have := (qp (l.map y3) 0).2 (y3 p) (List.mem_map.mpr ⟨p, hp, rfl⟩)
              omega
def vp (t : Ad) : Sp := fun vs H Q E => ∃ (B : Bi) (bs : List Bool) (w h : Nat), vs = [.ref B.p, nat w, nat h] /\ 0 < w /\ 0 < h /\ w * h <= 2 ^ 20 /\ zx t H B bs /\ Out t E B [] H (vF H (w * h)) Q (zep w h bs)
theorem vk : zn ["bits", "width", "height", "depth", "groups"] ["bits", "width", "height"] (zi zal) := by trivial
theorem zdT {f : Addr} {fd : FuncData} (F : Fun K "read_grouped_picture" "read_grouped_picture" zal f fd) (T : Tx K mg t) (Gd : zB P w K mg base 3 "read_cache_depth" ["bits"] (wX t)) (Gg : zB P w K mg base 10 "read_groups" ["bits", "width", "height", "depth"] (w8 t))
    (GV : yp P w K mg base 1 t.CV "Canvas" ["self", "width", "height", "depth"] (wG t)) (Gc : zB P w K mg base 5 "read_colours" ["bits", "canvas", "groups"] (x8 t)) : z0 P w K mg base (CXe P w) 11 f fd ["bits", "width", "height"] (vp t) := by
  refine F.okE vk (fun vs H Q E h => ?_) (fun cdv A outer s H vs Q E hr h => ?_)
  . obtain ⟨B, bs, w, h, rfl, _⟩ := h
    rfl
  . obtain ⟨B, bs, w, h, rfl, hw, hh, hwh, hb, k⟩ := h
    have hr2 : yC 2 _ := hr.mono (by decide)
    have hr3 : yC 3 _ := hr.mono (by decide)
    have hr5 : yC 5 _ := hr.mono (by decide)
    refine ⟨_, zb (zp (i := 3) vk.nd rfl (Or.inl rfl) (pd Gd Lv.of hr3 (za (pv 0) ze)))
      (zb (zp (i := 4) vk.nd rfl (Or.inl rfl) (pd Gg Lv.of hr (za (pv 0) (za (pv 1) (za (pv 2) (za (pv 3) ze))))))
      (zf (zr (pd Gc Lv.of hr5 (za (pv 0) (za (pmk GV Lv.of hr2 (za (pv 1) (za (pv 2) (za (pv 3) ze)))) (za (pv 4) ze))))))), ?_⟩
    unfold zep at k
    refine ⟨_, rfl, B, bs, rfl, hb, k.bind fun kc bs1 v1 H1 hm1 hb1 kp1 hv1 k1 => ?_⟩
    cases hv1
    have hk := zbr hm1
    refine ⟨_, rfl, _, rfl, _, rfl, _, rfl, B, bs1, w, h, kc, rfl, hw, hh, hwh, hk, hb1, k1.bind fun gg bs2 v2 H2 hm2 hb2 kp2 hv2 k2 => ?_⟩
    obtain ⟨G, rfl, hG⟩ := hv2
    have hwle : w <= 2 ^ 20 := Nat.le_trans (Nat.le_mul_of_pos_right w hh) hwh
    refine ⟨_, rfl, _, rfl, _, rfl, _, rfl, ?_⟩
    intro p4 dx4 hp4 hdx4 hne4
    refine ⟨p4, dx4, w, h, kc, rfl, zc, hwle, hk, fun H5 C eC hC5 kp5 nl5 nc5 => ⟨rfl, _, rfl, ?_⟩⟩
    exact jV hG hb2 hw hh hwh hk hp4 hdx4 hne4 (k2.imp (vF.rebase fun x hx => yE kp1 hb1 x (yE kp2 hb2 x hx))) eC hC5 kp5 nl5 nc5
end
end Lk
end
section
namespace Lk
open PySem PySem.Spec PyProof.Rows L2
open Sn15 (D bits bitsOf symbol Px Group up need packedBits Trans add sums)
abbrev zgM : Stmt := top 56
abbrev zgB : Stmt := zU (top 86) 0
abbrev zfn : Stmt := zU (top 61) 0
abbrev zgd : Stmt := zU (top 88) 0
abbrev zgA : Stmt := zU (top 88) 1
abbrev kN : Stmt := top 89
abbrev zku : Stmt := top 90
abbrev zeY : Stmt := top 99
abbrev zfi : Stmt := top 100
structure Tx2 (K : PySem.W.Frag) (mg : Str -> Option Value) (t : Ad) : Prop where
  kPRED : ∃ u, mg "PREDICTIONS" = some u /\ yq (.int 0) u
  kCOL : ∃ u, mg "COLOURS" = some u /\ yq (.int 1) u
  kGRE : ∃ u, mg "GREENS" = some u /\ yq (.int 2) u
  kTAB : ∃ u, mg "TABLE" = some u /\ yq (.int 3) u
  kMODE : ∃ u, mg "GREATEST_MODE" = some u /\ yq (.int 13) u
  kSIG : ∃ u, mg "SIGNATURE" = some u /\ yq (.int 47) u
  kNSF : ∃ u, mg "NO_SUCH_FILE" = some u /\ yq (.int (-3)) u
  kTOO : ∃ u, mg "TOO_LARGE" = some u /\ yq (.int (-4)) u
  kLAR : ∃ u, mg "LARGEST" = some u /\ yq (.int 1048576) u
  kM1 : ∃ u, mg "ALPHA_AND_GREEN" = some u /\ yq (.int 4278255360) u
  kM2 : ∃ u, mg "RED_AND_BLUE" = some u /\ yq (.int 16711935) u
  cP : Cls K t.CP
  pW : zX K t.CP "width"
  pS : zX K t.CP "squares"
  cK : Cls K t.CK
  kW : zX K t.CK "width"
  kS : zX K t.CK "squares"
  cE : Cls K t.CE
  gE : mg "Greens" = some (.ref t.CE)
  mE : PySem.W.makesIn K t.CE = true
  iE : PySem.W.findIn K (.ref t.CE) "__init__" = some (some (.builtin "object.__init__"))
  pE : PySem.W.keepIn K (.ref t.CE) = true
  cD : Cls K t.CD
  dW : zX K t.CD "width"
  dS : zX K t.CD "shift"
  dC : zX K t.CD "colours"
  cF : Cls K t.CF
  fW : zX K t.CF "width"
  fH : zX K t.CF "height"
  fK : zX K t.CF "kinds"
  fS : zX K t.CF "steps"
  cH : Cls K t.CH
  hW : zX K t.CH "width"
  hH : zX K t.CH "height"
  hA : zX K t.CH "alphas_count"
  cA : Cls K t.CA
  aH : zX K t.CA "head"
  aT : zX K t.CA "transforms"
  aC : zX K t.CA "colours"
def fresh (H0 H : Hp) : Hp := fun x => match H0 x with
  | none => H x
  | some _ => none
theorem yH {H0 H : Hp} {x : Addr} {o : HO} (h0 : H0 x = none) (h : H x = some o) : fresh H0 H x = some o := by unfold fresh; rw [h0]; exact h
theorem zbn (H0 H : Hp) : zN (fresh H0 H) H := fun x o e => by
  cases h0 : H0 x with
  | none => unfold fresh at e; rw [h0] at e; exact e
  | some u => unfold fresh at e; rw [h0] at e; cases e
theorem xh {H0 H H' : Hp} {ps : List Addr} (k : zF ps H H') (hp : ∀ x ∈ ps, H0 x ≠ none) : zN (fresh H0 H) (fresh H0 H') := fun x o e => by
  cases h0 : H0 x with
  | some u => unfold fresh at e; rw [h0] at e; cases e
  | none => exact yH h0 (k x o (zbn H0 H x o e) fun z => hp x z h0)
theorem jt {H0 H H' : Hp} (s : zN H H') : zN (fresh H0 H) (fresh H0 H') := xh (zF.same s []) (by simp)
theorem zcE {H H0 : Hp} {a : Addr} {o : HO} (d : ∀ x, H x = none -> H0 x = none) : ∀ x, upd H a o x = none -> H0 x = none := fun x h => by
  by_cases e : x = a
  . rw [e, zc] at h; cases h
  . rw [zk e] at h; exact d x h
theorem yF (l : List Px) : (zh l).length = l.length := by unfold zh; rw [List.length_map]
theorem zaC (l : List Px) : (zm (zh l)).length = l.length := by rw [zo, yF]
theorem yI {l : List Px} {i : Nat} {p : Px} (h : l[i]? = some p) : (zm (zh l))[i]? = some (nat p.word) := yj (by unfold zh; rw [List.getElem?_map, h]; rfl)
theorem jn {l : List Px} {i : Nat} {x : V} (h : (zm (zh l))[i]? = some x) : ∃ (p : Px) (hi : i < l.length), l[i] = p /\ x = nat p.word := by
  obtain ⟨n, hn, rfl⟩ := yQ h
  unfold zh at hn
  rw [List.getElem?_map] at hn
  cases hp : l[i]? with
  | none => rw [hp] at hn; cases hn
  | some p =>
    rw [hp] at hn
    have en : p.word = n := Option.some.inj hn
    subst en
    obtain ⟨hi, e⟩ := List.getElem?_eq_some_iff.mp hp
    exact ⟨p, hi, e, rfl⟩
theorem yZ (l : List Px) (p : Px) : zm (zh l) ++ [nat p.word] = zm (zh (l ++ [p])) := by unfold zh; rw [List.map_append, yw]; rfl
def prF (w : Nat) (sa : Addr) : List (Str × V) := [("width", nat w), ("squares", .ref sa)]
theorem zeg (w : Nat) (sa : Addr) : (prF w sa).lookup ("width" : Str) = some (nat w) := zT
theorem zlR (w : Nat) (sa : Addr) : (prF w sa).lookup ("squares" : Str) = some (.ref sa) := (zu (by decide +kernel)).trans zT
theorem zfm (w : Nat) (sa : Addr) {m : Str} (h1 : (m == ("width" : Str)) = false) (h2 : (m == ("squares" : Str)) = false) : (prF w sa).lookup m = none := (zu h1).trans ((zu h2).trans rfl)
def tbF (w z : Nat) (cl : Addr) : List (Str × V) := [("width", nat w), ("shift", nat z), ("colours", .ref cl)]
theorem zme (w z : Nat) (cl : Addr) : (tbF w z cl).lookup ("width" : Str) = some (nat w) := zT
theorem zi3 (w z : Nat) (cl : Addr) : (tbF w z cl).lookup ("shift" : Str) = some (nat z) := (zu (by decide +kernel)).trans zT
theorem zns (w z : Nat) (cl : Addr) : (tbF w z cl).lookup ("colours" : Str) = some (.ref cl) := (zu (by decide +kernel)).trans ((zu (by decide +kernel)).trans zT)
theorem zdv (w z : Nat) (cl : Addr) {m : Str} (h1 : (m == ("width" : Str)) = false) (h2 : (m == ("shift" : Str)) = false) (h3 : (m == ("colours" : Str)) = false) : (tbF w z cl).lookup m = none := (zu h1).trans ((zu h2).trans ((zu h3).trans rfl))
def zkN (c : List Px) : List Nat := zh c ++ List.replicate (256 - c.length) 0
def xb (t : Ad) (H : Hp) (a : Addr) (w h : Nat) : Trans -> Prop
  | .predict k m => ∃ dx sa cl, H a = some (.ins t.CP dx (prF w sa)) /\ zex t H sa cl k (up w (2 ^ k)) m /\ k <= 9 /\ m.length = up w (2 ^ k) * up h (2 ^ k) /\ xm m = true
  | .cross k m => ∃ dx sa cl, H a = some (.ins t.CK dx (prF w sa)) /\ zex t H sa cl k (up w (2 ^ k)) m /\ k <= 9 /\ m.length = up w (2 ^ k) * up h (2 ^ k)
  | .green => ∃ dx, H a = some (.ins t.CE dx [])
  | .table c => ∃ dx cl, H a = some (.ins t.CD dx (tbF w (packedBits c.length) cl)) /\ H cl = some (.lst (zm (zkN c))) /\ (∀ p ∈ c, yf p) /\ 0 < c.length /\ c.length <= 256
theorem xb.same {t : Ad} {H H' : Hp} {a : Addr} {w h : Nat} {tr : Trans} (g : xb t H a w h tr) (s : zN H H') : xb t H' a w h tr := by
  cases tr with
  | predict k m => obtain ⟨dx, sa, cl, h1, h2, r⟩ := g; exact ⟨dx, sa, cl, s _ _ h1, h2.same s, r⟩
  | cross k m => obtain ⟨dx, sa, cl, h1, h2, r⟩ := g; exact ⟨dx, sa, cl, s _ _ h1, h2.same s, r⟩
  | green => obtain ⟨dx, h1⟩ := g; exact ⟨dx, s _ _ h1⟩
  | table c => obtain ⟨dx, cl, h1, h2, r⟩ := g; exact ⟨dx, cl, s _ _ h1, s _ _ h2, r⟩
theorem xb.kept {t : Ad} {H H' : Hp} {a : Addr} {w h : Nat} {tr : Trans} {B : Bi} {bs : List Bool} (g : xb t H a w h tr) (b : zx t H B bs) (k : zF [B.p] H H') : xb t H' a w h tr := by
  cases tr with
  | predict z m => obtain ⟨dx, sa, cl, h1, h2, r⟩ := g; exact ⟨dx, sa, cl, k.ins b h1 (by decide +kernel), h2.kept b k, r⟩
  | cross z m => obtain ⟨dx, sa, cl, h1, h2, r⟩ := g; exact ⟨dx, sa, cl, k.ins b h1 (by decide +kernel), h2.kept b k, r⟩
  | green =>
    obtain ⟨dx, h1⟩ := g
    refine ⟨dx, k _ _ h1 fun z => ?_⟩
    obtain ⟨bdx, i, b1, _⟩ := b
    rw [List.mem_singleton.mp z, b1] at h1
    injection h1 with h2
    injection h2 with _ _ h3
    cases h3
  | table c => obtain ⟨dx, cl, h1, h2, r⟩ := g; exact ⟨dx, cl, k.ins b h1 (by decide +kernel), k.lst b h2, r⟩
structure yr (t : Ad) (H : Hp) (w h : Nat) (as : List Addr) (ts : List Trans) : Prop where
  len : as.length = ts.length
  get : ∀ (j : Nat) (a : Addr), as[j]? = some a -> ∃ tr, ts[j]? = some tr /\ xb t H a (jO w (ts.take j)) h tr
theorem yr.same {t : Ad} {H H' : Hp} {w h : Nat} {as : List Addr} {ts : List Trans} (g : yr t H w h as ts) (s : zN H H') : yr t H' w h as ts :=
  ⟨g.len, fun j a e => let ⟨tr, e1, e2⟩ := g.get j a e; ⟨tr, e1, e2.same s⟩⟩
theorem yr.kept {t : Ad} {H H' : Hp} {w h : Nat} {as : List Addr} {ts : List Trans} {B : Bi} {bs : List Bool} (g : yr t H w h as ts) (b : zx t H B bs) (k : zF [B.p] H H') : yr t H' w h as ts :=
  ⟨g.len, fun j a e => let ⟨tr, e1, e2⟩ := g.get j a e; ⟨tr, e1, e2.kept b k⟩⟩
theorem yr.snoc {t : Ad} {H : Hp} {w h : Nat} {as : List Addr} {ts : List Trans} {a : Addr} {tr : Trans} (g : yr t H w h as ts) (st : xb t H a (jO w ts) h tr) : yr t H w h (as ++ [a]) (ts ++ [tr]) := by
  refine ⟨by rw [List.length_append, List.length_append, g.len]; rfl, fun j b e => ?_⟩
  by_cases hj : j < as.length
  . rw [List.getElem?_append_left hj] at e
    obtain ⟨x, e1, e2⟩ := g.get j b e
    have hj2 : j < ts.length := by rw [<- g.len]; exact hj
    refine ⟨x, by rw [List.getElem?_append_left hj2]; exact e1, ?_⟩
    rw [List.take_append_of_le_length (by omega)]
    exact e2
  . rw [List.getElem?_append_right (by omega)] at e
    have hj0 : j - as.length = 0 := by
      cases q : j - as.length with
      | zero => rfl
      | succ m => rw [q] at e; simp at e
    rw [hj0] at e
    have ea : a = b := Option.some.inj e
    subst ea
    have hjt : j = ts.length := by rw [<- g.len]; omega
    subst hjt
    refine ⟨tr, by simp, ?_⟩
    rw [List.take_left]
    exact st
theorem yS (a b : Nat) : Builtin.bitAnd (a : Int) (b : Int) = ((a &&& b : Nat) : Int) := by
  have h1 : (0 : Int) <= (a : Int) := by omega
  have h2 : (0 : Int) <= (b : Int) := by omega
  unfold Builtin.bitAnd
  rw [decide_eq_true h1, decide_eq_true h2]
  rfl
theorem zhg {p q : Px} (hp : yf p) (hq : yf q) : Builtin.bitOr (Builtin.bitAnd (Builtin.bitAnd ((p.word : Nat) : Int) 4278255360 + Builtin.bitAnd ((q.word : Nat) : Int) 4278255360) 4278255360) (Builtin.bitAnd (Builtin.bitAnd ((p.word : Nat) : Int) 16711935 + Builtin.bitAnd ((q.word : Nat) : Int) 16711935) 16711935) = (((add p q).word : Nat) : Int) := by
  have e1 : (4278255360 : Int) = ((M1 : Nat) : Int) := rfl
  have e2 : (16711935 : Int) = ((M2 : Nat) : Int) := rfl
  rw [e1, e2, yS, yS, yS, yS, <- Int.natCast_add, <- Int.natCast_add, yS, yS, xK, zet hp hq]
theorem yD {p : Px} (h : yf p) : Builtin.bitAnd (((p.word : Nat) : Int) / 2 ^ (8 : Int).toNat) 255 = ((p.g : Nat) : Int) := by
  have e : ((p.word : Nat) : Int) / 2 ^ (8 : Int).toNat = ((p.word / 256 : Nat) : Int) := by
    show ((p.word : Nat) : Int) / 256 = _
    omega
  obtain ⟨h1, h2, h3, h4⟩ := h
  rw [e, bitAnd_m8]
  unfold Px.word
  omega
theorem kT (n : Nat) : packedBits n <= 3 := by unfold packedBits; split <;> (try split) <;> (try split) <;> omega
section
variable {P : Program} {w : World} {K : PySem.W.Frag} {mg : Str -> Option Value} {base : Heap} {t : Ad}
def jF : Sp := fun vs H Q _ => ∃ p q : Px, vs = [nat p.word, nat q.word] /\ yf p /\ yf q /\ Q (nat (add p q).word) H
theorem zcm : zn ["one", "other", "high", "low"] ["one", "other"] (zi zgM) := by trivial
theorem ziT {f : Addr} {fd : FuncData} (F : Fun K "added" "added" zgM f fd) (T2 : Tx2 K mg t) : z0 P w K mg base (CXe P w) 1 f fd ["one", "other"] jF := by
  obtain ⟨u1, g1, r1⟩ := T2.kM1
  obtain ⟨u2, g2, r2⟩ := T2.kM2
  refine F.okE zcm (fun vs H Q E h => ?_) (fun cdv A outer s H vs Q E hr h => ?_)
  . obtain ⟨p, q, rfl, _⟩ := h
    rfl
  . obtain ⟨p, q, rfl, hp, hq, k⟩ := h
    refine ⟨_, zb (zp (i := 2) zcm.nd rfl (Or.inl rfl) (zl zL (zl zW (pv 0) (zH (by rfl) g1 r1)) (zl zW (pv 1) (zH (by rfl) g1 r1))))
      (zb (zp (i := 3) zcm.nd rfl (Or.inl rfl) (zl zL (zl zW (pv 0) (zH (by rfl) g2 r2)) (zl zW (pv 1) (zH (by rfl) g2 r2))))
      (zf (zr (zl vx (zl zW (pv 2) (zH (by rfl) g1 r1)) (zl zW (pv 3) (zH (by rfl) g2 r2)))))), ?_⟩
    refine ⟨_, rfl, _, _, rfl, rfl, _, rfl, _, _, rfl, rfl, _, _, rfl, rfl, ?_⟩
    refine ⟨_, rfl, _, _, rfl, rfl, _, rfl, _, _, rfl, rfl, _, _, rfl, rfl, ?_⟩
    refine ⟨_, rfl, _, _, rfl, rfl, _, rfl, _, _, rfl, rfl, _, _, rfl, rfl, ?_⟩
    show Q (.int (Builtin.bitOr (Builtin.bitAnd (Builtin.bitAnd ((p.word : Nat) : Int) 4278255360 + Builtin.bitAnd ((q.word : Nat) : Int) 4278255360) 4278255360) (Builtin.bitAnd (Builtin.bitAnd ((p.word : Nat) : Int) 16711935 + Builtin.bitAnd ((q.word : Nat) : Int) 16711935) 16711935))) H
    rw [zhg hp hq]
    exact k
def qx (C : Addr) : Sp := fun vs H Q _ => ∃ (p dx sa : Addr) (w : Nat), vs = [.ref p, nat w, .ref sa] /\ H p = some (.ins C dx []) /\ ∀ H', H' p = some (.ins C dx (prF w sa)) -> zF [p] H H' -> Q .non H'
theorem zjO : zn ["self", "width", "squares"] ["self", "width", "squares"] (zi zgB) := by trivial
theorem zhP {f : Addr} {fd : FuncData} (F : Fun K "__init__" "Predictions.__init__" zgB f fd) (T2 : Tx2 K mg t) : z0 P w K mg base (CXe P w) 1 f fd ["self", "width", "squares"] (qx t.CP) := by
  refine F.okE zjO (fun vs H Q E h => ?_) (fun cdv A outer s H vs Q E hr h => ?_)
  . obtain ⟨p, dx, sa, w, rfl, _⟩ := h
    rfl
  . obtain ⟨p, dx, sa, w, rfl, hp, k⟩ := h
    refine ⟨_, zb (z9 (pv 0) (pv 1) rfl) (zf (z9 (pv 0) (pv 2) rfl)), ?_⟩
    refine ⟨_, rfl, _, rfl, p, t.CP, dx, _, rfl, hp, T2.cP, T2.pW, (by show 0 < 1000; decide), ?_⟩
    refine ⟨_, rfl, _, rfl, p, t.CP, dx, _, rfl, zc, T2.cP, T2.pS, (by show 1 < 1000; decide), ?_⟩
    refine k _ ?_ ((zF.put (by simp)).trans (zF.put (by simp)))
    rw [zc]
    rfl
theorem zjz : zn ["self", "width", "squares"] ["self", "width", "squares"] (zi zfn) := by trivial
theorem ziY {f : Addr} {fd : FuncData} (F : Fun K "__init__" "Colours.__init__" zfn f fd) (T2 : Tx2 K mg t) : z0 P w K mg base (CXe P w) 1 f fd ["self", "width", "squares"] (qx t.CK) := by
  refine F.okE zjz (fun vs H Q E h => ?_) (fun cdv A outer s H vs Q E hr h => ?_)
  . obtain ⟨p, dx, sa, w, rfl, _⟩ := h
    rfl
  . obtain ⟨p, dx, sa, w, rfl, hp, k⟩ := h
    refine ⟨_, zb (z9 (pv 0) (pv 1) rfl) (zf (z9 (pv 0) (pv 2) rfl)), ?_⟩
    refine ⟨_, rfl, _, rfl, p, t.CK, dx, _, rfl, hp, T2.cK, T2.kW, (by show 0 < 1000; decide), ?_⟩
    refine ⟨_, rfl, _, rfl, p, t.CK, dx, _, rfl, zc, T2.cK, T2.kS, (by show 1 < 1000; decide), ?_⟩
    refine k _ ?_ ((zF.put (by simp)).trans (zF.put (by simp)))
    rw [zc]
    rfl
def zcx (t : Ad) : Sp := fun vs H Q _ => ∃ (p dx la : Addr) (w z : Nat) (l : List Nat), vs = [.ref p, nat w, nat z, .ref la] /\ H p = some (.ins t.CD dx []) /\ H la = some (.lst (zm l)) /\ l.length <= 256 /\
  ∀ H' cl, H' p = some (.ins t.CD dx (tbF w z cl)) -> H' cl = some (.lst (zm (l ++ List.replicate (256 - l.length) 0))) -> zF [p] H H' -> H cl = none -> Q .non H'
theorem zjY : zn ["self", "width", "shift", "colours"] ["self", "width", "shift", "colours"] (zi zgd) := by trivial
theorem zhC {f : Addr} {fd : FuncData} (F : Fun K "__init__" "Table.__init__" zgd f fd) (T : Tx K mg t) (T2 : Tx2 K mg t) : z0 P w K mg base (CXe P w) 1 f fd ["self", "width", "shift", "colours"] (zcx t) := by
  refine F.okE zjY (fun vs H Q E h => ?_) (fun cdv A outer s H vs Q E hr h => ?_)
  . obtain ⟨p, dx, la, w, z, l, rfl, _⟩ := h
    rfl
  . obtain ⟨p, dx, la, w, z, l, rfl, hp, hla, hl, k⟩ := h
    have npl : la ≠ p := y6 hla hp (by intro z; cases z)
    refine ⟨_, zb (z9 (pv 0) (pv 1) rfl) (zb (z9 (pv 0) (pv 2) rfl)
      (zf (z9 (pv 0) (zl zje (pv 3) (zl vX (yc (za zg ze)) (zl yA zg (zG zC (by rfl) T.len PySem.boot_len (za (pv 3) ze))))) rfl))), ?_⟩
    refine ⟨_, rfl, _, rfl, p, t.CD, dx, _, rfl, hp, T2.cD, T2.dW, (by show 0 < 1000; decide), ?_⟩
    refine ⟨_, rfl, _, rfl, p, t.CD, dx, _, rfl, zc, T2.cD, T2.dS, (by show 1 < 1000; decide), ?_⟩
    generalize hH2 : upd (upd H p _) p _ = H2
    have p2 : H2 p = some (.ins t.CD dx [("width", nat w), ("shift", nat z)]) := by rw [<- hH2, zc]; rfl
    have l2 : H2 la = some (.lst (zm l)) := by rw [<- hH2, zk npl, zk npl]; exact hla
    have k2 : zF [p] H H2 := by rw [<- hH2]; exact (zF.put (by simp)).trans (zF.put (by simp))
    have en : ((256 : Int) - ((zm l).length : Int)).toNat = 256 - l.length := by rw [zo]; omega
    refine ⟨_, rfl, (by show 1 <= sizeLine; decide), fun x hx => ⟨_, rfl, la, _, rfl, .inl (SqL.of (by rw [zk (zd l2 hx)]; exact l2)), _, _, rfl, rfl, x, _, _, rfl, rfl, zc, ?_, ?_, ?_, fun y hy => ⟨la, y, zm l, _, rfl, rfl, ?_, zc, ?_, fun cl hcl => ⟨_, rfl, p, t.CD, dx, [("width", nat w), ("shift", nat z)], rfl, ?_, T2.cD, T2.dC, (by show 2 < 1000; decide), ?_⟩⟩⟩⟩
    . rw [zo]; omega
    . rw [zo]; omega
    . rw [en]
      show 1 * (256 - l.length) <= 2 ^ 24
      omega
    . rw [zk (zd (o := _) (by rw [zk (zd l2 hx)]; exact l2) hy), zk (zd l2 hx)]; exact l2
    . rw [en, zai, zo, zo, List.length_replicate]
      show l.length + (256 - l.length) <= 2 ^ 24
      omega
    . have p3 : upd H2 x (.lst [V.int 0]) p = some (.ins t.CD dx [("width", nat w), ("shift", nat z)]) := by rw [zk (zd p2 hx)]; exact p2
      have p4 : upd (upd H2 x (.lst [V.int 0])) y (.lst (List.replicate ((256 : Int) - ((zm l).length : Int)).toNat [V.int 0]).flatten) p = some (.ins t.CD dx [("width", nat w), ("shift", nat z)]) := by rw [zk (zd p3 hy)]; exact p3
      rw [zk (zd p4 hcl)]
      exact p4
    . have p3 : upd H2 x (.lst [V.int 0]) p = some (.ins t.CD dx [("width", nat w), ("shift", nat z)]) := by rw [zk (zd p2 hx)]; exact p2
      have p4 : upd (upd H2 x (.lst [V.int 0])) y (.lst (List.replicate ((256 : Int) - ((zm l).length : Int)).toNat [V.int 0]).flatten) p = some (.ins t.CD dx [("width", nat w), ("shift", nat z)]) := by rw [zk (zd p3 hy)]; exact p3
      have npc : p ≠ cl := zd p4 hcl
      have kx : zF [p] H (upd (upd H2 x (.lst [V.int 0])) y (.lst (List.replicate ((256 : Int) - ((zm l).length : Int)).toNat [V.int 0]).flatten)) := (k2.trans (zF.new hx)).trans (zF.new hy)
      refine k _ cl ?_ ?_ ((kx.trans (zF.new hcl)).trans (zF.put (by simp))) (kx.free hcl (by simp; exact npc.symm))
      . rw [zc]; rfl
      . rw [zk npc.symm, zc, en, zai, yw]
def wM (t : Ad) : Sp := fun vs H Q _ => ∃ (p dx cl : Addr) (w z : Nat), vs = [.ref p] /\ H p = some (.ins t.CD dx (tbF w z cl)) /\ z <= 100 /\ Q (nat (up w (2 ^ z))) H
theorem zlo : zn ["self"] ["self"] (zi zgA) := by trivial
theorem zhv {f : Addr} {fd : FuncData} (F : Fun K "packed_width" "Table.packed_width" zgA f fd) (T2 : Tx2 K mg t) (Gu : zB P w K mg base 1 "divided_up" ["number", "shift"] wB) : z0 P w K mg base (CXe P w) 2 f fd ["self"] (wM t) := by
  refine F.okE zlo (fun vs H Q E h => ?_) (fun cdv A outer s H vs Q E hr h => ?_)
  . obtain ⟨p, dx, cl, w, z, rfl, _⟩ := h
    rfl
  . obtain ⟨p, dx, cl, w, z, rfl, hp, hz, k⟩ := h
    refine ⟨_, zf (zr (pd Gu Lv.of hr (za (zy (pv 0) rfl) (za (zy (pv 0) rfl) ze)))), ?_⟩
    exact ⟨_, rfl, p, t.CD, dx, _, _, rfl, hp, T2.cD, T2.dW, zme _ _ _, _, rfl, p, t.CD, dx, _, _, rfl, hp, T2.cD, T2.dS, zi3 _ _ _, w, z, rfl, hz, k⟩
def jC : Sp := fun vs H Q _ => ∃ n : Nat, vs = [nat n] /\ Q (nat (packedBits n)) H
theorem zes : zn ["size"] ["size"] (zi kN) := by trivial
theorem zcy {f : Addr} {fd : FuncData} (F : Fun K "shift_for" "shift_for" kN f fd) : z0 P w K mg base (CXe P w) 1 f fd ["size"] jC := by
  refine F.okE zes (fun vs H Q E h => ?_) (fun cdv A outer s H vs Q E hr h => ?_)
  . obtain ⟨n, rfl, _⟩ := h
    rfl
  . obtain ⟨n, rfl, k⟩ := h
    refine ⟨_, zb (yh (zw zf0 (pv 0) zg (zE _)) (zf (zr zg)) zI)
      (zb (yh (zw zf0 (pv 0) zg (zE _)) (zf (zr zg)) zI)
      (zb (yh (zw zf0 (pv 0) zg (zE _)) (zf (zr zg)) zI)
      (zf (zr zg)))), ?_⟩
    have fin : ∀ z : Nat, packedBits n = z -> Q (nat z) H := fun z hz => by
      rw [hz] at k
      exact k
    refine ⟨_, rfl, _, _, rfl, rfl, _, rfl, yG (fun e => ?_) (fun e => ?_)⟩
    . have e' : (n : Int) <= 2 := of_decide_eq_true e
      exact fin 3 (by unfold packedBits; rw [if_pos (by omega)])
    . have e' : ¬ (n : Int) <= 2 := fun z => e (decide_eq_true z)
      refine ⟨_, rfl, _, _, rfl, rfl, _, rfl, yG (fun f => ?_) (fun f => ?_)⟩
      . have f' : (n : Int) <= 4 := of_decide_eq_true f
        exact fin 2 (by unfold packedBits; rw [if_neg (by omega), if_pos (by omega)])
      . have f' : ¬ (n : Int) <= 4 := fun z => f (decide_eq_true z)
        refine ⟨_, rfl, _, _, rfl, rfl, _, rfl, yG (fun g => ?_) (fun g => ?_)⟩
        . have g' : (n : Int) <= 16 := of_decide_eq_true g
          exact fin 1 (by unfold packedBits; rw [if_neg (by omega), if_neg (by omega), if_pos (by omega)])
        . have g' : ¬ (n : Int) <= 16 := fun z => g (decide_eq_true z)
          exact fin 0 (by unfold packedBits; rw [if_neg (by omega), if_neg (by omega), if_neg (by omega)])
def zf5 : Sp := fun vs H Q _ => ∃ (a : Addr) (l : List Px), vs = [.ref a] /\ H a = some (.lst (zm (zh l))) /\ (∀ p ∈ l, yf p) /\ l.length <= 2 ^ 20 /\
  ∀ la H', zN H H' -> H la = none -> H' la = some (.lst (zm (zh (sums ⟨0, 0, 0, 0⟩ l)))) -> Q (.ref la) H'
theorem zbv : zn ["colours", "sums", "before", "colour"] ["colours"] (zi zku) := by trivial
theorem zkn {f : Addr} {fd : FuncData} (F : Fun K "running_sums" "running_sums" zku f fd) (Ga : zB P w K mg base 1 "added" ["one", "other"] jF) : z0 P w K mg base (CXe P w) 2 f fd ["colours"] zf5 := by
  refine F.okE zbv (fun vs H Q E h => ?_) (fun cdv A outer s H vs Q E hr h => ?_)
  . obtain ⟨a, l, rfl, _⟩ := h
    rfl
  . obtain ⟨a, l, rfl, ha, hok, hlen, k⟩ := h
    refine ⟨_, zb (zp (i := 1) zbv.nd rfl (Or.inl rfl) (yc ze))
      (zb (zp (i := 2) zbv.nd rfl (Or.inl rfl) zg)
      (zb (yV Lv.of.own rfl (kE (pv 0)) (z6 (i := 3) zbv.nd rfl (Or.inl rfl))
        (zb (zp (i := 2) zbv.nd rfl (Or.inl rfl) (pd Ga Lv.of hr (za (pv 2) (za (pv 3) ze))))
        (zf (zZ (xz PySem.F.plainAttrs_list PySem.F.slot_list_append PySem.F.type_list_append yb (pv 1) (za (pv 2) ze))))))
      (zf (zr (pv 1))))), ?_⟩
    refine ⟨Nat.zero_le _, fun la hla => ?_⟩
    have sm0 : zN H (upd H la (.lst [])) := zt (zN.refl _) hla
    have e0 : nat (zaF ⟨0, 0, 0, 0⟩ (l.take 0)).word = V.int 0 := by rw [List.take_zero]; rfl
    refine ⟨_, rfl, a, rfl, ⟨_, SqL.of (sm0 _ _ ha)⟩, wF (K := K) (a := a) (xs := zm (zh l))
      (fun i σ Hx => ∃ v3, σ = [some (.ref a), some (.ref la), some (nat (zaF ⟨0, 0, 0, 0⟩ (l.take i)).word), v3] /\ zN H Hx /\ Hx la = some (.lst (zm (zh (sums ⟨0, 0, 0, 0⟩ (l.take i))))))
      ⟨none, by rw [e0]; rfl, sm0, by rw [zc]; rfl⟩ (fun i σ Hx _ h => by obtain ⟨v3, _, s1, _⟩ := h; exact SqL.of (s1 _ _ ha)) ?_ ?_⟩
    . rintro i x σ Hx hx ⟨v3, rfl, s1, hl1⟩
      obtain ⟨p, hi, hp, rfl⟩ := jn hx
      have hpok : yf p := hok p (by rw [<- hp]; exact List.getElem_mem hi)
      have hsok : yf (zaF ⟨0, 0, 0, 0⟩ (l.take i)) := zcZ _ _ ze5
      refine ⟨_, rfl, _, rfl, _, p, rfl, hsok, hpok, ?_⟩
      refine ⟨_, rfl, .inl ⟨rfl, _, SqL.of hl1⟩, _, rfl, la, _, _, rfl, rfl, hl1, ?_, ?_⟩
      . rw [zaC, j9, List.length_take]
        exact Nat.lt_of_le_of_lt (Nat.le_trans (Nat.min_le_right _ _) hlen) (by decide)
      . have e1 : l.take (i + 1) = l.take i ++ [p] := by rw [List.take_succ_eq_append_getElem hi, hp]
        refine ⟨some (nat p.word), ?_, yo s1 hla, ?_⟩
        . rw [e1, zd7] <;> rfl
        . rw [zc, e1, zbd, yZ]
    . rintro σ Hx ⟨v3, rfl, s1, hl1⟩
      rw [zaC, List.take_length] at hl1
      exact ⟨_, rfl, k la Hx s1 hla hl1⟩
def zna (t : Ad) (H0 : Hp) (w h : Nat) : Nat × List Px -> V -> Hp -> Prop := fun m v H => znS t H0 w h m v H /\ xm m.2 = true
def zch (t : Ad) : Sp := fun vs H Q E => ∃ (B : Bi) (bs : List Bool) (w h : Nat), vs = [.ref B.p, nat w, nat h] /\ 0 < w /\ 0 < h /\ w * h <= 2 ^ 20 /\ zx t H B bs /\ Out t E B [] H (zna t H w h) Q (zcU w h bs)
theorem zcd : zn ["bits", "width", "height", "squares", "colour"] ["bits", "width", "height"] (zi zeY) := by trivial
theorem zhz {f : Addr} {fd : FuncData} (F : Fun K "read_modes" "read_modes" zeY f fd) (T : Tx K mg t) (T2 : Tx2 K mg t) (Gs : zB P w K mg base 9 "read_squares" ["bits", "width", "height"] (qk t)) : z0 P w K mg base (CXe P w) 10 f fd ["bits", "width", "height"] (zch t) := by
  obtain ⟨uM, hM, rM⟩ := T2.kMODE
  refine F.okE zcd (fun vs H Q E h => ?_) (fun cdv A outer s H vs Q E hr h => ?_)
  . obtain ⟨B, bs, w, h, rfl, _⟩ := h
    rfl
  . obtain ⟨B, bs, w, h, rfl, hw, hh, hwh, hb, k⟩ := h
    refine ⟨_, zb (zp (i := 3) zcd.nd rfl (Or.inl rfl) (pd Gs Lv.of hr (za (pv 0) (za (pv 1) (za (pv 2) ze)))))
      (zb (yV Lv.of.own rfl (kE (zy (pv 3) rfl)) (z6 (i := 4) zcd.nd rfl (Or.inl rfl))
        (zf (yh (zw qP (zl zW (zl ya (pv 4) zg) zg) (zH (by rfl) hM rM) (zE _)) (zf (z7 Lv.of (by rfl) T.gN T.xN)) zI)))
      (zf (zr (pv 3)))), ?_⟩
    unfold zcU at k
    refine ⟨_, rfl, _, rfl, _, rfl, B, bs, w, h, rfl, hw, hh, hwh, hb, k.bind fun sq bs1 v1 H1 hm1 hb1 kp1 hv1 k1 => ?_⟩
    obtain ⟨z, l⟩ := sq
    obtain ⟨sa, cl, rfl, hS, hz9, hll, nsa, ncl⟩ := hv1
    dsimp only at hS hz9 hll k1
    obtain ⟨sdx, hsin⟩ := hS.ins
    refine ⟨_, rfl, sa, t.CS, sdx, _, _, rfl, hsin, T.cS, T.sC, zkC _ _ _, cl, rfl, ⟨_, SqL.of hS.lst⟩, wF (K := K) (a := cl) (xs := zm (zh l))
      (fun i σ Hx => Hx = H1 /\ ∃ v4, σ = [some (.ref B.p), some (nat w), some (nat h), some (.ref sa), v4] /\ ∀ p ∈ l.take i, p.g < 14) ⟨rfl, none, rfl, by simp⟩ (fun i σ Hx _ h => by rw [h.1]; exact SqL.of hS.lst) ?_ ?_⟩
    . rintro i x σ Hx hx ⟨rfl, v4, rfl, hall⟩
      obtain ⟨p, hil, hg, rfl⟩ := jn hx
      have hpm : p ∈ l := by rw [<- hg]; exact List.getElem_mem hil
      have hok := hS.ok p hpm
      refine ⟨_, rfl, _, _, rfl, rfl, (by show (0 : Int) <= 8; decide), _, _, rfl, rfl, _, _, rfl, rfl, _, rfl, yG (fun e => ?_) (fun e => ?_)⟩
      . have e' : (13 : Int) < Builtin.bitAnd (((p.word : Nat) : Int) / 2 ^ (8 : Int).toNat) 255 := of_decide_eq_true e
        rw [yD hok] at e'
        have hbad : xm l = false := by
          unfold xm
          rw [List.all_eq_false]
          exact ⟨p, hpm, by simp; omega⟩
        exact k1.need.2 hbad _
      . have e' : ¬ (13 : Int) < Builtin.bitAnd (((p.word : Nat) : Int) / 2 ^ (8 : Int).toNat) 255 := fun z => e (decide_eq_true z)
        rw [yD hok] at e'
        refine ⟨rfl, _, rfl, fun q hq => ?_⟩
        rw [List.take_succ_eq_append_getElem hil, hg] at hq
        rcases List.mem_append.mp hq with hq | hq
        . exact hall q hq
        . rw [List.mem_singleton.mp hq]; omega
    . rintro σ Hx ⟨rfl, v4, rfl, hall⟩
      rw [zaC, List.take_length] at hall
      have hgood : xm l = true := by
        unfold xm
        rw [List.all_eq_true]
        exact fun p hp => decide_eq_true (hall p hp)
      refine ⟨_, rfl, ?_⟩
      exact (k1.need.1 hgood).pure hb1 ⟨⟨sa, cl, rfl, hS, hz9, hll, nsa, ncl⟩, hgood⟩
def zni (t : Ad) (H0 : Hp) (w : Nat) : Nat × List Px -> V -> Hp -> Prop := fun z v H' => ∃ a dx cl, v = .ref a /\ H' a = some (.ins t.CD dx (tbF w (packedBits z.2.length) cl)) /\ H' cl = some (.lst (zm (zkN z.2))) /\ (∀ p ∈ z.2, yf p) /\ 0 < z.2.length /\ z.2.length <= 256 /\ z.1 = z.2.length /\ H0 a = none /\ H0 cl = none
def zbM (t : Ad) : Sp := fun vs H Q E => ∃ (B : Bi) (bs : List Bool) (w : Nat), vs = [.ref B.p, nat w] /\ zx t H B bs /\ Out t E B [] H (zni t H w) Q (zcO bs)
theorem zb8 : zn ["bits", "width", "size", "differences"] ["bits", "width"] (zi zfi) := by trivial
theorem ziz {f : Addr} {fd : FuncData} (F : Fun K "read_table" "read_table" zfi f fd) (T : Tx K mg t) (Gn : zD P w K mg base 2 t.CB "number" ["self", "width"] (yK t)) (Gp : zB P w K mg base 8 "read_plain_picture" ["bits", "width", "height"] (wZ t))
    (Gf : zB P w K mg base 1 "shift_for" ["size"] jC) (Gs : zB P w K mg base 2 "running_sums" ["colours"] zf5) (GD : yp P w K mg base 1 t.CD "Table" ["self", "width", "shift", "colours"] (zcx t)) : z0 P w K mg base (CXe P w) 9 f fd ["bits", "width"] (zbM t) := by
  refine F.okE zb8 (fun vs H Q E h => ?_) (fun cdv A outer s H vs Q E hr h => ?_)
  . obtain ⟨B, bs, w, rfl, _⟩ := h
    rfl
  . obtain ⟨B, bs, w, rfl, hb, k⟩ := h
    have hr1 : yC 1 _ := hr.mono (by decide)
    have hr2 : yC 2 _ := hr.mono (by decide)
    refine ⟨_, zb (zp (i := 2) zb8.nd rfl (Or.inl rfl) (zl zL (pm Gn Lv.of T.cB hr2 (pv 0) (za zg ze)) zg))
      (zb (zp (i := 3) zb8.nd rfl (Or.inl rfl) (pd Gp Lv.of hr (za (pv 0) (za (pv 2) (za zg ze)))))
      (zf (zr (pmk GD Lv.of hr2 (za (pv 1) (za (pd Gf Lv.of hr1 (za (pv 2) ze)) (za (pd Gs Lv.of hr2 (za (pv 3) ze)) ze))))))), ?_⟩
    unfold zcO at k
    obtain ⟨dx, fs, e1, e2⟩ := hb.meth (m := "number")
    refine ⟨_, rfl, B.p, dx, fs, rfl, e1, e2, B, bs, 8, rfl, by decide, hb, k.bind fun q bs1 v1 H1 hm1 hb1 kp1 hv1 k1 => ?_⟩
    cases hv1
    have hq : q < 256 := yk hm1
    have eq2 : (q : Int) + 1 = ((q + 1 : Nat) : Int) := by omega
    refine ⟨_, _, rfl, rfl, ?_⟩
    dsimp -proj only
    rw [eq2]
    refine ⟨_, rfl, _, rfl, B, bs1, q + 1, 1, rfl, by omega, by omega, by omega, hb1, k1.bind fun l bs2 v2 H2 hm2 hb2 kp2 hv2 k2 => ?_⟩
    obtain ⟨la, rfl, hla, hll, hok, nla⟩ := hv2
    have hlq : l.length = q + 1 := by rw [hll]; omega
    refine ⟨_, rfl, _, rfl, q + 1, rfl, _, rfl, la, l, rfl, hla, hok, by rw [hlq]; omega, fun sa H3 s3 nsa hsa => ?_⟩
    intro p dxp hp hdxp hne
    have hss : (zh (sums ⟨0, 0, 0, 0⟩ l)).length = q + 1 := by rw [yF, j9, hlq]
    have nsp : sa ≠ p := zd hsa hp
    have nsd : sa ≠ dxp := zd hsa hdxp
    refine ⟨p, dxp, sa, w, packedBits (q + 1), zh (sums ⟨0, 0, 0, 0⟩ l), rfl, zc, by rw [zk nsp, zk nsd]; exact hsa, by rw [hss]; omega, fun H4 cl e4 c4 kp4 ncl => ⟨rfl, ?_⟩⟩
    have sm : zN H3 H4 := zN.made hp hdxp fun b o e ne => kp4 b o e (by simpa using ne)
    have s24 := s3.trans sm
    have ncl3 : H3 cl = none := by
      by_cases h1 : cl = p
      . rw [h1]; exact hp
      . rw [zk h1] at ncl
        by_cases h2 : cl = dxp
        . rw [h2]; exact hdxp
        . rw [zk h2] at ncl; exact ncl
    have down : ∀ x, H3 x = none -> H x = none := fun x hx => yE kp1 hb1 x (yE kp2 hb2 x (s3.free hx))
    have hz : (sums ⟨0, 0, 0, 0⟩ l).length = q + 1 := by rw [j9, hlq]
    refine k2.pure' (hb2.same s24) (zF.same s24 _) ⟨p, dxp, cl, rfl, ?_, ?_, ze7 _ _, ?_, ?_, ?_, down _ hp, down _ ncl3⟩
    . show H4 p = some (.ins t.CD dxp (tbF w (packedBits (sums ⟨0, 0, 0, 0⟩ l).length) cl))
      rw [hz]; exact e4
    . show H4 cl = some (.lst (zm (zkN (sums ⟨0, 0, 0, 0⟩ l))))
      unfold zkN
      rw [hz, <- hss]; exact c4
    . show 0 < (sums ⟨0, 0, 0, 0⟩ l).length
      omega
    . show (sums ⟨0, 0, 0, 0⟩ l).length <= 256
      omega
    . exact hz.symm
end
end Lk
end
section
namespace Lk
open PySem PySem.Spec PyProof.Rows L2
open Sn15 (D bits bitsOf symbol Px Group up need packedBits Trans add sums)
abbrev zgc : Stmt := zU (top 97) 0
abbrev zkf : Stmt := zU (top 97) 1
abbrev zcz : Stmt := top 98
theorem vm : ∀ (n : Nat) (l : List Nat), l.Nodup -> (∀ x ∈ l, x < n) -> l.length <= n
  | 0, l, _, h => by
    cases l with
    | nil => exact Nat.le_refl _
    | cons a r => have := h a List.mem_cons_self; omega
  | n + 1, l, hn, h => by
    by_cases hm : n ∈ l
    . have h1 := vm n (l.erase n) (hn.erase n) fun x hx => by
        obtain ⟨ne, hx⟩ := (hn.mem_erase_iff).mp hx
        have := h x hx
        omega
      rw [List.length_erase_of_mem hm] at h1
      omega
    . have := vm n l hn fun x hx => by
        have := h x hx
        have : x ≠ n := fun z => hm (z ▸ hx)
        omega
      omega
theorem zaA (kd : Nat) : ∀ l : List Nat, inV (nat kd) (zm l) = l.contains kd
  | [] => rfl
  | a :: r => by
    show (((a : Int) == (kd : Int)) || inV (nat kd) (zm r)) = _
    rw [zaA kd r, List.contains_cons]
    congr 1
    by_cases h : a = kd
    . subst h; simp
    . have h2 : ¬ (a : Int) = (kd : Int) := by omega
      have h3 : ¬ kd = a := fun z => h z.symm
      rw [beq_eq_false_iff_ne.mpr h2, beq_eq_false_iff_ne.mpr h3]
theorem xW (l : List Nat) (k : Nat) : l.reverse.contains k = l.contains k := by
  rw [Bool.eq_iff_iff, List.contains_iff_mem, List.contains_iff_mem, List.mem_reverse]
theorem zaK {w : Nat} {tr : Trans} (h : 0 < w) : 0 < zaE w tr /\ zaE w tr <= w := by
  cases tr with
  | table c =>
    have hp : 0 < (2 : Nat) ^ packedBits c.length := Nat.pow_pos (by decide)
    exact ⟨wr hp h, zbF hp⟩
  | _ => exact ⟨h, Nat.le_refl _⟩
structure Fa where
  p : Addr
  k : Addr
  s : Addr
def trF (w h : Nat) (k s : Addr) : List (Str × V) := [("width", nat w), ("height", nat h), ("kinds", .ref k), ("steps", .ref s)]
theorem zdV (w h : Nat) (k s : Addr) : (trF w h k s).lookup ("width" : Str) = some (nat w) := zT
theorem zlV (w h : Nat) (k s : Addr) : (trF w h k s).lookup ("height" : Str) = some (nat h) := (zu (by decide +kernel)).trans zT
theorem zmO (w h : Nat) (k s : Addr) : (trF w h k s).lookup ("kinds" : Str) = some (.ref k) := (zu (by decide +kernel)).trans ((zu (by decide +kernel)).trans zT)
theorem zeS (w h : Nat) (k s : Addr) : (trF w h k s).lookup ("steps" : Str) = some (.ref s) := (zu (by decide +kernel)).trans ((zu (by decide +kernel)).trans ((zu (by decide +kernel)).trans zT))
theorem zja (w h : Nat) (k s : Addr) {m : Str} (h1 : (m == ("width" : Str)) = false) (h2 : (m == ("height" : Str)) = false) (h3 : (m == ("kinds" : Str)) = false) (h4 : (m == ("steps" : Str)) = false) : (trF w h k s).lookup m = none :=
  (zu h1).trans ((zu h2).trans ((zu h3).trans ((zu h4).trans rfl)))
structure FAt (t : Ad) (H : Hp) (F : Fa) (w h : Nat) (had : List Nat) (as : List Addr) : Prop where
  ins : ∃ dx, H F.p = some (.ins t.CF dx (trF w h F.k F.s))
  kin : H F.k = some (.lst (zm had))
  stp : H F.s = some (.lst (as.map V.ref))
theorem FAt.same {t : Ad} {H H' : Hp} {F : Fa} {w h : Nat} {had : List Nat} {as : List Addr} (g : FAt t H F w h had as) (s : zN H H') : FAt t H' F w h had as := by
  obtain ⟨dx, e⟩ := g.ins
  exact ⟨⟨dx, s _ _ e⟩, s _ _ g.kin, s _ _ g.stp⟩
theorem FAt.kept {t : Ad} {H H' : Hp} {F : Fa} {w h : Nat} {had : List Nat} {as : List Addr} {B : Bi} {bs : List Bool} (g : FAt t H F w h had as) (b : zx t H B bs) (k : zF [B.p] H H') : FAt t H' F w h had as := by
  obtain ⟨dx, e⟩ := g.ins
  exact ⟨⟨dx, k.ins b e (by decide +kernel)⟩, k.lst b g.kin, k.lst b g.stp⟩
structure zjS (H0 : Hp) (B : Bi) (F : Fa) : Prop where
  bp : H0 B.p ≠ none
  fp : H0 F.p ≠ none
  fk : H0 F.k ≠ none
  fs : H0 F.s ≠ none
  ks : F.k ≠ F.s
  ko : F.k ≠ B.o
  so : F.s ≠ B.o
theorem FAt.neK {t : Ad} {H : Hp} {F : Fa} {w h : Nat} {had : List Nat} {as : List Addr} (g : FAt t H F w h had as) : F.p ≠ F.k := by
  obtain ⟨dx, e⟩ := g.ins
  exact y6 e g.kin (by intro z; cases z)
theorem FAt.neS {t : Ad} {H : Hp} {F : Fa} {w h : Nat} {had : List Nat} {as : List Addr} (g : FAt t H F w h had as) : F.p ≠ F.s := by
  obtain ⟨dx, e⟩ := g.ins
  exact y6 e g.stp (by intro z; cases z)
theorem zc9 {t : Ad} {H : Hp} {B : Bi} {bs : List Bool} {la : Addr} {l l' : List V} (hb : zx t H B bs) (h : H la = some (.lst l)) (hne : la ≠ B.o) : zx t (upd H la (.lst l')) B bs := by
  obtain ⟨dx, i, e1, e2, r⟩ := hb
  exact ⟨dx, i, by rw [zk (y6 e1 h (by intro z; cases z))]; exact e1, by rw [zk hne.symm]; exact e2, r⟩
theorem zm4 {t : Ad} {H0 H : Hp} {B : Bi} {bs : List Bool} {F : Fa} {w w0 h : Nat} {had : List Nat} {as : List Addr} {ts : List Trans} {a : Addr} {tr : Trans} (hb : zx t H B bs) (FA : FAt t H F w h had as) (Bd : zjS H0 B F) (dm : ∀ x, H x = none -> H0 x = none)
    (sts : yr t (fresh H0 H) w0 h as ts) (st : xb t (fresh H0 H) a (jO w0 ts) h tr) : zx t (upd H F.s (.lst (as.map V.ref ++ [.ref a]))) B bs /\ FAt t (upd H F.s (.lst (as.map V.ref ++ [.ref a]))) F w h had (as ++ [a]) /\
      yr t (fresh H0 (upd H F.s (.lst (as.map V.ref ++ [.ref a])))) w0 h (as ++ [a]) (ts ++ [tr]) /\ (∀ x, upd H F.s (.lst (as.map V.ref ++ [.ref a])) x = none -> H0 x = none) /\ zF (B.p :: [F.p, F.k, F.s]) H (upd H F.s (.lst (as.map V.ref ++ [.ref a]))) := by
  have sm : zN (fresh H0 H) (fresh H0 (upd H F.s (.lst (as.map V.ref ++ [.ref a])))) := xh (ps := [F.s]) (zF.put (by simp)) fun x hx => by rw [List.mem_singleton.mp hx]; exact Bd.fs
  obtain ⟨dx, e⟩ := FA.ins
  refine ⟨zc9 hb FA.stp Bd.so, ⟨⟨dx, by rw [zk FA.neS]; exact e⟩, by rw [zk Bd.ks]; exact FA.kin, by rw [zc, List.map_append]; rfl⟩, (sts.same sm).snoc (st.same sm), zcE dm, zF.put (by simp)⟩
section
variable {P : Program} {w : World} {K : PySem.W.Frag} {mg : Str -> Option Value} {base : Heap} {t : Ad}
def zcs (t : Ad) : Sp := fun vs H Q _ => ∃ (p dx : Addr) (w h : Nat), vs = [.ref p, nat w, nat h] /\ H p = some (.ins t.CF dx []) /\
  ∀ H' F, F.p = p -> FAt t H' F w h [] [] -> F.k ≠ F.s -> H F.k = none -> H F.s = none -> zF [p] H H' -> Q .non H'
theorem zjx : zn ["self", "width", "height"] ["self", "width", "height"] (zi zgc) := by trivial
theorem zin {f : Addr} {fd : FuncData} (F : Fun K "__init__" "Transforms.__init__" zgc f fd) (T2 : Tx2 K mg t) : z0 P w K mg base (CXe P w) 1 f fd ["self", "width", "height"] (zcs t) := by
  refine F.okE zjx (fun vs H Q E h => ?_) (fun cdv A outer s H vs Q E hr h => ?_)
  . obtain ⟨p, dx, w, h, rfl, _⟩ := h
    rfl
  . obtain ⟨p, dx, w, h, rfl, hp, k⟩ := h
    refine ⟨_, zb (z9 (pv 0) (pv 1) rfl) (zb (z9 (pv 0) (pv 2) rfl) (zb (z9 (pv 0) (yc ze) rfl) (zf (z9 (pv 0) (yc ze) rfl)))), ?_⟩
    refine ⟨_, rfl, _, rfl, p, t.CF, dx, _, rfl, hp, T2.cF, T2.fW, (by show 0 < 1000; decide), ?_⟩
    refine ⟨_, rfl, _, rfl, p, t.CF, dx, _, rfl, zc, T2.cF, T2.fH, (by show 1 < 1000; decide), ?_⟩
    generalize hH2 : upd (upd H p _) p _ = H2
    have p2 : H2 p = some (.ins t.CF dx [("width", nat w), ("height", nat h)]) := by rw [<- hH2, zc]; rfl
    have k2 : zF [p] H H2 := by rw [<- hH2]; exact (zF.put (by simp)).trans (zF.put (by simp))
    refine ⟨Nat.zero_le _, fun l hl => ⟨_, rfl, p, t.CF, dx, _, rfl, (by rw [zk (zd p2 hl)]; exact p2), T2.cF, T2.fK, (by show 2 < 1000; decide), ?_⟩⟩
    have npl : p ≠ l := zd p2 hl
    have nHl : H l = none := k2.free hl (by simp; exact npl.symm)
    generalize hH3 : upd (upd H2 l _) p _ = H3
    have p3 : H3 p = some (.ins t.CF dx [("width", nat w), ("height", nat h), ("kinds", .ref l)]) := by rw [<- hH3, zc]; rfl
    have l3 : H3 l = some (.lst []) := by rw [<- hH3, zk npl.symm]; exact zc
    have k3 : zF [p] H H3 := by rw [<- hH3]; exact (k2.trans (zF.new hl)).trans (zF.put (by simp))
    refine ⟨Nat.zero_le _, fun c hc => ⟨_, rfl, p, t.CF, dx, _, rfl, (by rw [zk (zd p3 hc)]; exact p3), T2.cF, T2.fS, (by show 3 < 1000; decide), ?_⟩⟩
    have npc : p ≠ c := zd p3 hc
    have nlc : l ≠ c := zd l3 hc
    have nHc : H c = none := k3.free hc (by simp; exact npc.symm)
    refine k _ ⟨p, l, c⟩ rfl ⟨⟨dx, by rw [zc]; rfl⟩, by rw [zk npl.symm, zk nlc]; exact l3, by rw [zk npc.symm]; exact zc⟩ nlc nHl nHc ((k3.trans (zF.new hc)).trans (zF.put (by simp)))
def zmq (t : Ad) (F : Fa) (H0 : Hp) (w0 w h : Nat) (had : List Nat) (as : List Addr) (ts : List Trans) (kd : Nat) : Trans × Nat -> V -> Hp -> Prop := fun z v H' => v = .non /\ ∃ a, FAt t H' F z.2 h (had ++ [kd]) (as ++ [a]) /\ yr t (fresh H0 H') w0 h (as ++ [a]) (ts ++ [z.1]) /\ qH z.1 /\ z.2 = zaE w z.1 /\ ∀ x, H' x = none -> H0 x = none
def zfq (t : Ad) : Sp := fun vs H Q E => ∃ (B : Bi) (bs : List Bool) (kd : Nat) (F : Fa) (w0 w h : Nat) (had : List Nat) (as : List Addr) (ts : List Trans) (H0 : Hp), vs = [.ref F.p, .ref B.p, nat kd] /\ kd < 4 /\ 0 < w /\ 0 < h /\ w * h <= 2 ^ 20 /\ had.length <= 4 /\ as.length <= 4 /\ w = jO w0 ts /\
  zx t H B bs /\ FAt t H F w h had as /\ zjS H0 B F /\ (∀ x, H x = none -> H0 x = none) /\ yr t (fresh H0 H) w0 h as ts /\ Out t E B [F.p, F.k, F.s] H (zmq t F H0 w0 w h had as ts kd) Q ((need (!had.contains kd) >>= fun _ => zdO kd w h) bs)
theorem zjm : zn ["self", "bits", "kind", "table"] ["self", "bits", "kind"] (zi zkf) := by trivial
theorem zkx (w w' h : Nat) (k s : Addr) : j1 "width" (nat w') (trF w h k s) = trF w' h k s := by
  unfold trF
  rw [zgh]
theorem zkO {f : Addr} {fd : FuncData} (F : Fun K "take" "Transforms.take" zkf f fd) (T : Tx K mg t) (T2 : Tx2 K mg t) (Gm : zB P w K mg base 10 "read_modes" ["bits", "width", "height"] (zch t)) (Gs : zB P w K mg base 9 "read_squares" ["bits", "width", "height"] (qk t))
    (Gt : zB P w K mg base 9 "read_table" ["bits", "width"] (zbM t)) (Gw : zD P w K mg base 2 t.CD "packed_width" ["self"] (wM t)) (GP : yp P w K mg base 1 t.CP "Predictions" ["self", "width", "squares"] (qx t.CP)) (GK : yp P w K mg base 1 t.CK "Colours" ["self", "width", "squares"] (qx t.CK)) :
    z0 P w K mg base (CXe P w) 11 f fd ["self", "bits", "kind"] (zfq t) := by
  obtain ⟨u0, g0, r0⟩ := T2.kPRED
  obtain ⟨u1, g1, r1⟩ := T2.kCOL
  obtain ⟨u2, g2, r2⟩ := T2.kGRE
  obtain ⟨u3, g3, r3⟩ := T2.kTAB
  refine F.okE zjm (fun vs H Q E h => ?_) (fun cdv A outer s H vs Q E hr h => ?_)
  . obtain ⟨B, bs, kd, Fa, w0, w, h, had, as, ts, H0, rfl, _⟩ := h
    rfl
  . obtain ⟨B, bs, kd, Fa, w0, w, h, had, as, ts, H0, rfl, hk4, hw, hh, hwh, hhl, hal, hwe, hb, FA, Bd, dm, sts, k⟩ := h
    have hr2 : yC 2 _ := hr.mono (by decide)
    have hr9 : yC 9 _ := hr.mono (by decide)
    refine ⟨_, zb (yh (zw zeW (pv 2) (zy (pv 0) rfl) (by with_unfolding_all rfl)) (zf (z7 Lv.of (by rfl) T.gN T.xN)) zI)
      (zb (zZ (xz PySem.F.plainAttrs_list PySem.F.slot_list_append PySem.F.type_list_append yb (zy (pv 0) rfl) (za (pv 2) ze)))
      (zf (yh (zw xY (pv 2) (zH (by rfl) g0 r0) (zE _))
        (zf (zZ (xz PySem.F.plainAttrs_list PySem.F.slot_list_append PySem.F.type_list_append yb (zy (pv 0) rfl) (za (pmk GP Lv.of hr2 (za (zy (pv 0) rfl) (za (pd Gm Lv.of hr (za (pv 1) (za (zy (pv 0) rfl) (za (zy (pv 0) rfl) ze)))) ze))) ze))))
        (zf (yh (zw xY (pv 2) (zH (by rfl) g1 r1) (zE _))
          (zf (zZ (xz PySem.F.plainAttrs_list PySem.F.slot_list_append PySem.F.type_list_append yb (zy (pv 0) rfl) (za (pmk GK Lv.of hr2 (za (zy (pv 0) rfl) (za (pd Gs Lv.of hr9 (za (pv 1) (za (zy (pv 0) rfl) (za (zy (pv 0) rfl) ze)))) ze))) ze))))
          (zf (yh (zw xY (pv 2) (zH (by rfl) g2 r2) (zE _))
            (zf (zZ (xz PySem.F.plainAttrs_list PySem.F.slot_list_append PySem.F.type_list_append yb (zy (pv 0) rfl) (za (zls T2.mE T2.iE T2.pE (by rfl) T2.gE) ze))))
            (zf (yh (zw xY (pv 2) (zH (by rfl) g3 r3) (zE _))
              (zb (zp (i := 3) zjm.nd rfl (Or.inl rfl) (pd Gt Lv.of hr9 (za (pv 1) (za (zy (pv 0) rfl) ze))))
              (zb (zZ (xz PySem.F.plainAttrs_list PySem.F.slot_list_append PySem.F.type_list_append yb (zy (pv 0) rfl) (za (pv 3) ze)))
              (zf (z9 (pv 0) (pm0 Gw Lv.of T2.cD hr2 (pv 3)) rfl))))
              zI))))))))), ?_⟩
    obtain ⟨dx, hin⟩ := FA.ins
    refine ⟨_, rfl, _, rfl, Fa.p, t.CF, dx, _, _, rfl, hin, T2.cF, T2.fK, zmO _ _ _ _, Fa.k, _, rfl, .inl (SqL.of FA.kin), rfl, wk _, _, rfl, yG (fun g => ?_) (fun g => ?_)⟩
    . have g' : had.contains kd = true := by
        have g2 : inV (nat kd) (zm had) = true := g
        rw [zaA] at g2
        exact g2
      exact k.need.2 (by rw [g']; rfl) _
    . have g' : had.contains kd = false := by
        have g2 : ¬ inV (nat kd) (zm had) = true := g
        rw [zaA] at g2
        exact Bool.eq_false_iff.mpr g2
      have k0 := k.need.1 (by rw [g']; rfl)
      refine ⟨_, rfl, Fa.p, t.CF, dx, _, _, rfl, hin, T2.cF, T2.fK, zmO _ _ _ _, .inl ⟨rfl, _, SqL.of FA.kin⟩, _, rfl, Fa.k, _, _, rfl, rfl, FA.kin, ?_, ?_⟩
      . rw [zo]
        exact Nat.lt_of_le_of_lt hhl (by decide)
      . have eA : zm had ++ [nat kd] = zm (had ++ [kd]) := by rw [yw]; rfl
        rw [eA]
        generalize hHa : upd H Fa.k (.lst (zm (had ++ [kd]))) = Ha
        have hbA : zx t Ha B bs := by rw [<- hHa]; exact zc9 hb FA.kin Bd.ko
        have FA1 : FAt t Ha Fa w h (had ++ [kd]) as := by
          rw [<- hHa]
          exact ⟨⟨dx, by rw [zk FA.neK]; exact hin⟩, zc, by rw [zk Bd.ks.symm]; exact FA.stp⟩
        have kpA : zF (B.p :: [Fa.p, Fa.k, Fa.s]) H Ha := by rw [<- hHa]; exact zF.put (by simp)
        have stA : yr t (fresh H0 Ha) w0 h as ts := by
          rw [<- hHa]
          exact sts.same (xh (ps := [Fa.k]) (zF.put (by simp)) fun x hx => by rw [List.mem_singleton.mp hx]; exact Bd.fk)
        have dmA : ∀ x, Ha x = none -> H0 x = none := by rw [<- hHa]; exact zcE dm
        have kA := k0.shift kpA
        clear k0 k kpA sts dm FA hb hin dx
        obtain ⟨dx, hin⟩ := FA1.ins
        have hlen4 : (as.map V.ref).length < sizeLine := by rw [List.length_map]; exact Nat.lt_of_le_of_lt hal (by decide)
        have bOnly : ∀ {Hx Hy : Hp}, zF [B.p] Hx Hy -> zN (fresh H0 Hx) (fresh H0 Hy) := fun kp => xh kp fun x hx => by rw [List.mem_singleton.mp hx]; exact Bd.bp
        unfold zdO at kA
        refine ⟨_, rfl, rfl, _, rfl, yG (fun e => ?_) (fun e => ?_)⟩
        . have e' : kd = 0 := by have := V.int.inj (of_decide_eq_true e); omega
          rw [if_pos e'] at kA
          refine ⟨_, rfl, Fa.p, t.CF, dx, _, _, rfl, hin, T2.cF, T2.fS, zeS _ _ _ _, .inl ⟨rfl, _, SqL.of FA1.stp⟩, _, rfl, Fa.p, t.CF, dx, _, _, rfl, hin, T2.cF, T2.fW, zdV _ _ _ _, _, rfl, _, rfl, Fa.p, t.CF, dx, _, _, rfl, hin, T2.cF, T2.fW, zdV _ _ _ _, _, rfl, Fa.p, t.CF, dx, _, _, rfl, hin, T2.cF, T2.fH, zlV _ _ _ _,
            B, bs, w, h, rfl, hw, hh, hwh, hbA, kA.bind fun m bs2 v2 H2 hm2 hb2 kp2 hv2 k2 => ?_⟩
          obtain ⟨⟨sa, cl, rfl, hS, hz9, hll, nsa, ncl⟩, hmo⟩ := hv2
          intro p dxp hp hdxp hne
          refine ⟨p, dxp, sa, w, rfl, zc, fun H3 e3 kp3 => ⟨rfl, ?_⟩⟩
          have sm : zN H2 H3 := zN.made hp hdxp fun b o e ne => kp3 b o e (by simpa using ne)
          have FA3 := (FA1.kept hbA kp2).same sm
          have dA2 : ∀ x, H2 x = none -> H0 x = none := fun x hx => dmA x (yE kp2 hb2 x hx)
          have st3 : xb t (fresh H0 H3) p (jO w0 ts) h (.predict m.1 m.2) := by
            rw [<- hwe]
            obtain ⟨sdx, hsin⟩ := hS.ins
            exact ⟨dxp, sa, cl, yH (dA2 _ hp) e3, ⟨⟨sdx, yH (dmA _ nsa) (sm _ _ hsin)⟩, yH (dmA _ ncl) (sm _ _ hS.lst), hS.ok⟩, hz9, hll, hmo⟩
          obtain ⟨q1, q2, q3, q4, q5⟩ := zm4 (hb2.same sm) FA3 Bd (fun x hx => dA2 x (sm.free hx)) ((stA.same (bOnly kp2)).same (jt sm)) st3
          exact ⟨Fa.s, _, _, rfl, rfl, FA3.stp, hlen4, k2.pure' q1 ((zF.same sm _).trans q5) ⟨rfl, p, q2, q3, trivial, rfl, q4⟩⟩
        . have e' : ¬ kd = 0 := fun z => e (decide_eq_true (by rw [z]; rfl))
          rw [if_neg e'] at kA
          refine ⟨_, rfl, rfl, _, rfl, yG (fun f => ?_) (fun f => ?_)⟩
          . have f' : kd = 1 := by have := V.int.inj (of_decide_eq_true f); omega
            rw [if_pos f'] at kA
            refine ⟨_, rfl, Fa.p, t.CF, dx, _, _, rfl, hin, T2.cF, T2.fS, zeS _ _ _ _, .inl ⟨rfl, _, SqL.of FA1.stp⟩, _, rfl, Fa.p, t.CF, dx, _, _, rfl, hin, T2.cF, T2.fW, zdV _ _ _ _, _, rfl, _, rfl, Fa.p, t.CF, dx, _, _, rfl, hin, T2.cF, T2.fW, zdV _ _ _ _, _, rfl, Fa.p, t.CF, dx, _, _, rfl, hin, T2.cF, T2.fH, zlV _ _ _ _,
              B, bs, w, h, rfl, hw, hh, hwh, hbA, kA.bind fun m bs2 v2 H2 hm2 hb2 kp2 hv2 k2 => ?_⟩
            obtain ⟨sa, cl, rfl, hS, hz9, hll, nsa, ncl⟩ := hv2
            intro p dxp hp hdxp hne
            refine ⟨p, dxp, sa, w, rfl, zc, fun H3 e3 kp3 => ⟨rfl, ?_⟩⟩
            have sm : zN H2 H3 := zN.made hp hdxp fun b o e ne => kp3 b o e (by simpa using ne)
            have FA3 := (FA1.kept hbA kp2).same sm
            have dA2 : ∀ x, H2 x = none -> H0 x = none := fun x hx => dmA x (yE kp2 hb2 x hx)
            have st3 : xb t (fresh H0 H3) p (jO w0 ts) h (.cross m.1 m.2) := by
              rw [<- hwe]
              obtain ⟨sdx, hsin⟩ := hS.ins
              exact ⟨dxp, sa, cl, yH (dA2 _ hp) e3, ⟨⟨sdx, yH (dmA _ nsa) (sm _ _ hsin)⟩, yH (dmA _ ncl) (sm _ _ hS.lst), hS.ok⟩, hz9, hll⟩
            obtain ⟨q1, q2, q3, q4, q5⟩ := zm4 (hb2.same sm) FA3 Bd (fun x hx => dA2 x (sm.free hx)) ((stA.same (bOnly kp2)).same (jt sm)) st3
            exact ⟨Fa.s, _, _, rfl, rfl, FA3.stp, hlen4, k2.pure' q1 ((zF.same sm _).trans q5) ⟨rfl, p, q2, q3, trivial, rfl, q4⟩⟩
          . have f' : ¬ kd = 1 := fun z => f (decide_eq_true (by rw [z]; rfl))
            rw [if_neg f'] at kA
            refine ⟨_, rfl, rfl, _, rfl, yG (fun g => ?_) (fun g => ?_)⟩
            . have g' : kd = 2 := by have := V.int.inj (of_decide_eq_true g); omega
              rw [if_pos g'] at kA
              refine ⟨_, rfl, Fa.p, t.CF, dx, _, _, rfl, hin, T2.cF, T2.fS, zeS _ _ _ _, .inl ⟨rfl, _, SqL.of FA1.stp⟩, ?_⟩
              intro p dxp hp hdxp hne
              have sm : zN Ha (upd (upd Ha dxp (.own p)) p (.ins t.CE dxp [])) := zN.made hp hdxp fun b o e ne => e
              have FA3 := FA1.same sm
              have st3 : xb t (fresh H0 (upd (upd Ha dxp (.own p)) p (.ins t.CE dxp []))) p (jO w0 ts) h .green := ⟨dxp, yH (dmA _ hp) zc⟩
              obtain ⟨q1, q2, q3, q4, q5⟩ := zm4 (hbA.same sm) FA3 Bd (fun x hx => dmA x (sm.free hx)) (stA.same (jt sm)) st3
              exact ⟨Fa.s, _, _, rfl, rfl, FA3.stp, hlen4, kA.pure' q1 ((zF.same sm _).trans q5) ⟨rfl, p, q2, q3, trivial, rfl, q4⟩⟩
            . have g' : ¬ kd = 2 := fun z => g (decide_eq_true (by rw [z]; rfl))
              rw [if_neg g'] at kA
              refine ⟨_, rfl, rfl, _, rfl, yG (fun j => ?_) (fun j => ?_)⟩
              . refine ⟨_, rfl, _, rfl, Fa.p, t.CF, dx, _, _, rfl, hin, T2.cF, T2.fW, zdV _ _ _ _, B, bs, w, rfl, hbA, kA.bind fun z bs2 v2 H2 hm2 hb2 kp2 hv2 k2 => ?_⟩
                obtain ⟨a, adx, cl, rfl, ha, hcl, hzok, hz0, hz256, hz1, na, ncl⟩ := hv2
                have FA3 := FA1.kept hbA kp2
                obtain ⟨dx3, hin3⟩ := FA3.ins
                have dA2 : ∀ x, H2 x = none -> H0 x = none := fun x hx => dmA x (yE kp2 hb2 x hx)
                have st3 : xb t (fresh H0 H2) a (jO w0 ts) h (.table z.2) := by
                  rw [<- hwe]
                  exact ⟨adx, cl, yH (dmA _ na) ha, yH (dmA _ ncl) hcl, hzok, hz0, hz256⟩
                obtain ⟨q1, q2, q3, q4, q5⟩ := zm4 hb2 FA3 Bd dA2 (stA.same (bOnly kp2)) st3
                refine ⟨_, rfl, Fa.p, t.CF, dx3, _, _, rfl, hin3, T2.cF, T2.fS, zeS _ _ _ _, .inl ⟨rfl, _, SqL.of FA3.stp⟩, _, rfl, Fa.s, _, _, rfl, rfl, FA3.stp, hlen4, ?_⟩
                have nas : a ≠ Fa.s := y6 ha FA3.stp (by intro z; cases z)
                have ha4 : upd H2 Fa.s (.lst (as.map V.ref ++ [.ref a])) a = some (.ins t.CD adx (tbF w (packedBits z.2.length) cl)) := by rw [zk nas]; exact ha
                generalize upd H2 Fa.s (.lst (as.map V.ref ++ [.ref a])) = H4 at q1 q2 q3 q4 q5 ha4
                obtain ⟨dx4, hin4⟩ := q2.ins
                refine ⟨_, rfl, a, adx, _, rfl, ha4, zdv _ _ _ (by decide +kernel) (by decide +kernel) (by decide +kernel), a, adx, cl, w, packedBits z.2.length, rfl, ha4, Nat.le_trans (kT _) (by decide), _, rfl, Fa.p, t.CF, dx4, _, rfl, hin4, T2.cF, T2.fW, (by show 4 < 1000; decide), ?_⟩
                rw [zkx]
                have sm5 : zN (fresh H0 H4) (fresh H0 (upd H4 Fa.p (.ins t.CF dx4 (trF (up w (2 ^ packedBits z.2.length)) h Fa.k Fa.s)))) := xh (ps := [Fa.p]) (zF.put (by simp)) fun x hx => by rw [List.mem_singleton.mp hx]; exact Bd.fp
                have hb5 : zx t (upd H4 Fa.p (.ins t.CF dx4 (trF (up w (2 ^ packedBits z.2.length)) h Fa.k Fa.s))) B bs2 := by
                  obtain ⟨bdx, i, b1, b2, r⟩ := q1
                  refine ⟨bdx, i, ?_, ?_, r⟩
                  . rw [zk (y6 b1 hin4 (by intro z; unfold vb trF at z; injection z with _ _ z3; injection z3 with z4; injection z4 with z5; exact absurd z5 (by decide +kernel)))]; exact b1
                  . rw [zk (y6 b2 hin4 (by intro z; cases z))]; exact b2
                refine k2.pure' hb5 (q5.trans (zF.put (by simp))) ⟨rfl, a, ⟨⟨dx4, ?_⟩, ?_, ?_⟩, q3.same sm5, hzok, ?_, zcE q4⟩
                . show upd H4 Fa.p _ Fa.p = some (.ins t.CF dx4 (trF (up w (2 ^ packedBits z.1)) h Fa.k Fa.s))
                  rw [zc, hz1]
                . rw [zk q2.neK.symm]; exact q2.kin
                . rw [zk q2.neS.symm]; exact q2.stp
                . show up w (2 ^ packedBits z.1) = up w (2 ^ packedBits z.2.length)
                  rw [hz1]
              . have j' : ¬ kd = 3 := fun z => j (decide_eq_true (by rw [z]; rfl))
                omega
def zj6 (t : Ad) (w h : Nat) : List Trans × Nat -> V -> Hp -> Prop := fun r v H' => ∃ F had as, v = .ref F.p /\ FAt t H' F r.2 h had as /\ yr t H' w h as r.1 /\ (∀ z ∈ r.1, qH z) /\ r.2 = jO w r.1 /\ 0 < r.2 /\ r.2 <= w
def zav (t : Ad) : Sp := fun vs H Q E => ∃ (B : Bi) (bs : List Bool) (w h : Nat), vs = [.ref B.p, nat w, nat h] /\ 0 < w /\ 0 < h /\ w * h <= 2 ^ 20 /\ zx t H B bs /\ Out t E B [] H (zj6 t w h) Q (qe h 5 [] w bs)
theorem zdo : zn ["bits", "width", "height", "transforms"] ["bits", "width", "height"] (zi zcz) := by trivial
def zjg (t : Ad) (E : XK) (B : Bi) (H H0 : Hp) (Q : VK) (w h : Nat) (F : Fa) (n : Nat) (σ : L2.St) (Hx : Hp) : Prop := ∃ (had : List Nat) (as : List Addr) (ts : List Trans) (bs : List Bool) (w' : Nat),
  σ = [some (.ref B.p), some (nat w), some (nat h), some (.ref F.p)] /\ had.length + n = 5 /\ had.Nodup /\ (∀ x ∈ had, x < 4) /\ as.length = had.length /\ FAt t Hx F w' h had.reverse as /\ yr t (fresh H0 Hx) w h as ts /\ (∀ z ∈ ts, qH z) /\ w' = jO w ts /\ (∀ x, Hx x = none -> H0 x = none) /\
  zx t Hx B bs /\ zF [B.p] H Hx /\ 0 < w' /\ w' <= w /\ Out t E B [] H (zj6 t w h) Q (kJ h n had w' ts bs)
theorem zf3 {f : Addr} {fd : FuncData} (F : Fun K "read_transforms" "read_transforms" zcz f fd) (T : Tx K mg t) (T2 : Tx2 K mg t) (Gb : zD P w K mg base 1 t.CB "bit" ["self"] (vt t)) (Gn : zD P w K mg base 2 t.CB "number" ["self", "width"] (yK t))
    (Gt : zD P w K mg base 11 t.CF "take" ["self", "bits", "kind"] (zfq t)) (GF : yp P w K mg base 1 t.CF "Transforms" ["self", "width", "height"] (zcs t)) : z0 P w K mg base (CXe P w) 12 f fd ["bits", "width", "height"] (zav t) := by
  refine F.okE zdo (fun vs H Q E h => ?_) (fun cdv A outer s H vs Q E hr h => ?_)
  . obtain ⟨B, bs, w, h, rfl, _⟩ := h
    rfl
  . obtain ⟨B, bs, w, h, rfl, hw, hh, hwh, hb, k⟩ := h
    have hr1 : yC 1 _ := hr.mono (by decide)
    have hr2 : yC 2 _ := hr.mono (by decide)
    refine ⟨_, zb (zp (i := 3) zdo.nd rfl (Or.inl rfl) (pmk GF Lv.of hr2 (za (pv 1) (za (pv 2) ze))))
      (zb (jl Lv.of.own (zw xY (pm0 Gb Lv.of T.cB hr1 (pv 0)) zg (zE _))
        (zf (zZ (pm Gt Lv.of T2.cF hr (pv 3) (za (pv 0) (za (pm Gn Lv.of T.cB hr2 (pv 0) (za zg ze)) ze))))))
      (zf (zr (pv 3)))), ?_⟩
    refine ⟨_, rfl, _, rfl, ?_⟩
    intro p dxp hp hdxp hne
    refine ⟨p, dxp, w, h, rfl, zc, fun H0 Fa eF FA ks nk ns kp0 => ⟨rfl, ?_⟩⟩
    have sm0 : zN H H0 := zN.made hp hdxp fun b o e ne => kp0 b o e (by simpa using ne)
    have hb0 := hb.same sm0
    have down : ∀ x, (upd (upd H dxp (.own p)) p (.ins t.CF dxp [])) x = none -> H x = none := fun x hx => by
      by_cases h1 : x = p
      . rw [h1]; exact hp
      . rw [zk h1] at hx
        by_cases h2 : x = dxp
        . rw [h2]; exact hdxp
        . rw [zk h2] at hx; exact hx
    have nHk := down _ nk
    have nHs := down _ ns
    obtain ⟨fdx, fin⟩ := FA.ins
    have nHp : H Fa.p = none := by rw [eF]; exact hp
    have Bd : zjS H0 B Fa := by
      obtain ⟨bdx, i, b1, b2, _⟩ := hb
      refine ⟨by rw [sm0 _ _ b1]; simp, by rw [fin]; simp, by rw [FA.kin]; simp, by rw [FA.stp]; simp, ks, (zd b2 nHk).symm, (zd b2 nHs).symm⟩
    rw [<- zd2] at k
    refine ⟨zjg t E B H H0 Q w h Fa, ⟨5, [], [], [], bs, w, by rw [eF]; rfl, rfl, List.nodup_nil, by simp, rfl, FA, ⟨rfl, fun j a e => by simp at e⟩, by simp, rfl, fun x hx => hx, hb0, zF.same sm0 _, hw, Nat.le_refl _, k⟩, ?_⟩
    rintro n σ Hy ⟨had, as, ts, bs1, w1, rfl, hlen, hnd, h4, hal, FA1, st1, tok1, hwe, dm1, hb1, kp1, hw1, hww, k1⟩
    have hle := vm 4 had hnd h4
    obtain ⟨m, rfl⟩ : ∃ m, n = m + 1 := ⟨n - 1, by omega⟩
    rw [zb0] at k1
    obtain ⟨dx, fs, e1, e2⟩ := hb1.meth (m := "bit")
    refine ⟨_, rfl, B.p, dx, fs, rfl, e1, e2, B, bs1, rfl, hb1, (k1.shift kp1).bind fun u bs2 v2 H2 hm2 hb2 kp2 hv2 k2 => ?_⟩
    cases hv2
    have bOnly : ∀ {Hx Hy : Hp}, zF [B.p] Hx Hy -> zN (fresh H0 Hx) (fresh H0 Hy) := fun kp => xh kp fun x hx => by rw [List.mem_singleton.mp hx]; exact Bd.bp
    have FA2 := FA1.kept hb1 kp2
    refine ⟨rfl, _, rfl, yG (fun e => ?_) (fun e => ?_)⟩
    . have e' : u = 1 := by have := V.int.inj (of_decide_eq_true e); omega
      rw [if_pos e'] at k2
      have k2o := k1.next hm2
      rw [if_pos e'] at k2o
      refine ⟨fun σ' H' => ∃ m', m' < m + 1 /\ zjg t E B H H0 Q w h Fa m' σ' H', fun _ _ h => h, ?_⟩
      obtain ⟨fdx2, fin2⟩ := FA2.ins
      obtain ⟨dx3, fs3, e3, e4⟩ := hb2.meth (m := "number")
      refine ⟨_, rfl, Fa.p, fdx2, _, rfl, fin2, zja _ _ _ _ (by decide +kernel) (by decide +kernel) (by decide +kernel) (by decide +kernel), _, rfl, _, rfl, B.p, dx3, fs3, rfl, e3, e4, B, bs2, 2, rfl, by decide, hb2, k2.bind fun kd bs3 v3 H3 hm3 hb3 kp3 hv3 k3 => ?_⟩
      cases hv3
      have hk4 : kd < 4 := yk hm3
      have k3o := k2o.next hm3
      have FA3 := FA2.kept hb2 kp3
      have kp03 : zF [B.p] H H3 := (kp1.trans kp2).trans kp3
      refine ⟨B, bs3, kd, Fa, w, w1, h, had.reverse, as, ts, H0, rfl, hk4, hw1, hh, Nat.le_trans (Nat.mul_le_mul_right _ hww) hwh, by rw [List.length_reverse]; exact hle, by rw [hal]; exact hle, hwe, hb3, FA3, Bd, fun x hx => dm1 x (yE kp2 hb2 x (yE kp3 hb3 x hx)), (st1.same (bOnly kp2)).same (bOnly kp3), ?_⟩
      have k4 : Out t E B [] H (zj6 t w h) Q (((need (!had.reverse.contains kd) >>= fun _ => zdO kd w1 h) >>= fun z => kJ h m (kd :: had) z.2 (ts ++ [z.1])) bs3) := by
        rw [xW, zK]
        exact k3o
      cases hm4 : (need (!had.reverse.contains kd) >>= fun _ => zdO kd w1 h) bs3 with
      | none =>
        rw [zJ, hm4] at k4
        exact k4
      | some zz =>
        obtain ⟨z, bs4⟩ := zz
        intro v4 H4 hb4 kp4 hv4
        obtain ⟨rfl, a, FA4, st4, tok4, hz2, dm4⟩ := hv4
        have hnew : had.contains kd = false := by
          obtain ⟨u1, b1, hn, _⟩ := bind_some hm4
          have := (qc hn).1
          rw [xW] at this
          simpa using this
        obtain ⟨p1, p2⟩ := zaK (tr := z.1) hw1
        refine ⟨m, Nat.lt_succ_self _, kd :: had, as ++ [a], ts ++ [z.1], bs4, z.2, rfl, by rw [List.length_cons]; omega, List.nodup_cons.mpr ⟨fun z => ?_, hnd⟩, ?_, by rw [List.length_append, hal]; rfl, by rw [List.reverse_cons]; exact FA4, st4, ?_, by rw [qW, <- hwe]; exact hz2, dm4, hb4, ?_, by rw [hz2]; exact p1, by rw [hz2]; exact Nat.le_trans p2 hww, k4.next hm4⟩
        . rw [List.contains_iff_mem.mpr z] at hnew; cases hnew
        . intro x hx
          rcases List.mem_cons.mp hx with e | e
          . rw [e]; exact hk4
          . exact h4 x e
        . intro y hy
          rcases List.mem_append.mp hy with hy | hy
          . exact tok1 y hy
          . rw [List.mem_singleton.mp hy]; exact tok4
        . intro b o eb nb
          refine kp4 b o (kp03 b o eb nb) ?_
          simp only [List.mem_cons, List.not_mem_nil, or_false] at nb ⊢
          rintro (z | z | z | z)
          . exact nb z
          . exact zd eb nHp z
          . exact zd eb nHk z
          . exact zd eb nHs z
    . have e' : ¬ u = 1 := fun z => e (decide_eq_true (by rw [z]; rfl))
      have k2o := k1.next hm2
      rw [if_neg e'] at k2o
      refine ⟨_, rfl, ?_⟩
      exact k2o.pure' hb2 (kp1.trans kp2) ⟨Fa, had.reverse, as, rfl, FA2, (st1.same (bOnly kp2)).same (zbn _ _), tok1, hwe, hw1, hww⟩
end
end Lk
end
section
namespace Lk
open PySem PySem.Spec PyProof.Rows L2
open Sn15 (D bits bitsOf symbol Px Group up need packedBits four)
abbrev j0 : Stmt := top 47
abbrev zbX : Stmt := top 48
abbrev zeQ : Stmt := top 49
abbrev zfr : Stmt := top 50
theorem zck {K : PySem.W.Frag} {H : Hp} : ∀ l : List Nat, zb3 K H (zm l) ((l.map fun (n : Nat) => (n : Int)).map PyData.int)
  | [] => .nil
  | n :: r => .cons (.int _) (zck r)
theorem zde : ∀ {l m : List Nat}, (l.map fun (n : Nat) => (n : Int)) = (m.map fun (n : Nat) => (n : Int)) -> l = m
  | [], [], _ => rfl
  | [], _ :: _, h => by cases h
  | _ :: _, [], h => by cases h
  | a :: r, b :: t, h => by
    rw [List.map_cons, List.map_cons] at h
    obtain ⟨h1, h2⟩ := List.cons.inj h
    rw [zde h2]
    congr 1
    omega
theorem ziy (l m : List Nat) : PyData.eqv (.list ((l.map fun (n : Nat) => (n : Int)).map PyData.int)) (.list ((m.map fun (n : Nat) => (n : Int)).map PyData.int)) = decide (l = m) := by
  show PyData.eqvAll _ _ = _
  rw [PySem.W.ked_eqvAll]
  by_cases h : l = m
  . subst h; simp
  . rw [decide_eq_false h, decide_eq_false (fun z => h (zde z))]
theorem kX : ∀ l : List Int, PyData.canLayAll0 (l.map PyData.int) = true
  | [] => rfl
  | a :: r => by rw [List.map_cons, PyData.canLayAll0, kX r]; rfl
theorem wo : ∀ l : List Int, PyData.depthAll (l.map PyData.int) <= 1
  | [] => Nat.zero_le _
  | a :: r => by
    have h1 : PyData.depth (.int a) <= 1 := by rw [PyData.depth] <;> simp
    have h2 := wo r
    rw [List.map_cons, PyData.depthAll]
    omega
theorem vg (l : List Int) : SeqAt.shaped (.list (l.map PyData.int)) = true := by
  unfold SeqAt.shaped
  rw [PyData.canLay0, kX, PyData.depth, decide_eq_true (by have := wo l; omega)]
  rfl
theorem zgP {n d p : Nat} (h : p <= n) : HT.sIx n d (some (p : Int)) = p := by
  show (if (p : Int) < 0 then ((p : Int) + (n : Int)).toNat else min (p : Int).toNat n) = p
  rw [if_neg (by omega)]
  omega
theorem wv {b : List Nat} {p q : Nat} (h : p <= q) (hq : q <= b.length) : zeb (zm b) (some (p : Int)) (some (q : Int)) = zm ((b.drop p).take (q - p)) := by
  unfold zeb
  rw [zo, zgP (p := p) (by omega), zgP (p := q) hq]
  unfold zm
  rw [List.map_take, List.map_drop]
theorem zhX {c0 c1 c2 c3 : Nat} (h0 : c0 < 256) (h1 : c1 < 256) (h2 : c2 < 256) (h3 : c3 < 256) :
    Builtin.bitOr (Builtin.bitOr (Builtin.bitOr (c0 : Int) ((c1 : Int) * 2 ^ (8 : Int).toNat)) ((c2 : Int) * 2 ^ (16 : Int).toNat)) ((c3 : Int) * 2 ^ (24 : Int).toNat) = ((c0 + 256 * (c1 + 256 * (c2 + 256 * c3)) : Nat) : Int) := by
  have e1 : (c1 : Int) * 2 ^ (8 : Int).toNat = ((c1 * 2 ^ 8 : Nat) : Int) := by show (c1 : Int) * 2 ^ 8 = ((c1 * 2 ^ 8 : Nat) : Int); omega
  have e2 : (c2 : Int) * 2 ^ (16 : Int).toNat = ((c2 * 2 ^ 16 : Nat) : Int) := by show (c2 : Int) * 2 ^ 16 = ((c2 * 2 ^ 16 : Nat) : Int); omega
  have e3 : (c3 : Int) * 2 ^ (24 : Int).toNat = ((c3 * 2 ^ 24 : Nat) : Int) := by show (c3 : Int) * 2 ^ 24 = ((c3 * 2 ^ 24 : Nat) : Int); omega
  rw [e1, e2, e3, wY (by omega), wY (by omega), wY (by omega)]
  omega
theorem zkQ {X : Cx} {op : BoolOp} {a : Expr} {pos : Pos} {t : TE} (h : PE X a t) : PE X (.BoolOp op [a] pos) t := fun pins s σ H Q I hw => BoolOp_one (h pins s σ H Q I hw)
section
variable {P : Program} {w : World} {K : PySem.W.Frag} {mg : Str -> Option Value} {base : Heap} {t : Ad}
def vf (K : PySem.W.Frag) : Sp := fun vs H Q _ => ∃ (d : Addr) (b : List Nat) (p : Nat) (x : Str), vs = [.ref d, nat p, .str x] /\ SqL K H d (zm b) /\ p + x.cps.size <= b.length /\ x.cps.size <= 1000 /\
  ∀ H', zN H H' -> Q (.bl (decide ((b.drop p).take x.cps.size = x.cps.toList))) H'
abbrev zdc : List Str := ["data", "place", "letters", "letter"]
theorem kF : zn zdc ["data", "place", "letters"] (zi j0) := by trivial
theorem zdI {f : Addr} {fd : FuncData} (F : Fun K "letters_stand" "letters_stand" j0 f fd) (T : Tx K mg t) : z0 P w K mg base (CXe P w) 1 f fd ["data", "place", "letters"] (vf K) := by
  refine F.okE kF (fun vs H Q E h => ?_) (fun cdv A outer s H vs Q E hr h => ?_)
  . obtain ⟨d, b, p, x, rfl, _⟩ := h
    rfl
  . obtain ⟨d, b, p, x, rfl, hS, hpx, hx, k⟩ := h
    refine ⟨_, zf (zr (zhr (zmi hr.units) (j6 zcF (pv 0) (qK (pv 1)) (qK (zl zL (pv 1) (zG za5 (by rfl) T.len PySem.boot_len (za (pv 2) ze)))))
      (zis (own := [("letter", 3)]) rfl kF.nd (zmX (pv 2)) (by show kO zdc (zi j0) _ _; exact qw (by decide +kernel))
        (fun _ _ _ _ _ => by exact z6 (i := 3) kF.nd (by rfl) (Or.inl (by rfl)) (Or.inr (by rfl))) (fun _ _ _ _ _ => jz) (fun _ _ _ _ _ => by exact zG zix (by rfl) T.ord PyProof.Rows.boot_ord (za (pv 3) ze))) (zE _))), ?_⟩
    refine ⟨_, rfl, _, rfl, _, rfl, _, rfl, _, rfl, x, rfl, Nat.le_trans hx (by decide), _, _, rfl, rfl, _, rfl, d, zm b, rfl, hS, fun p1 hp1 => ⟨_, rfl, x, rfl, fun Dl hDl => zmu (z := x)
      (fun i Hx => zN (upd H p1 (.lst (zeb (zm b) (some (p : Int)) (some ((p : Int) + (x.length : Int)))))) Hx /\ Hx Dl = some (.lst (zm (x.cps.toList.take i)))) ⟨zt (zN.refl _) hDl, zc⟩ ?_ ?_⟩⟩
    . rintro i c Hx hc ⟨sx, dxx⟩
      have hc' : x.cps.toList[i]? = some c := by rw [Array.getElem?_toList]; exact hc
      have hil : i < x.cps.toList.length := (List.getElem?_eq_some_iff.mp hc').1
      have hg : x.cps.toList[i] = c := by rw [List.getElem?_eq_getElem hil] at hc'; exact Option.some.inj hc'
      refine ⟨rfl, wf ⟨_, rfl, ⟨#[c]⟩, rfl, rfl, _, dxx, ?_, yo sx hDl, ?_⟩⟩
      . rw [zo, List.length_take]
        rw [Array.length_toList] at hil ⊢
        exact Nat.lt_of_le_of_lt (show min i x.cps.size <= 1000 by omega) (by decide)
      . rw [zc, List.take_succ_eq_append_getElem hil, yw, hg]; rfl
    . rintro Hx ⟨sx, dxx⟩
      have ex : x.length = x.cps.size := rfl
      have ec : zeb (zm b) (some (p : Int)) (some ((p : Int) + (x.length : Int))) = zm ((b.drop p).take x.cps.size) := by
        have := wv (b := b) (p := p) (q := p + x.cps.size) (by omega) hpx
        rw [ex]
        rw [show ((p + x.cps.size : Nat) : Int) = (p : Int) + (x.cps.size : Int) by omega, show p + x.cps.size - p = x.cps.size by omega] at this
        exact this
      rw [<- Array.length_toList, List.take_length] at dxx
      have h1 : Hx p1 = some (.lst (zm ((b.drop p).take x.cps.size))) := by rw [<- ec]; exact sx _ _ zc
      refine ⟨_, _, .lst (SqL.of h1) (zck _), .lst (SqL.of dxx) (zck _), vg _, vg _, ?_⟩
      rw [ziy]
      exact k _ ((zt (zN.refl _) hp1).trans sx)
def zat (K : PySem.W.Frag) : Sp := fun vs H Q _ => ∃ (d : Addr) (b : List Nat) (p : Nat), vs = [.ref d, nat p] /\ SqL K H d (zm b) /\ (∀ c ∈ b, c < 256) /\ p + 3 < b.length /\ Q (nat (four b p)) H
theorem ziX : zn ["data", "place"] ["data", "place"] (zi zbX) := by trivial
theorem zg0 {f : Addr} {fd : FuncData} (F : Fun K "size_at" "size_at" zbX f fd) : z0 P w K mg base (CXe P w) 1 f fd ["data", "place"] (zat K) := by
  refine F.okE ziX (fun vs H Q E h => ?_) (fun cdv A outer s H vs Q E hr h => ?_)
  . obtain ⟨d, b, p, rfl, _⟩ := h
    rfl
  . obtain ⟨d, b, p, rfl, hS, hb, hp, k⟩ := h
    have g : ∀ j, j < b.length -> ∃ c, b[j]? = some c /\ c < 256 /\ b.getD j 0 = c := fun j hj => ⟨b[j], List.getElem?_eq_getElem hj, hb _ (List.getElem_mem hj), by rw [List.getD_eq_getElem?_getD, List.getElem?_eq_getElem hj]; rfl⟩
    obtain ⟨c0, g0, l0, f0⟩ := g p (by omega)
    obtain ⟨c1, g1, l1, f1⟩ := g (p + 1) (by omega)
    obtain ⟨c2, g2, l2, f2⟩ := g (p + 2) (by omega)
    obtain ⟨c3, g3, l3, f3⟩ := g (p + 3) (by omega)
    refine ⟨_, zf (zr (zl vx (zl vx (zl vx (yu zP (pv 0) (pv 1) (fun _ _ => rfl)) (zl yT (yu zP (pv 0) (zl zL (pv 1) zg) (fun _ _ => rfl)) zg))
      (zl yT (yu zP (pv 0) (zl zL (pv 1) zg) (fun _ _ => rfl)) zg)) (zl yT (yu zP (pv 0) (zl zL (pv 1) zg) (fun _ _ => rfl)) zg))), ?_⟩
    refine ⟨_, rfl, _, rfl, d, _, _, nat c0, rfl, rfl, hS, yB (j := p) rfl (yj g0), ?_⟩
    refine ⟨_, rfl, _, rfl, _, _, rfl, rfl, d, _, _, nat c1, rfl, rfl, hS, yB (j := p + 1) (by omega) (yj g1), _, _, rfl, rfl, ⟨by decide, by decide, by omega⟩, _, _, rfl, rfl, ?_⟩
    refine ⟨_, rfl, _, rfl, _, _, rfl, rfl, d, _, _, nat c2, rfl, rfl, hS, yB (j := p + 2) (by omega) (yj g2), _, _, rfl, rfl, ⟨by decide, by decide, by omega⟩, _, _, rfl, rfl, ?_⟩
    refine ⟨_, rfl, _, rfl, _, _, rfl, rfl, d, _, _, nat c3, rfl, rfl, hS, yB (j := p + 3) (by omega) (yj g3), _, _, rfl, rfl, ⟨by decide, by decide, by omega⟩, _, _, rfl, rfl, ?_⟩
    show Q (.int (Builtin.bitOr (Builtin.bitOr (Builtin.bitOr (c0 : Int) ((c1 : Int) * 2 ^ (8 : Int).toNat)) ((c2 : Int) * 2 ^ (16 : Int).toNat)) ((c3 : Int) * 2 ^ (24 : Int).toNat))) H
    rw [zhX l0 l1 l2 l3]
    unfold four at k
    rw [f0, f1, f2, f3] at k
    exact k
abbrev vR : List Nat := [82, 73, 70, 70]
abbrev wq : List Nat := [87, 69, 66, 80, 86, 80, 56, 76]
def zce (K : PySem.W.Frag) : Sp := fun vs H Q _ => ∃ (d : Addr) (b : List Nat), vs = [.ref d] /\ SqL K H d (zm b) /\ 16 <= b.length /\ ∀ H', zN H H' -> Q (.bl (decide (b.take 4 = vR /\ (b.drop 8).take 8 = wq))) H'
theorem zkk : zn ["data"] ["data"] (zi zeQ) := by trivial
theorem ziQ {f : Addr} {fd : FuncData} (F : Fun K "names_stand" "names_stand" zeQ f fd) (Gl : zB P w K mg base 1 "letters_stand" ["data", "place", "letters"] (vf K)) : z0 P w K mg base (CXe P w) 2 f fd ["data"] (zce K) := by
  refine F.okE zkk (fun vs H Q E h => ?_) (fun cdv A outer s H vs Q E hr h => ?_)
  . obtain ⟨d, b, rfl, _⟩ := h
    rfl
  . obtain ⟨d, b, rfl, hS, hl, k⟩ := h
    refine ⟨_, zf (zr (zmk (pd Gl Lv.of hr (za (pv 0) (za zg (za zi7 ze)))) (zkQ (pd Gl Lv.of hr (za (pv 0) (za zg (za zi7 ze))))))), ?_⟩
    have n4 : ("RIFF" : Str).cps.toList = vR := by decide +kernel
    have n8 : ("WEBPVP8L" : Str).cps.toList = wq := by decide +kernel
    have z4 : ("RIFF" : Str).cps.size = 4 := by decide +kernel
    have z8 : ("WEBPVP8L" : Str).cps.size = 8 := by decide +kernel
    refine ⟨_, rfl, d, b, 0, "RIFF", rfl, hS, by rw [z4]; omega, by rw [z4]; decide, fun H1 s1 => ⟨_, rfl, yG (fun e => ?_) (fun e => ?_)⟩⟩
    . have e' := of_decide_eq_true e
      rw [z4, n4, List.drop_zero] at e'
      refine ⟨_, rfl, d, b, 8, "WEBPVP8L", rfl, s1.seq hS, by rw [z8]; omega, by rw [z8]; decide, fun H2 s2 => ?_⟩
      have := k H2 (s1.trans s2)
      rw [z8, n8]
      rw [show decide (b.take 4 = vR /\ (b.drop 8).take 8 = wq) = decide ((b.drop 8).take 8 = wq) from by simp [e']] at this
      exact this
    . have e' : ¬ b.take 4 = vR := fun z => e (decide_eq_true (by rw [z4, n4, List.drop_zero]; exact z))
      have := k H1 s1
      rw [decide_eq_false (fun z => e' z.1)] at this
      exact this
def zb1 (K : PySem.W.Frag) (t : Ad) : Sp := fun vs H Q E => ∃ (d : Addr) (b : List Nat), vs = [.ref d] /\ SqL K H d (zm b) /\ (∀ c ∈ b, c < 256) /\
  (xl b -> ∀ o H', zN H H' -> H o = none -> H' o = some (.lst (zm (yy b))) -> Q (.ref o) H') /\ (¬ xl b -> ∀ H', E (.ref t.CN) none H')
theorem zcI : zn ["data", "size", "padding"] ["data"] (zi zfr) := by trivial
theorem zhI {f : Addr} {fd : FuncData} (F : Fun K "bytes_of_bits" "bytes_of_bits" zfr f fd) (T : Tx K mg t) (T2 : Tx2 K mg t) (Gn : zB P w K mg base 2 "names_stand" ["data"] (zce K)) (Gz : zB P w K mg base 1 "size_at" ["data", "place"] (zat K)) :
    z0 P w K mg base (CXe P w) 3 f fd ["data"] (zb1 K t) := by
  obtain ⟨uS, hS1, rS⟩ := T2.kSIG
  refine F.okE zcI (fun vs H Q E h => ?_) (fun cdv A outer s H vs Q E hr h => ?_)
  . obtain ⟨d, b, rfl, _⟩ := h
    rfl
  . obtain ⟨d, b, rfl, hS, hb, kt, kf⟩ := h
    have hr1 : yC 1 _ := hr.mono (by decide)
    have raise : ∀ {X : Cx} {E : XK} (L : Lv X E) (g : Gl X "NoSuchFile") (e : X.mg = mg) (e2 : X.K = K) {np cpos pos : Pos}, PSs X [.Raise (some (.Call (.Name "NoSuchFile" np) [] [] cpos)) none pos] (zi8 t.CN E) := fun L g e e2 => zf (z7 L g (by rw [e]; exact T.gN) (by rw [e2]; exact T.xN))
    refine ⟨_, zb (yh (PW.pt (zer (zw jW (zG zC (by rfl) T.len PySem.boot_len (za (pv 0) ze)) zg (zE _)) (we (zmH (zjd (pd Gn Lv.of hr (za (pv 0) ze))))))) (zf (z7 Lv.of (by rfl) T.gN T.xN)) zI)
      (zb (zp (i := 1) zcI.nd rfl (Or.inl rfl) (pd Gz Lv.of hr1 (za (pv 0) (za zg ze))))
      (zb (zp (i := 2) zcI.nd rfl (Or.inl rfl) (zl ze9 (pv 1) zg))
      (zb (yh (PW.pt (zer (zw zdY (pd Gz Lv.of hr1 (za (pv 0) (za zg ze))) (zl zL (zl zL zg (pv 1)) (pv 2)) (zE _))
          (we (zw zdY (zG zC (by rfl) T.len PySem.boot_len (za (pv 0) ze)) (zl zL (zl zL zg (pv 1)) (pv 2)) (zE _))))) (zf (z7 Lv.of (by rfl) T.gN T.xN)) zI)
      (zb (yh (zw zdY (yu zP (pv 0) zg (fun _ _ => rfl)) (zH (by rfl) hS1 rS) (zE _)) (zf (z7 Lv.of (by rfl) T.gN T.xN)) zI)
      (zb (yh (PW.pt (zfa (zw xY (pv 2) zg (zE _)) (zbT (zw zdY (yu zP (pv 0) (zl zL zg (pv 1)) (fun _ _ => rfl)) zg (zE _))))) (zf (z7 Lv.of (by rfl) T.gN T.xN)) zI)
      (zf (zr (j6 zcF (pv 0) (qK zg) (qK (zl zL zg (pv 1))))))))))), ?_⟩
    have bad : ∀ {c : Prop}, c -> (c -> ¬ xl b) -> ∀ H', E (.ref t.CN) none H' := fun h z => kf (z h)
    refine ⟨_, rfl, d, _, rfl, .inl hS, _, _, rfl, rfl, _, rfl, yG (fun e => ?_) (fun e => ?_)⟩
    . have e' : ((zm b).length : Int) < 21 := of_decide_eq_true e
      rw [zo] at e'
      exact zdB (kf (fun ok => ok (.inl (by omega))) _)
    . have e' : ¬ ((zm b).length : Int) < 21 := fun z => e (decide_eq_true z)
      rw [zo] at e'
      have hl : 21 <= b.length := by omega
      refine ⟨_, rfl, d, b, rfl, hS, by omega, fun H1 s1 => ⟨_, rfl, yG (fun g => ?_) (fun g => ?_)⟩⟩
      . have g' : ¬ (b.take 4 = vR /\ (b.drop 8).take 8 = wq) := by
          intro z
          rw [decide_eq_true z] at g
          cases g
        refine kf (fun ok => ?_) _
        refine g' ⟨Classical.byContradiction fun z => ok (.inr (.inl z)), Classical.byContradiction fun z => ok (.inr (.inr (.inl z)))⟩
      . have g' : b.take 4 = vR /\ (b.drop 8).take 8 = wq := by
          refine Classical.byContradiction fun z => g ?_
          rw [decide_eq_false z]
          rfl
        have hS1 : SqL K H1 d (zm b) := s1.seq hS
        refine ⟨_, rfl, d, b, 16, rfl, hS1, hb, by omega, ?_⟩
        generalize hsz : four b 16 = sz
        refine ⟨_, rfl, _, _, rfl, rfl, (by show (0 : Int) < 2; decide), ?_⟩
        dsimp -proj only
        rw [show ((sz : Nat) : Int) % 2 = ((sz % 2 : Nat) : Int) by omega]
        refine ⟨_, rfl, d, b, 4, rfl, hS1, hb, by omega, _, rfl, _, _, rfl, rfl, _, rfl, _, _, rfl, rfl, rfl, _, rfl, yG (fun i => ?_) (fun i => ?_)⟩
        . have i' : ¬ four b 4 = 12 + four b 16 + four b 16 % 2 := by
            intro z
            rw [hsz] at z
            have i2 : (!decide (nat (four b 4) = V.int (12 + (sz : Int) + ((sz % 2 : Nat) : Int)))) = true := i
            rw [decide_eq_true (by rw [z]; congr 1 <;> omega)] at i2
            cases i2
          exact zdB (kf (fun ok => ok (.inr (.inr (.inr (.inl i'))))) _)
        . have i' : four b 4 = 12 + four b 16 + four b 16 % 2 := by
            rw [hsz]
            refine Classical.byContradiction fun z => i ?_
            show (!decide (nat (four b 4) = V.int (12 + (sz : Int) + ((sz % 2 : Nat) : Int)))) = true
            rw [decide_eq_false (fun y => z (by have := V.int.inj y; omega))]
            rfl
          refine ⟨_, rfl, d, _, rfl, .inl hS1, _, rfl, _, _, rfl, rfl, _, rfl, _, _, rfl, rfl, rfl, _, rfl, yG (fun j => ?_) (fun j => ?_)⟩
          . have j' : ¬ b.length = 20 + four b 16 + four b 16 % 2 := by
              intro z
              rw [hsz] at z
              have j2 : (!decide (V.int ((zm b).length : Int) = V.int (20 + (sz : Int) + ((sz % 2 : Nat) : Int)))) = true := j
              rw [decide_eq_true (by rw [zo, z]; congr 1 <;> omega)] at j2
              cases j2
            exact kf (fun ok => ok (.inr (.inr (.inr (.inr (.inl j')))))) _
          . have j' : b.length = 20 + four b 16 + four b 16 % 2 := by
              rw [hsz]
              refine Classical.byContradiction fun z => j ?_
              show (!decide (V.int ((zm b).length : Int) = V.int (20 + (sz : Int) + ((sz % 2 : Nat) : Int)))) = true
              rw [decide_eq_false (fun y => z (by have := V.int.inj y; rw [zo] at this; omega))]
              rfl
            have g20 : b[20]? = some (b.getD 20 0) := by rw [List.getD_eq_getElem?_getD, List.getElem?_eq_getElem (by omega : 20 < b.length)]; rfl
            refine ⟨_, rfl, d, _, _, nat (b.getD 20 0), rfl, rfl, hS1, yB (j := 20) rfl (yj g20), rfl, _, rfl, yG (fun l => ?_) (fun l => ?_)⟩
            . have l' : ¬ b.getD 20 0 = 47 := by
                intro z
                have l2 : (!decide (nat (b.getD 20 0) = V.int 47)) = true := l
                rw [decide_eq_true (by rw [z]; rfl)] at l2
                cases l2
              exact kf (fun ok => ok (.inr (.inr (.inr (.inr (.inr (.inl l'))))))) _
            . have l' : b.getD 20 0 = 47 := by
                refine Classical.byContradiction fun z => l ?_
                show (!decide (nat (b.getD 20 0) = V.int 47)) = true
                rw [decide_eq_false (fun y => z (by have := V.int.inj y; omega))]
                rfl
              have fin : ¬ (four b 16 % 2 = 1 /\ b.getD (20 + four b 16) 0 ≠ 0) -> znX (tSl (znR K) (zlL 0) (zlq (tC (.int 21))) (zlq (tOp (rI0 fun i j => .int (i + j)) (tC (.int 20)) (zlL 1)))) { nx := fun _ H' => Q .non H', rt := Q } [some (.ref d), some (nat sz), some (nat (sz % 2))] H1 := fun m' => by
                have ok : xl b := by
                  rintro (z | z | z | z | z | z | z)
                  . omega
                  . exact z g'.1
                  . exact z g'.2
                  . exact z i'
                  . exact z j'
                  . exact z l'
                  . exact m' z
                refine ⟨_, rfl, _, rfl, _, rfl, _, _, rfl, rfl, _, rfl, d, zm b, rfl, hS1, fun p hp => ?_⟩
                refine kt ok p _ (zt s1 hp) (s1.free hp) ?_
                rw [zc]
                have ec := wv (b := b) (p := 21) (q := 20 + sz) (by rw [hsz] at j'; omega) (by rw [hsz] at j'; omega)
                unfold yy
                rw [hsz]
                rw [show 20 + sz - 21 = sz - 1 by omega] at ec
                rw [<- ec]
                rfl
              refine ⟨_, rfl, rfl, _, rfl, yG (fun m => ?_) (fun m => ?_)⟩
              . have m' : four b 16 % 2 = 1 := by
                  rw [hsz]
                  have := V.int.inj (of_decide_eq_true m)
                  omega
                have hlt : 20 + sz < b.length := by rw [j', m', hsz]; omega
                have gz : b[20 + sz]? = some (b.getD (20 + sz) 0) := by rw [List.getD_eq_getElem?_getD, List.getElem?_eq_getElem hlt]; rfl
                refine ⟨_, rfl, _, rfl, _, _, rfl, rfl, d, _, _, nat (b.getD (20 + sz) 0), rfl, rfl, hS1, yB (j := 20 + sz) (by omega) (yj gz), rfl, _, rfl, yG (fun n => ?_) (fun n => ?_)⟩
                . have n' : b.getD (20 + four b 16) 0 ≠ 0 := by
                    intro z
                    rw [hsz] at z
                    have n2 : (!decide (nat (b.getD (20 + sz) 0) = V.int 0)) = true := n
                    rw [decide_eq_true (by rw [z]; rfl)] at n2
                    cases n2
                  exact kf (fun ok => ok (.inr (.inr (.inr (.inr (.inr (.inr ⟨m', n'⟩))))))) _
                . have n' : b.getD (20 + sz) 0 = 0 := by
                    refine Classical.byContradiction fun z => n ?_
                    show (!decide (nat (b.getD (20 + sz) 0) = V.int 0)) = true
                    rw [decide_eq_false (fun y => z (by have := V.int.inj y; omega))]
                    rfl
                  exact fin fun z => z.2 (by rw [hsz]; exact n')
              . have m' : ¬ four b 16 % 2 = 1 := by
                  rw [hsz]
                  intro z
                  refine m (decide_eq_true ?_)
                  show nat (sz % 2) = V.int 1
                  rw [z]; rfl
                refine zlP ?_
                exact fin fun z => m' z.1
end
end Lk
end
section
namespace Lk
open PySem PySem.Spec PyProof.Rows L2
open Sn15 (D bits bitsOf symbol Px Group up need MOSTELEMENTS Trans)
abbrev zhb : Stmt := zU (top 103) 0
abbrev zeR : Stmt := zU (top 104) 0
abbrev zlA : Stmt := top 105
abbrev zks : Stmt := top 106
def Run {α : Type} (t : Ad) (E : XK) (B : Bi) (H : Hp) (Z : α -> List Bool -> Hp -> Prop) : Option (α × List Bool) -> Prop
  | none => ∀ H', E (.ref t.CN) none H'
  | some (a, bs') => ∀ H', zx t H' B bs' -> zF [B.p] H H' -> Z a bs' H'
section
variable {α β : Type} {t : Ad} {E : XK} {B : Bi} {H H' : Hp} {Z : β -> List Bool -> Hp -> Prop} {R1 : α -> V -> Hp -> Prop} {Q1 : VK} {bs bs' : List Bool}
theorem Run.shift {r : Option (β × List Bool)} (h : Run t E B H Z r) (k : zF [B.p] H H') : Run t E B H' Z r := by
  cases r with
  | none => exact h
  | some x => exact fun H2 b k2 => h H2 b (k.trans k2)
theorem Run.bind {m : D α} {f : α -> D β} (h : Run t E B H Z ((m >>= f) bs))
    (k : ∀ a bs' v H', m bs = some (a, bs') -> zx t H' B bs' -> zF [B.p] H H' -> R1 a v H' -> Run t E B H' Z (f a bs') -> Q1 v H') : Out t E B [] H R1 Q1 (m bs) := by
  rw [zJ] at h
  cases hm : m bs with
  | none => rw [hm] at h; exact h
  | some x =>
    rw [hm] at h
    obtain ⟨a, bs'⟩ := x
    exact fun v H' b kp r => k a bs' v H' hm b kp r (Run.shift h kp)
theorem Run.mid {m : D α} {f : α -> D β} (h : Run t E B H Z ((m >>= f) bs)) : Run t E B H (fun a bs' H' => Run t E B H' Z (f a bs')) (m bs) := by
  rw [zJ] at h
  cases hm : m bs with
  | none => rw [hm] at h; exact h
  | some x =>
    rw [hm] at h
    obtain ⟨a, bs'⟩ := x
    exact fun H' b kp => Run.shift h kp
theorem Run.imp {r : Option (β × List Bool)} {Z' : β -> List Bool -> Hp -> Prop} (h : Run t E B H Z r) (k : ∀ a bs' H', r = some (a, bs') -> zx t H' B bs' -> zF [B.p] H H' -> Z a bs' H' -> Z' a bs' H') : Run t E B H Z' r := by
  cases r with
  | none => exact h
  | some x => exact fun H2 b k2 => k _ _ _ rfl b k2 (h H2 b k2)
theorem Run.need {c : Bool} {f : Unit -> D β} (h : Run t E B H Z ((Sn15.need c >>= f) bs)) : (c = true -> Run t E B H Z (f () bs)) /\ (c = false -> ∀ H', E (.ref t.CN) none H') := by
  refine ⟨fun e => ?_, fun e => ?_⟩
  . subst e; rw [yl] at h; exact h
  . subst e; rw [yN] at h; exact h
theorem Run.pure {a : β} (h : Run t E B H Z ((Pure.pure a : D β) bs)) (b : zx t H B bs) : Z a bs H := h H b (zF.refl _ _)
end
theorem pdp {X : Cx} {E : XK} {k : Nat} {x : Str} {ps : List Str} {sp : Sp} {p pos : Pos} {e : Expr} {es : List Expr} {ts : TA} (G : zB X.prog X.w X.K X.mg X.base k x ps sp) (hp : qF (CXe X.prog X.w) X E) (hr : yC k X.A) (ha : PA X (e :: es) ts) (hg : Gl X x := by rfl) (hdb : (x == ("__debug__" : Str)) = false := by decide)
    (he : starEach (e :: es) X.env = (false, eval e X.env) :: starEach es X.env := by rfl) (hpl : (backTo pos (starEach es X.env)).any (·.1) = false := by rfl) : PE X (.Call (.Name x p) (e :: es) [] pos) (zic sp [] E ts) := by
  obtain ⟨f, fd, F, hm, hk, hb⟩ := G.ex
  exact zb5 F hr hg hm hk hb .nil hp ha hdb he hpl
theorem zj5 : wx = (zbZ >>= fun s => if MOSTELEMENTS < s.1 * s.2.1 then pure (s, ([], [])) else qe s.2.1 5 [] s.1 >>= fun r => zep r.2 s.2.1 >>= fun l => zcP >>= fun n => need (decide (n < 8)) >>= fun _ => pure (s, (r.1, l))) := by
  unfold wx
  congr 1
  funext s
  by_cases h : MOSTELEMENTS < s.1 * s.2.1
  . rw [if_pos h, if_pos h]
  . rw [if_neg h, if_neg h]
    unfold ziV
    simp only [zK, zq]
def hdF (w h : Nat) (c : V) : List (Str × V) := [("width", nat w), ("height", nat h), ("alphas_count", c)]
theorem zmr (w h : Nat) (c : V) : (hdF w h c).lookup ("width" : Str) = some (nat w) := zT
theorem zkD (w h : Nat) (c : V) : (hdF w h c).lookup ("height" : Str) = some (nat h) := (zu (by decide +kernel)).trans zT
theorem znE (w h : Nat) (c : V) : (hdF w h c).lookup ("alphas_count" : Str) = some c := (zu (by decide +kernel)).trans ((zu (by decide +kernel)).trans zT)
theorem zmW (w h : Nat) (c : V) {m : Str} (h1 : (m == ("width" : Str)) = false) (h2 : (m == ("height" : Str)) = false) (h3 : (m == ("alphas_count" : Str)) = false) : (hdF w h c).lookup m = none := (zu h1).trans ((zu h2).trans ((zu h3).trans rfl))
def coF (h f l : Addr) : List (Str × V) := [("head", .ref h), ("transforms", .ref f), ("colours", .ref l)]
theorem zmz (h f l : Addr) : (coF h f l).lookup ("head" : Str) = some (.ref h) := zT
theorem znn (h f l : Addr) : (coF h f l).lookup ("transforms" : Str) = some (.ref f) := (zu (by decide +kernel)).trans zT
theorem znr (h f l : Addr) : (coF h f l).lookup ("colours" : Str) = some (.ref l) := (zu (by decide +kernel)).trans ((zu (by decide +kernel)).trans zT)
def zhp (t : Ad) (H : Hp) (a : Addr) (s : Nat × Nat × Nat) : Prop := ∃ dx, H a = some (.ins t.CH dx (hdF s.1 s.2.1 (.bl (decide (s.2.2 = 1)))))
structure zjh (t : Ad) (H : Hp) (a : Addr) (c : zlO) : Prop where
  ex : ∃ (dx ha : Addr) (F : Fa) (had : List Nat) (as : List Addr) (la : Addr), H a = some (.ins t.CA dx (coF ha F.p la)) /\ zhp t H ha c.1 /\ FAt t H F (jO c.1.1 c.2.1) c.1.2.1 had as /\ yr t H c.1.1 c.1.2.1 as c.2.1 /\ H la = some (.lst (zm (zh c.2.2)))
  tok : ∀ z ∈ c.2.1, qH z
  len : c.2.2.length = jO c.1.1 c.2.1 * c.1.2.1
  ok : ∀ p ∈ c.2.2, yf p
  w0 : 0 < c.1.1
  h0 : 0 < c.1.2.1
section
variable {P : Program} {w : World} {K : PySem.W.Frag} {mg : Str -> Option Value} {base : Heap} {t : Ad}
def zct (t : Ad) : Sp := fun vs H Q _ => ∃ (p dx : Addr) (w h : Nat) (c : V), vs = [.ref p, nat w, nat h, c] /\ H p = some (.ins t.CH dx []) /\ ∀ H', H' p = some (.ins t.CH dx (hdF w h c)) -> zF [p] H H' -> Q .non H'
theorem zk2 : zn ["self", "width", "height", "alphas_count"] ["self", "width", "height", "alphas_count"] (zi zhb) := by trivial
theorem zhU {f : Addr} {fd : FuncData} (F : Fun K "__init__" "Head.__init__" zhb f fd) (T2 : Tx2 K mg t) : z0 P w K mg base (CXe P w) 1 f fd ["self", "width", "height", "alphas_count"] (zct t) := by
  refine F.okE zk2 (fun vs H Q E h => ?_) (fun cdv A outer s H vs Q E hr h => ?_)
  . obtain ⟨p, dx, w, h, c, rfl, _⟩ := h
    rfl
  . obtain ⟨p, dx, w, h, c, rfl, hp, k⟩ := h
    refine ⟨_, zb (z9 (pv 0) (pv 1) rfl) (zb (z9 (pv 0) (pv 2) rfl) (zf (z9 (pv 0) (pv 3) rfl))), ?_⟩
    refine ⟨_, rfl, _, rfl, p, t.CH, dx, _, rfl, hp, T2.cH, T2.hW, (by show 0 < 1000; decide), ?_⟩
    refine ⟨_, rfl, _, rfl, p, t.CH, dx, _, rfl, zc, T2.cH, T2.hH, (by show 1 < 1000; decide), ?_⟩
    refine ⟨_, rfl, _, rfl, p, t.CH, dx, _, rfl, zc, T2.cH, T2.hA, (by show 2 < 1000; decide), ?_⟩
    refine k _ ?_ (((zF.put (by simp)).trans (zF.put (by simp))).trans (zF.put (by simp)))
    rw [zc]
    rfl
def zbK (t : Ad) : Sp := fun vs H Q _ => ∃ (p dx ha fa la : Addr), vs = [.ref p, .ref ha, .ref fa, .ref la] /\ H p = some (.ins t.CA dx []) /\ ∀ H', H' p = some (.ins t.CA dx (coF ha fa la)) -> zF [p] H H' -> Q .non H'
theorem zla : zn ["self", "head", "transforms", "colours"] ["self", "head", "transforms", "colours"] (zi zeR) := by trivial
theorem zh0 {f : Addr} {fd : FuncData} (F : Fun K "__init__" "Contents.__init__" zeR f fd) (T2 : Tx2 K mg t) : z0 P w K mg base (CXe P w) 1 f fd ["self", "head", "transforms", "colours"] (zbK t) := by
  refine F.okE zla (fun vs H Q E h => ?_) (fun cdv A outer s H vs Q E hr h => ?_)
  . obtain ⟨p, dx, ha, fa, la, rfl, _⟩ := h
    rfl
  . obtain ⟨p, dx, ha, fa, la, rfl, hp, k⟩ := h
    refine ⟨_, zb (z9 (pv 0) (pv 1) rfl) (zb (z9 (pv 0) (pv 2) rfl) (zf (z9 (pv 0) (pv 3) rfl))), ?_⟩
    refine ⟨_, rfl, _, rfl, p, t.CA, dx, _, rfl, hp, T2.cA, T2.aH, (by show 0 < 1000; decide), ?_⟩
    refine ⟨_, rfl, _, rfl, p, t.CA, dx, _, rfl, zc, T2.cA, T2.aT, (by show 1 < 1000; decide), ?_⟩
    refine ⟨_, rfl, _, rfl, p, t.CA, dx, _, rfl, zc, T2.cA, T2.aC, (by show 2 < 1000; decide), ?_⟩
    refine k _ ?_ (((zF.put (by simp)).trans (zF.put (by simp))).trans (zF.put (by simp)))
    rw [zc]
    rfl
def zne (t : Ad) (E : XK) (Q : VK) : Nat × Nat × Nat -> List Bool -> Hp -> Prop := fun s _ H => (MOSTELEMENTS < s.1 * s.2.1 -> ∀ H', E (.ref t.CT) none H') /\
  (¬ MOSTELEMENTS < s.1 * s.2.1 -> ∀ a H', zN H H' -> zhp t H' a s -> Q (.ref a) H')
def zfJ (t : Ad) : Sp := fun vs H Q E => ∃ (B : Bi) (bs : List Bool), vs = [.ref B.p] /\ zx t H B bs /\ Run t E B H (zne t E Q) (zbZ bs)
theorem zcS : zn ["bits", "width", "height", "alphas_count"] ["bits"] (zi zks) := by trivial
theorem zln {f : Addr} {fd : FuncData} (F : Fun K "read_head" "read_head" zks f fd) (T : Tx K mg t) (T2 : Tx2 K mg t) (Gb : zD P w K mg base 1 t.CB "bit" ["self"] (vt t)) (Gn : zD P w K mg base 2 t.CB "number" ["self", "width"] (yK t)) (GH : yp P w K mg base 1 t.CH "Head" ["self", "width", "height", "alphas_count"] (zct t)) : z0 P w K mg base (CXe P w) 3 f fd ["bits"] (zfJ t) := by
  obtain ⟨uL, hL, rL⟩ := T2.kLAR
  refine F.okE zcS (fun vs H Q E h => ?_) (fun cdv A outer s H vs Q E hr h => ?_)
  . obtain ⟨B, bs, rfl, _⟩ := h
    rfl
  . obtain ⟨B, bs, rfl, hb, k⟩ := h
    have hr1 : yC 1 _ := hr.mono (by decide)
    refine ⟨_, zb (zp (i := 1) zcS.nd rfl (Or.inl rfl) (zl zL (pm Gn Lv.of T.cB hr (pv 0) (za zg ze)) zg))
      (zb (zp (i := 2) zcS.nd rfl (Or.inl rfl) (zl zL (pm Gn Lv.of T.cB hr (pv 0) (za zg ze)) zg))
      (zb (zp (i := 3) zcS.nd rfl (Or.inl rfl) (zhr xY (pm0 Gb Lv.of T.cB hr1 (pv 0)) zg (zE _)))
      (zb (yh (zw zdY (pm Gn Lv.of T.cB hr (pv 0) (za zg ze)) zg (zE _)) (zf (z7 Lv.of (by rfl) T.gN T.xN)) zI)
      (zb (yh (zw qP (zl xA (pv 1) (pv 2)) (zH (by rfl) hL rL) (zE _)) (zf (z7 Lv.of (by rfl) T.gT T.xT)) zI)
      (zf (zr (pmk GH Lv.of hr (za (pv 1) (za (pv 2) (za (pv 3) ze)))))))))), ?_⟩
    unfold zbZ at k
    obtain ⟨dx, fs, e1, e2⟩ := hb.meth (m := "number")
    refine ⟨_, rfl, B.p, dx, fs, rfl, e1, e2, B, bs, 14, rfl, by decide, hb, k.bind fun w1 bs1 v1 H1 hm1 hb1 kp1 hv1 k1 => ?_⟩
    cases hv1
    have hw1 : w1 < 2 ^ 14 := yk hm1
    refine ⟨_, _, rfl, rfl, ?_⟩
    dsimp -proj only
    rw [show (w1 : Int) + 1 = ((w1 + 1 : Nat) : Int) by omega]
    obtain ⟨dx2, fs2, e3, e4⟩ := hb1.meth (m := "number")
    refine ⟨_, rfl, B.p, dx2, fs2, rfl, e3, e4, B, bs1, 14, rfl, by decide, hb1, k1.bind fun h1 bs2 v2 H2 hm2 hb2 kp2 hv2 k2 => ?_⟩
    cases hv2
    have hh1 : h1 < 2 ^ 14 := yk hm2
    refine ⟨_, _, rfl, rfl, ?_⟩
    dsimp -proj only
    rw [show (h1 : Int) + 1 = ((h1 + 1 : Nat) : Int) by omega]
    obtain ⟨dx3, fs3, e5, e6⟩ := hb2.meth (m := "bit")
    refine ⟨_, rfl, B.p, dx3, fs3, rfl, e5, e6, B, bs2, rfl, hb2, k2.bind fun al bs3 v3 H3 hm3 hb3 kp3 hv3 k3 => ?_⟩
    cases hv3
    refine ⟨rfl, ?_⟩
    have eal : decide (nat al = V.int 1) = decide (al = 1) := by
      by_cases h : al = 1
      . rw [decide_eq_true h, decide_eq_true (by rw [h]; rfl)]
      . rw [decide_eq_false h, decide_eq_false (fun z => h (by have := V.int.inj z; omega))]
    obtain ⟨dx4, fs4, e7, e8⟩ := hb3.meth (m := "number")
    refine ⟨_, rfl, B.p, dx4, fs4, rfl, e7, e8, B, bs3, 3, rfl, by decide, hb3, k3.bind fun vv bs4 v4 H4 hm4 hb4 kp4 hv4 k4 => ?_⟩
    cases hv4
    refine ⟨rfl, _, rfl, yG (fun e => ?_) (fun e => ?_)⟩
    . refine k4.need.2 ?_ _
      rw [beq_eq_false_iff_ne]
      intro z
      have e' : (!decide (nat vv = V.int 0)) = true := e
      rw [decide_eq_true (by rw [z]; rfl)] at e'
      cases e'
    . have hv0 : vv = 0 := by
        refine Classical.byContradiction fun z => e ?_
        show (!decide (nat vv = V.int 0)) = true
        rw [decide_eq_false (fun y => z (by have := V.int.inj y; omega))]
        rfl
      have k5 := (k4.need.1 (by rw [hv0]; rfl)).pure hb4
      have em : ((w1 + 1 : Nat) : Int) * ((h1 + 1 : Nat) : Int) = (((w1 + 1) * (h1 + 1) : Nat) : Int) := (Int.natCast_mul _ _).symm
      refine ⟨_, rfl, _, rfl, _, _, rfl, rfl, .inl ⟨by omega, by omega⟩, _, _, rfl, rfl, _, rfl, yG (fun g => ?_) (fun g => ?_)⟩
      . have g' : (1048576 : Int) < ((w1 + 1 : Nat) : Int) * ((h1 + 1 : Nat) : Int) := of_decide_eq_true g
        rw [em] at g'
        exact k5.1 (by show (1048576 : Nat) < (w1 + 1) * (h1 + 1); omega) _
      . have g' : ¬ (1048576 : Int) < ((w1 + 1 : Nat) : Int) * ((h1 + 1 : Nat) : Int) := fun z => g (decide_eq_true z)
        rw [em] at g'
        refine ⟨_, rfl, _, rfl, _, rfl, ?_⟩
        intro p dxp hp hdxp hne
        refine ⟨p, dxp, w1 + 1, h1 + 1, _, rfl, zc, fun H5 e5' kp5 => ⟨rfl, ?_⟩⟩
        have sm : zN H4 H5 := zN.made hp hdxp fun b o e ne => kp5 b o e (by simpa using ne)
        refine k5.2 (by show ¬ (1048576 : Nat) < (w1 + 1) * (h1 + 1); omega) p H5 sm ⟨dxp, ?_⟩
        rw [e5']
        show some (HO.ins t.CH dxp (hdF (w1 + 1) (h1 + 1) (.bl (decide (nat al = V.int 1))))) = _
        rw [eal]
def ze0 (K : PySem.W.Frag) (t : Ad) : Sp := fun vs H Q E => ∃ (d : Addr) (b : List Nat), vs = [.ref d] /\ SqL K H d (zm b) /\ (∀ c ∈ b, c < 256) /\ b.length <= 100000 /\ (y8 b = none -> ∀ H', E (.ref t.CN) none H') /\
  ∀ c, y8 b = some c -> (MOSTELEMENTS < c.1.1 * c.1.2.1 -> ∀ H', E (.ref t.CT) none H') /\ (¬ MOSTELEMENTS < c.1.1 * c.1.2.1 -> ∀ a H', zN H H' -> zjh t H' a c -> Q (.ref a) H')
theorem zaG : zn ["data", "bits", "head", "transforms", "colours"] ["data"] (zi zlA) := by trivial
theorem zka {f : Addr} {fd : FuncData} (F : Fun K "read_contents" "read_contents" zlA f fd) (T : Tx K mg t) (T2 : Tx2 K mg t) (Gf : zB P w K mg base 3 "bytes_of_bits" ["data"] (zb1 K t)) (GB : yp P w K mg base 1 t.CB "Bits" ["self", "octets"] (zb4 t)) (Gh : zB P w K mg base 3 "read_head" ["bits"] (zfJ t))
    (Gt : zB P w K mg base 12 "read_transforms" ["bits", "width", "height"] (zav t)) (Gp : zB P w K mg base 11 "read_grouped_picture" ["bits", "width", "height"] (vp t)) (Gl : zD P w K mg base 1 t.CB "left" ["self"] (zeE t)) (GA : yp P w K mg base 1 t.CA "Contents" ["self", "head", "transforms", "colours"] (zbK t)) :
    z0 P w K mg base (CXe P w) 13 f fd ["data"] (ze0 K t) := by
  refine F.okE zaG (fun vs H Q E h => ?_) (fun cdv A outer s H vs Q E hr h => ?_)
  . obtain ⟨d, b, rfl, _⟩ := h
    rfl
  . obtain ⟨d, b, rfl, hS, hb, hlen, kn, kz⟩ := h
    have hr1 : yC 1 _ := hr.mono (by decide)
    have hr2 : yC 2 _ := hr.mono (by decide)
    have hr3 : yC 3 _ := hr.mono (by decide)
    have hr11 : yC 11 _ := hr.mono (by decide)
    refine ⟨_, zb (zp (i := 1) zaG.nd rfl (Or.inl rfl) (pmk GB Lv.of hr2 (za (pd Gf Lv.of hr3 (za (pv 0) ze)) ze)))
      (zb (zp (i := 2) zaG.nd rfl (Or.inl rfl) (pd Gh Lv.of hr3 (za (pv 1) ze)))
      (zb (zp (i := 3) zaG.nd rfl (Or.inl rfl) (pd Gt Lv.of hr (za (pv 1) (za (zy (pv 2) rfl) (za (zy (pv 2) rfl) ze)))))
      (zb (zp (i := 4) zaG.nd rfl (Or.inl rfl) (pd Gp Lv.of hr11 (za (pv 1) (za (zy (pv 3) rfl) (za (zy (pv 2) rfl) ze)))))
      (zb (yh (zw zgC (pm0 Gl Lv.of T.cB hr1 (pv 1)) zg (zE _)) (zf (z7 Lv.of (by rfl) T.gN T.xN)) zI)
      (zf (zr (pmk GA Lv.of hr2 (za (pv 2) (za (pv 3) (za (pv 4) ze)))))))))), ?_⟩
    refine ⟨_, rfl, d, b, rfl, hS, hb, fun ok o H1 s1 ho hH1 => ?_, fun nok => kn (by unfold y8; rw [if_neg nok])⟩
    have hpl : (yy b).length <= 100000 := by
      unfold yy
      rw [List.length_take, List.length_drop]
      omega
    have hpb : ∀ c ∈ yy b, c < 256 := fun c hc => hb c (List.mem_of_mem_drop (List.mem_of_mem_take hc))
    intro p dxp hp hdxp hne
    have neo : o ≠ p := zd hH1 hp
    have neod : o ≠ dxp := zd hH1 hdxp
    refine ⟨p, o, dxp, yy b, rfl, zc, by rw [zk neo, zk neod]; exact hH1, hpb, hpl, fun H3 hb3 kp3 => ⟨rfl, ?_⟩⟩
    have sm3 : zN H1 H3 := zN.made hp hdxp fun b o e ne => kp3 b o e (by simpa using ne)
    have hfresh : H p = none := s1.free hp
    have kr : Run t E ⟨p, o, yy b⟩ H3 (fun c _ H' => (MOSTELEMENTS < c.1.1 * c.1.2.1 -> ∀ H', E (.ref t.CT) none H') /\ (¬ MOSTELEMENTS < c.1.1 * c.1.2.1 -> ∀ a H'', zN H' H'' -> zjh t H'' a c -> Q (.ref a) H'')) (wx (bitsOf (yy b))) := by
      have hres : y8 b = (wx (bitsOf (yy b))).map (fun x => x.1) := by unfold y8; rw [if_pos ok]
      cases hm : wx (bitsOf (yy b)) with
      | none => exact kn (by rw [hres, hm]; rfl)
      | some x =>
        obtain ⟨c, bs'⟩ := x
        obtain ⟨z1, z2⟩ := kz c (by rw [hres, hm]; rfl)
        refine fun H' hb' kp' => ⟨z1, fun nm a H'' sm'' hc => z2 nm a H'' (fun x u e => sm'' x u ?_) hc⟩
        refine kp' x u (sm3 x u (s1 x u e)) ?_
        intro z
        rw [List.mem_singleton.mp z, hfresh] at e
        cases e
    rw [zj5] at kr
    refine ⟨_, rfl, ⟨p, o, yy b⟩, _, rfl, hb3, kr.mid.imp fun s bs1 H4 hm1 hb4 kp4 k4 => ?_⟩
    obtain ⟨w1, h1, al⟩ := s
    have hwh : 0 < w1 /\ 0 < h1 := by
      unfold zbZ at hm1
      obtain ⟨x1, _, _, hm1⟩ := bind_some hm1
      obtain ⟨x2, _, _, hm1⟩ := bind_some hm1
      obtain ⟨x3, _, _, hm1⟩ := bind_some hm1
      obtain ⟨x4, _, _, hm1⟩ := bind_some hm1
      obtain ⟨x5, _, _, hm1⟩ := bind_some hm1
      have := congrArg Prod.fst (Option.some.inj hm1)
      have h1' : x1 + 1 = w1 := congrArg (fun z => z.1) this
      have h2' : x2 + 1 = h1 := congrArg (fun z => z.2.1) this
      omega
    dsimp only at k4
    refine ⟨fun big => ?_, fun nbig ha H5 s5 hha => ?_⟩
    . rw [if_pos big] at k4
      exact (k4.pure hb4).1 big
    . dsimp only at nbig hha
      rw [if_neg nbig] at k4
      have hle : w1 * h1 <= 2 ^ 20 := by
        have : ¬ (1048576 : Nat) < w1 * h1 := nbig
        omega
      have hb5 := hb4.same s5
      have k5 := k4.shift (zF.same s5 _)
      obtain ⟨hdx, hha⟩ := hha
      dsimp only at hha
      refine ⟨_, rfl, _, rfl, ha, t.CH, hdx, _, _, rfl, hha, T2.cH, T2.hW, zmr _ _ _, _, rfl, ha, t.CH, hdx, _, _, rfl, hha, T2.cH, T2.hH, zkD _ _ _, ⟨p, o, yy b⟩, bs1, w1, h1, rfl, hwh.1, hwh.2, hle, hb5, k5.bind fun r bs6 v6 H6 hm6 hb6 kp6 hv6 k6 => ?_⟩
      obtain ⟨r1, w2⟩ := r
      obtain ⟨Fa, had, as, rfl, FA, sts, tok, hw2e, hw2, hw21⟩ := hv6
      dsimp only at FA sts tok hw2e hw2 hw21 k6
      have hha6 : H6 ha = some (.ins t.CH hdx (hdF w1 h1 (.bl (decide (al = 1))))) := kp6.ins hb5 hha (by decide +kernel)
      obtain ⟨fdx, fin⟩ := FA.ins
      refine ⟨_, rfl, _, rfl, Fa.p, t.CF, fdx, _, _, rfl, fin, T2.cF, T2.fW, zdV _ _ _ _, _, rfl, ha, t.CH, hdx, _, _, rfl, hha6, T2.cH, T2.hH, zkD _ _ _, ⟨p, o, yy b⟩, bs6, w2, h1, rfl, hw2, hwh.2, Nat.le_trans (Nat.mul_le_mul_right _ hw21) hle, hb6, k6.bind fun l bs7 v7 H7 hm7 hb7 kp7 hv7 k7 => ?_⟩
      obtain ⟨la, rfl, hla, hll, hok, nla⟩ := hv7
      have hha7 : H7 ha = some (.ins t.CH hdx (hdF w1 h1 (.bl (decide (al = 1))))) := kp7.ins hb6 hha6 (by decide +kernel)
      have FA7 := FA.kept hb6 kp7
      have sts7 : yr t H7 w1 h1 as r1 := sts.kept hb6 kp7
      have k8 : Run t E ⟨p, o, yy b⟩ H7 _ ((need (decide (bs7.length < 8)) >>= fun _ => pure ((w1, h1, al), (r1, l))) bs7) := k7
      obtain ⟨dx8, fs8, e1, e2⟩ := hb7.meth (m := "left")
      refine ⟨_, rfl, p, dx8, fs8, rfl, e1, e2, ⟨p, o, yy b⟩, bs7, rfl, hb7, _, _, rfl, rfl, _, rfl, yG (fun g => ?_) (fun g => ?_)⟩
      . have g' : (8 : Int) <= ((bs7.length : Nat) : Int) := of_decide_eq_true g
        exact k8.need.2 (decide_eq_false (by omega)) _
      . have g' : ¬ (8 : Int) <= ((bs7.length : Nat) : Int) := fun z => g (decide_eq_true z)
        have k9 := ((k8.need.1 (decide_eq_true (by omega))).pure hb7).2 nbig
        refine ⟨_, rfl, _, rfl, _, rfl, ?_⟩
        intro pa dxa hpa hdxa hnea
        refine ⟨pa, dxa, ha, Fa.p, la, rfl, zc, fun H9 e9 kp9 => ⟨rfl, ?_⟩⟩
        have sm9 : zN H7 H9 := zN.made hpa hdxa fun b o e ne => kp9 b o e (by simpa using ne)
        refine k9 pa H9 sm9 ⟨⟨dxa, ha, Fa, had, as, la, e9, ⟨hdx, sm9 _ _ hha7⟩, ?_, sts7.same sm9, sm9 _ _ hla⟩, tok, ?_, hok, hwh.1, hwh.2⟩
        . rw [hw2e] at FA7
          exact FA7.same sm9
        . show l.length = jO w1 r1 * h1
          rw [hll, hw2e]
end
end Lk
end
section
namespace Lk
open PySem PySem.Spec PyProof.Rows L2
open Sn15 (Px add mean far clamp signed delta plus)
abbrev zau : Stmt := top 57
abbrev zkR : Stmt := top 58
abbrev wT : Stmt := top 59
abbrev zk6 : Stmt := top 63
abbrev zg7 : Stmt := top 64
abbrev zeI : Stmt := top 65
abbrev zgD : Stmt := top 66
abbrev zcr : Stmt := top 83
structure Tx3 (K : PySem.W.Frag) (mg : Str -> Option Value) (t : Ad) : Prop where
  gR : mg "TooLittleRoom" = some (.ref t.CR)
  xR : PySem.W.excIn K t.CR zfK "Exception.__new__" = true
  gO : mg "OutOfRange" = some (.ref t.CO)
  xO : PySem.W.excIn K t.CO zfK "Exception.__new__" = true
  abs : mg "abs" = none
  rev : mg "reversed" = none
  kBLACK : ∃ u, mg "BLACK" = some u /\ yq (.int 4278190080) u
  kM3 : ∃ u, mg "ALL_BUT_HIGHEST" = some u /\ yq (.int 2139062143) u
  kTLR : ∃ u, mg "TOO_LITTLE_ROOM" = some u /\ yq (.int (-1)) u
  kOOR : ∃ u, mg "OUT_OF_RANGE" = some u /\ yq (.int (-2)) u
  kGM : ∃ u, mg "GREATEST_MOST" = some u /\ yq (.int 4194304) u
  kSH : ∃ a, mg "SHIFTS" = some (.ref a) /\ ∀ H, SqT K H a (zm [24, 16, 8, 0])
theorem zaN : V.int 4278190080 = nat Sn15.black.word := congrArg V.int (by decide +kernel)
theorem ziW (a b : Nat) : Builtin.bitXor (a : Int) (b : Int) = ((a ^^^ b : Nat) : Int) := by
  rw [bitXor_and, yS]
  have := kC a b
  omega
theorem zhZ {p q : Px} (hp : yf p) (hq : yf q) : Builtin.bitAnd ((p.word : Nat) : Int) ((q.word : Nat) : Int) + Builtin.bitAnd (Builtin.bitXor ((p.word : Nat) : Int) ((q.word : Nat) : Int) / 2 ^ (1 : Int).toNat) 2139062143 = (((mean p q).word : Nat) : Int) := by
  have e1 : (2139062143 : Int) = ((M3 : Nat) : Int) := rfl
  have e2 : ∀ n : Nat, ((n : Nat) : Int) / 2 ^ (1 : Int).toNat = ((n / 2 : Nat) : Int) := fun n => by
    show (n : Int) / 2 = _
    omega
  rw [e1, yS, ziW, e2, yS, <- Int.natCast_add, zae hp hq]
def y4 (p : Px) : Nat -> Nat
  | 0 => p.a
  | 1 => p.r
  | 2 => p.g
  | _ => p.b
def zhj : Nat -> Nat
  | 0 => 24
  | 1 => 16
  | 2 => 8
  | _ => 0
theorem zfV (i : Nat) : zhj i <= 24 := by
  match i with
  | 0 => decide
  | 1 => decide
  | 2 => decide
  | _ + 3 => show (0 : Nat) <= 24; decide
theorem zbz {p : Px} (h : yf p) (i : Nat) : y4 p i < 256 := by
  match i with
  | 0 => exact h.a
  | 1 => exact h.r
  | 2 => exact h.g
  | _ + 3 => exact h.b
theorem zdm {p : Px} (h : yf p) (i : Nat) : p.word / 2 ^ zhj i % 256 = y4 p i := by
  obtain ⟨h1, h2, h3, h4⟩ := h
  match i with
  | 0 => show p.word / 16777216 % 256 = p.a; unfold Px.word; omega
  | 1 => show p.word / 65536 % 256 = p.r; unfold Px.word; omega
  | 2 => show p.word / 256 % 256 = p.g; unfold Px.word; omega
  | _ + 3 => show p.word / 1 % 256 = p.b; unfold Px.word; omega
theorem xV {p : Px} (h : yf p) (i : Nat) : Builtin.bitAnd (((p.word : Nat) : Int) / 2 ^ ((zhj i : Nat) : Int).toNat) 255 = ((y4 p i : Nat) : Int) := by
  rw [bitAnd_m8, Int.toNat_natCast, two_pow_int, <- Int.natCast_ediv, <- zdm h i]
  omega
theorem va {p : Px} (h : yf p) : Builtin.bitAnd (((p.word : Nat) : Int) / 2 ^ (16 : Int).toNat) 255 = ((p.r : Nat) : Int) := xV h 1
theorem je {p : Px} (h : yf p) : Builtin.bitAnd ((p.word : Nat) : Int) 255 = ((p.b : Nat) : Int) := by
  rw [bitAnd_m8, <- show y4 p 3 = p.b from rfl, <- zdm h 3]
  show ((p.word : Nat) : Int) % 256 = ((p.word / 1 % 256 : Nat) : Int)
  omega
theorem kI {p : Px} (h : yf p) : ((p.word : Nat) : Int) / 2 ^ (24 : Int).toNat = ((p.a : Nat) : Int) := by
  obtain ⟨h1, h2, h3, h4⟩ := h
  show ((p.word : Nat) : Int) / 16777216 = _
  unfold Px.word
  omega
section
variable {P : Program} {w : World} {K : PySem.W.Frag} {mg : Str -> Option Value} {base : Heap} {t : Ad}
def yO : Sp := fun vs H Q _ => ∃ p q : Px, vs = [nat p.word, nat q.word] /\ yf p /\ yf q /\ Q (nat (mean p q).word) H
theorem zfv : zn ["one", "other"] ["one", "other"] (zi zau) := by trivial
theorem zdZ {f : Addr} {fd : FuncData} (F : Fun K "half_sum" "half_sum" zau f fd) (T3 : Tx3 K mg t) : z0 P w K mg base (CXe P w) 1 f fd ["one", "other"] yO := by
  obtain ⟨u3, g3, r3⟩ := T3.kM3
  refine F.okE zfv (fun vs H Q E h => ?_) (fun cdv A outer s H vs Q E hr h => ?_)
  . obtain ⟨p, q, rfl, _⟩ := h
    rfl
  . obtain ⟨p, q, rfl, hp, hq, k⟩ := h
    refine ⟨_, zf (zr (zl zL (zl zW (pv 0) (pv 1)) (zl zW (zl ya (zl zmo (pv 0) (pv 1)) zg) (zH (by rfl) g3 r3)))), ?_⟩
    refine ⟨_, rfl, _, rfl, _, _, rfl, rfl, _, rfl, _, rfl, _, _, rfl, rfl, _, _, rfl, rfl, (by show (0 : Int) <= 1; decide), _, _, rfl, rfl, _, _, rfl, rfl, ?_⟩
    show Q (.int (Builtin.bitAnd ((p.word : Nat) : Int) ((q.word : Nat) : Int) + Builtin.bitAnd (Builtin.bitXor ((p.word : Nat) : Int) ((q.word : Nat) : Int) / 2 ^ (1 : Int).toNat) 2139062143)) H
    rw [zhZ hp hq]
    exact k
def zfF : Sp := fun vs H Q _ => ∃ p q : Px, vs = [nat p.word, nat q.word] /\ yf p /\ yf q /\ Q (nat (far p q)) H
theorem zmy : zn ["one", "other"] ["one", "other"] (zi zkR) := by trivial
theorem zlt (p q : Px) : (if (p.a : Int) - (q.a : Int) < 0 then -((p.a : Int) - (q.a : Int)) else (p.a : Int) - (q.a : Int)) + (if (p.r : Int) - (q.r : Int) < 0 then -((p.r : Int) - (q.r : Int)) else (p.r : Int) - (q.r : Int)) +
    (if (p.g : Int) - (q.g : Int) < 0 then -((p.g : Int) - (q.g : Int)) else (p.g : Int) - (q.g : Int)) + (if (p.b : Int) - (q.b : Int) < 0 then -((p.b : Int) - (q.b : Int)) else (p.b : Int) - (q.b : Int)) = ((far p q : Nat) : Int) := by
  have one : ∀ x y : Nat, (if (x : Int) - (y : Int) < 0 then -((x : Int) - (y : Int)) else (x : Int) - (y : Int)) = (((x - y) + (y - x) : Nat) : Int) := fun x y => by
    by_cases h : (x : Int) - (y : Int) < 0
    . rw [if_pos h]; omega
    . rw [if_neg h]; omega
  rw [one, one, one, one]
  unfold far
  dsimp only
  omega
theorem zlk {f : Addr} {fd : FuncData} (F : Fun K "difference" "difference" zkR f fd) (T3 : Tx3 K mg t) : z0 P w K mg base (CXe P w) 1 f fd ["one", "other"] zfF := by
  refine F.okE zmy (fun vs H Q E h => ?_) (fun cdv A outer s H vs Q E hr h => ?_)
  . obtain ⟨p, q, rfl, _⟩ := h
    rfl
  . obtain ⟨p, q, rfl, hp, hq, k⟩ := h
    refine ⟨_, zf (zr (zl zL (zl zL (zl zL
      (zG jZ (by rfl) T3.abs boot_abs (za (zl yA (zl ya (pv 0) zg) (zl ya (pv 1) zg)) ze))
      (zG jZ (by rfl) T3.abs boot_abs (za (zl yA (zl zW (zl ya (pv 0) zg) zg) (zl zW (zl ya (pv 1) zg) zg)) ze)))
      (zG jZ (by rfl) T3.abs boot_abs (za (zl yA (zl zW (zl ya (pv 0) zg) zg) (zl zW (zl ya (pv 1) zg) zg)) ze)))
      (zG jZ (by rfl) T3.abs boot_abs (za (zl yA (zl zW (pv 0) zg) (zl zW (pv 1) zg)) ze)))), ?_⟩
    refine ⟨_, rfl, _, _, rfl, rfl, (by show (0 : Int) <= 24; decide), _, rfl, _, _, rfl, rfl, (by show (0 : Int) <= 24; decide), _, _, rfl, rfl, _, rfl, ?_⟩
    refine ⟨_, rfl, _, _, rfl, rfl, (by show (0 : Int) <= 16; decide), _, _, rfl, rfl, _, rfl, _, _, rfl, rfl, (by show (0 : Int) <= 16; decide), _, _, rfl, rfl, _, _, rfl, rfl, _, rfl, _, _, rfl, rfl, ?_⟩
    refine ⟨_, rfl, _, _, rfl, rfl, (by show (0 : Int) <= 8; decide), _, _, rfl, rfl, _, rfl, _, _, rfl, rfl, (by show (0 : Int) <= 8; decide), _, _, rfl, rfl, _, _, rfl, rfl, _, rfl, _, _, rfl, rfl, ?_⟩
    refine ⟨_, rfl, _, _, rfl, rfl, _, rfl, _, _, rfl, rfl, _, _, rfl, rfl, _, rfl, _, _, rfl, rfl, ?_⟩
    dsimp only
    rw [kI hp, kI hq, va hp, va hq, yD hp, yD hq, je hp, je hq, zlt p q]
    exact k
def jo : Sp := fun vs H Q _ => ∃ z : Int, vs = [.int z] /\ Q (nat (clamp z)) H
theorem zfM : zn ["part"] ["part"] (zi wT) := by trivial
theorem zdK {f : Addr} {fd : FuncData} (F : Fun K "brought_in" "brought_in" wT f fd) : z0 P w K mg base (CXe P w) 1 f fd ["part"] jo := by
  refine F.okE zfM (fun vs H Q E h => ?_) (fun cdv A outer s H vs Q E hr h => ?_)
  . obtain ⟨z, rfl, _⟩ := h
    rfl
  . obtain ⟨z, rfl, k⟩ := h
    refine ⟨_, zb (yh (zw jW (pv 0) zg (zE _)) (zf (zr zg)) zI) (zb (yh (zw qP (pv 0) zg (zE _)) (zf (zr zg)) zI) (zf (zr (pv 0)))), ?_⟩
    unfold clamp at k
    refine ⟨_, rfl, _, _, rfl, rfl, _, rfl, yG (fun e => ?_) (fun e => ?_)⟩
    . have e' : z < 0 := of_decide_eq_true e
      rw [if_pos e'] at k
      exact k
    . have e' : ¬ z < 0 := fun y => e (decide_eq_true y)
      rw [if_neg e'] at k
      refine ⟨_, rfl, _, _, rfl, rfl, _, rfl, yG (fun g => ?_) (fun g => ?_)⟩
      . have g' : 255 < z := of_decide_eq_true g
        rw [if_pos g'] at k
        exact k
      . have g' : ¬ 255 < z := fun y => g (decide_eq_true y)
        rw [if_neg g'] at k
        have ez : nat z.toNat = V.int z := congrArg V.int (by omega)
        rw [ez] at k
        exact ⟨_, rfl, k⟩
def wy : Sp := fun vs H Q _ => ∃ z : Int, vs = [.int z] /\ Q (.int (z.tdiv 2)) H
theorem zhQ : zn ["number"] ["number"] (zi zcr) := by trivial
theorem zfp {f : Addr} {fd : FuncData} (F : Fun K "halved_toward_zero" "halved_toward_zero" zcr f fd) : z0 P w K mg base (CXe P w) 1 f fd ["number"] wy := by
  refine F.okE zhQ (fun vs H Q E h => ?_) (fun cdv A outer s H vs Q E hr h => ?_)
  . obtain ⟨z, rfl, _⟩ := h
    rfl
  . obtain ⟨z, rfl, k⟩ := h
    refine ⟨_, zf (zr (xP (zw zgC (pv 0) zg (zE _)) (zl qJ (pv 0) zg) (zl0 zi9 (zl qJ (zl0 zi9 (pv 0)) zg)))), ?_⟩
    refine ⟨_, rfl, _, _, rfl, rfl, _, rfl, yG (fun e => ?_) (fun e => ?_)⟩
    . have e' : 0 <= z := of_decide_eq_true e
      refine ⟨_, rfl, _, _, rfl, rfl, ⟨by decide, by decide⟩, ?_⟩
      have ez : z.tdiv 2 = z / 2 := Int.tdiv_eq_ediv_of_nonneg e'
      rw [ez] at k
      exact k
    . have e' : ¬ 0 <= z := fun y => e (decide_eq_true y)
      refine ⟨_, rfl, _, rfl, _, _, rfl, rfl, ⟨by decide, by decide⟩, _, rfl, ?_⟩
      have ez : z.tdiv 2 = -(-z / 2) := by
        have h1 : (-z).tdiv 2 = -z / 2 := Int.tdiv_eq_ediv_of_nonneg (by omega)
        rw [Int.neg_tdiv] at h1
        omega
      rw [ez] at k
      exact k
def zgL : Sp := fun vs H Q _ => ∃ n : Nat, vs = [nat n] /\ Q (.int (signed n)) H
theorem zmT : zn ["octet"] ["octet"] (zi zk6) := by trivial
theorem zk5 {f : Addr} {fd : FuncData} (F : Fun K "with_sign" "with_sign" zk6 f fd) : z0 P w K mg base (CXe P w) 1 f fd ["octet"] zgL := by
  refine F.okE zmT (fun vs H Q E h => ?_) (fun cdv A outer s H vs Q E hr h => ?_)
  . obtain ⟨n, rfl, _⟩ := h
    rfl
  . obtain ⟨n, rfl, k⟩ := h
    refine ⟨_, zf (zr (xP (zw qP (pv 0) zg (zE _)) (zl yA (pv 0) zg) (pv 0))), ?_⟩
    unfold signed at k
    refine ⟨_, rfl, _, _, rfl, rfl, _, rfl, yG (fun e => ?_) (fun e => ?_)⟩
    . have e' : (127 : Int) < (n : Int) := of_decide_eq_true e
      rw [if_neg (by omega)] at k
      exact ⟨_, rfl, _, _, rfl, rfl, k⟩
    . have e' : ¬ (127 : Int) < (n : Int) := fun y => e (decide_eq_true y)
      rw [if_pos (by omega)] at k
      exact ⟨_, rfl, k⟩
def zcl : Sp := fun vs H Q _ => ∃ n m : Nat, vs = [nat n, nat m] /\ n < 256 /\ m < 256 /\ Q (.int (delta n m)) H
theorem zbc {n : Nat} (h : n < 256) : -128 <= signed n /\ signed n <= 127 := by unfold signed; split <;> omega
theorem zk0 : zn ["factor", "part"] ["factor", "part"] (zi zg7) := by trivial
theorem zid {f : Addr} {fd : FuncData} (F : Fun K "share" "share" zg7 f fd) (Gs : zB P w K mg base 1 "with_sign" ["octet"] zgL) : z0 P w K mg base (CXe P w) 2 f fd ["factor", "part"] zcl := by
  refine F.okE zk0 (fun vs H Q E h => ?_) (fun cdv A outer s H vs Q E hr h => ?_)
  . obtain ⟨n, m, rfl, _⟩ := h
    rfl
  . obtain ⟨n, m, rfl, hn, hm, k⟩ := h
    refine ⟨_, zf (zr (zl qJ (zl xA (pd Gs Lv.of hr (za (pv 0) ze)) (pd Gs Lv.of hr (za (pv 1) ze))) zg)), ?_⟩
    have hs := zbc hn
    exact ⟨_, rfl, n, rfl, _, rfl, m, rfl, _, _, rfl, rfl, .inl ⟨by omega, by omega⟩, _, _, rfl, rfl, ⟨by decide, by decide⟩, k⟩
def zcq : Sp := fun vs H Q _ => ∃ p m : Px, vs = [nat p.word, nat m.word] /\ yf p /\ yf m /\ Q (nat (zao m p).word) H
theorem wI : zn ["colour", "factors", "green", "red", "blue"] ["colour", "factors"] (zi zeI) := by trivial
theorem zdw (n : Nat) (z : Int) : ((n : Int) + z) % 256 = ((plus n z : Nat) : Int) := by unfold plus; omega
theorem zgv {p : Px} (h : yf p) (z : Int) : Builtin.bitAnd (((p.word : Nat) : Int) / 2 ^ (16 : Int).toNat + z) 255 = ((plus p.r z : Nat) : Int) := by
  rw [bitAnd_m8, <- zdw]
  have e : ((p.word : Nat) : Int) / 2 ^ (16 : Int).toNat = (p.a : Int) * 256 + (p.r : Int) := by
    obtain ⟨h1, h2, h3, h4⟩ := h
    show ((p.word : Nat) : Int) / 65536 = _
    unfold Px.word
    omega
  rw [e]
  omega
theorem zed {p : Px} (h : yf p) (y z : Int) : Builtin.bitAnd (((p.word : Nat) : Int) + y + z) 255 = ((plus p.b (y + z) : Nat) : Int) := by
  rw [bitAnd_m8, <- zdw]
  have e : ((p.word : Nat) : Int) = (((p.a : Int) * 256 + (p.r : Int)) * 256 + (p.g : Int)) * 256 + (p.b : Int) := by
    unfold Px.word
    omega
  rw [e]
  omega
theorem zd1 {p : Px} (h : yf p) {r b : Nat} (hr : r < 256) (hb : b < 256) : Builtin.bitOr (Builtin.bitOr (Builtin.bitAnd ((p.word : Nat) : Int) 4278255360) ((r : Int) * 2 ^ (16 : Int).toNat)) (b : Int) = (((⟨p.a, r, p.g, b⟩ : Px).word : Nat) : Int) := by
  obtain ⟨h1, h2, h3, h4⟩ := h
  have e1 : (4278255360 : Int) = ((M1 : Nat) : Int) := rfl
  have e2 : (r : Int) * 2 ^ (16 : Int).toNat = ((W4 0 r 0 0 : Nat) : Int) := by
    show (r : Int) * 65536 = _
    unfold W4
    omega
  have e3 : (b : Int) = ((W4 0 0 0 b : Nat) : Int) := by unfold W4; omega
  rw [e1, e2, e3, yS, vc p, ziu h2 h3 h4, xK, kG (by omega) (by omega) (by omega) (by omega) (by omega) (by omega), xK, kG (by simp; omega) (by simp; omega) (by simp) (by omega) (by omega) (by omega)]
  simp only [Nat.or_zero, Nat.zero_or]
  rw [Nat.mod_eq_of_lt h1]
  rfl
theorem zhS {f : Addr} {fd : FuncData} (F : Fun K "with_factors" "with_factors" zeI f fd) (T2 : Tx2 K mg t) (Gs : zB P w K mg base 2 "share" ["factor", "part"] zcl) : z0 P w K mg base (CXe P w) 3 f fd ["colour", "factors"] zcq := by
  obtain ⟨u1, g1, r1⟩ := T2.kM1
  refine F.okE wI (fun vs H Q E h => ?_) (fun cdv A outer s H vs Q E hr h => ?_)
  . obtain ⟨p, m, rfl, _⟩ := h
    rfl
  . obtain ⟨p, m, rfl, hp, hm, k⟩ := h
    refine ⟨_, zb (zp (i := 2) wI.nd rfl (Or.inl rfl) (zl zW (zl ya (pv 0) zg) zg))
      (zb (zp (i := 3) wI.nd rfl (Or.inl rfl) (zl zW (zl zL (zl ya (pv 0) zg) (pd Gs Lv.of hr (za (zl zW (pv 1) zg) (za (pv 2) ze)))) zg))
      (zb (zp (i := 4) wI.nd rfl (Or.inl rfl) (zl zW (zl zL (zl zL (pv 0) (pd Gs Lv.of hr (za (zl zW (zl ya (pv 1) zg) zg) (za (pv 2) ze)))) (pd Gs Lv.of hr (za (zl zW (zl ya (pv 1) zg) zg) (za (pv 3) ze)))) zg))
      (zf (zr (zl vx (zl vx (zl zW (pv 0) (zH (by rfl) g1 r1)) (zl yT (pv 3) zg)) (pv 4)))))), ?_⟩
    refine ⟨_, rfl, _, _, rfl, rfl, (by show (0 : Int) <= 8; decide), _, _, rfl, rfl, ?_⟩
    dsimp -proj only
    rw [yD hp]
    refine ⟨_, rfl, _, _, rfl, rfl, (by show (0 : Int) <= 16; decide), _, rfl, _, _, rfl, rfl, _, rfl, m.b, p.g, ?_, hm.b, hp.g, _, _, rfl, rfl, _, _, rfl, rfl, ?_⟩
    . dsimp only
      rw [je hm]
      rfl
    dsimp -proj only
    rw [zgv hp]
    refine ⟨_, rfl, _, rfl, _, _, rfl, rfl, (by show (0 : Int) <= 8; decide), _, _, rfl, rfl, _, rfl, m.g, p.g, ?_, hm.g, hp.g, _, _, rfl, rfl, _, rfl, _, _, rfl, rfl, (by show (0 : Int) <= 16; decide), _, _, rfl, rfl, _, rfl, m.r, plus p.r (delta m.b p.g), ?_, hm.r, jG _ _, _, _, rfl, rfl, _, _, rfl, rfl, ?_⟩
    . dsimp only
      rw [yD hm]
      rfl
    . dsimp only
      rw [va hm]
      rfl
    dsimp -proj only
    rw [zed hp]
    refine ⟨_, rfl, _, _, rfl, rfl, _, rfl, _, _, rfl, rfl, ⟨by decide, by decide, ?_⟩, _, _, rfl, rfl, _, rfl, _, _, rfl, rfl, ?_⟩
    . have := jG p.r (delta m.b p.g)
      omega
    dsimp only
    rw [zd1 hp (jG _ _) (jG _ _)]
    exact k
def zcB : Sp := fun vs H Q _ => ∃ p : Px, vs = [nat p.word] /\ yf p /\ Q (nat (jp p).word) H
theorem zgy : zn ["colour", "green"] ["colour"] (zi zgD) := by trivial
theorem ziM {f : Addr} {fd : FuncData} (F : Fun K "with_green" "with_green" zgD f fd) (Ga : zB P w K mg base 1 "added" ["one", "other"] jF) : z0 P w K mg base (CXe P w) 2 f fd ["colour"] zcB := by
  refine F.okE zgy (fun vs H Q E h => ?_) (fun cdv A outer s H vs Q E hr h => ?_)
  . obtain ⟨p, rfl, _⟩ := h
    rfl
  . obtain ⟨p, rfl, hp, k⟩ := h
    refine ⟨_, zb (zp (i := 1) zgy.nd rfl (Or.inl rfl) (zl zW (zl ya (pv 0) zg) zg))
      (zf (zr (pd Ga Lv.of hr (za (pv 0) (za (zl vx (zl yT (pv 1) zg) (pv 1)) ze))))), ?_⟩
    refine ⟨_, rfl, _, _, rfl, rfl, (by show (0 : Int) <= 8; decide), _, _, rfl, rfl, ?_⟩
    dsimp -proj only
    rw [yD hp]
    have hg := hp.g
    refine ⟨_, rfl, _, rfl, _, _, rfl, rfl, ⟨by decide, by decide, by omega⟩, _, rfl, _, _, rfl, rfl, p, ⟨0, p.g, 0, p.g⟩, ?_, hp, ⟨by show 0 < 256; decide, hg, by show 0 < 256; decide, hg⟩, ?_⟩
    . dsimp only
      have e : Builtin.bitOr ((p.g : Int) * 2 ^ (16 : Int).toNat) (p.g : Int) = (((⟨0, p.g, 0, p.g⟩ : Px).word : Nat) : Int) := by
        have e2 : (p.g : Int) * 2 ^ (16 : Int).toNat = ((p.g * 2 ^ 16 : Nat) : Int) := by
          show (p.g : Int) * 65536 = _
          omega
        rw [e2, ka (by omega)]
        unfold Px.word
        dsimp only
        omega
      rw [e]
      rfl
    . rw [<- zbH hp]
      exact k
end
end Lk
end
section
namespace Lk
open PySem PySem.Spec PyProof.Rows L2
open Sn15 (Px add mean far clamp foretold black each half full)
abbrev zhm : Stmt := top 69
abbrev zgo : Stmt := top 70
abbrev zeD : Stmt := top 71
abbrev zgV : Stmt := top 72
abbrev zhq : Stmt := top 73
abbrev zeV : Stmt := top 74
abbrev zeP : Stmt := top 75
abbrev zfQ : Stmt := top 76
abbrev zg6 : Stmt := top 77
abbrev zgO : Stmt := top 78
abbrev zbW : Stmt := top 79
abbrev zbS : Stmt := top 80
abbrev zb7 : Stmt := top 81
abbrev zbV : Stmt := top 82
abbrev ym : List Str := ["left", "top", "top_right", "top_left"]
def xa (i : Nat) : Sp := fun vs H Q _ => ∃ l u tr tl : Px, vs = [nat l.word, nat u.word, nat tr.word, nat tl.word] /\ yf l /\ yf u /\ yf tr /\ yf tl /\ Q (nat (foretold i l u tr tl).word) H
def zaV (p : Px) (i : Nat) : Nat := W4 (if 0 < i then p.a else 0) (if 1 < i then p.r else 0) (if 2 < i then p.g else 0) (if 3 < i then p.b else 0)
theorem vT (p : Px) : zaV p 0 = 0 := by unfold zaV W4; simp
theorem zjZ (p : Px) : zaV p 4 = p.word := by unfold zaV W4 Px.word; simp
theorem zc5 {p : Px} (h : yf p) {i : Nat} (hi : i < 4) : Builtin.bitOr ((zaV p i : Nat) : Int) (((y4 p i : Nat) : Int) * 2 ^ ((zhj i : Nat) : Int).toNat) = ((zaV p (i + 1) : Nat) : Int) := by
  obtain ⟨h1, h2, h3, h4⟩ := h
  have e : ∀ a b : Nat, (a : Int) * 2 ^ ((b : Nat) : Int).toNat = ((a * 2 ^ b : Nat) : Int) := fun a b => by
    rw [Int.toNat_natCast, two_pow_int, <- Int.natCast_mul]
  rw [e]
  match i, hi with
  | 0, _ =>
    have q : y4 p 0 * 2 ^ zhj 0 = W4 p.a 0 0 0 := by show p.a * 16777216 = _; unfold W4; omega
    rw [q, xK]
    show ((W4 0 0 0 0 ||| W4 p.a 0 0 0 : Nat) : Int) = ((W4 p.a 0 0 0 : Nat) : Int)
    rw [kG (by omega) (by omega) (by omega) (by omega) (by omega) (by omega)]
    simp only [Nat.or_zero, Nat.zero_or]
  | 1, _ =>
    have q : y4 p 1 * 2 ^ zhj 1 = W4 0 p.r 0 0 := by show p.r * 65536 = _; unfold W4; omega
    rw [q, xK]
    show ((W4 p.a 0 0 0 ||| W4 0 p.r 0 0 : Nat) : Int) = ((W4 p.a p.r 0 0 : Nat) : Int)
    rw [kG (by omega) (by omega) (by omega) (by omega) (by omega) (by omega)]
    simp only [Nat.or_zero, Nat.zero_or]
  | 2, _ =>
    have q : y4 p 2 * 2 ^ zhj 2 = W4 0 0 p.g 0 := by show p.g * 256 = _; unfold W4; omega
    rw [q, xK]
    show ((W4 p.a p.r 0 0 ||| W4 0 0 p.g 0 : Nat) : Int) = ((W4 p.a p.r p.g 0 : Nat) : Int)
    rw [kG (by omega) (by omega) (by omega) (by omega) (by omega) (by omega)]
    simp only [Nat.or_zero, Nat.zero_or]
  | 3, _ =>
    have q : y4 p 3 * 2 ^ zhj 3 = W4 0 0 0 p.b := by show p.b * 1 = _; unfold W4; omega
    rw [q, xK]
    show ((W4 p.a p.r p.g 0 ||| W4 0 0 0 p.b : Nat) : Int) = ((W4 p.a p.r p.g p.b : Nat) : Int)
    rw [kG (by omega) (by omega) (by omega) (by omega) (by omega) (by omega)]
    simp only [Nat.or_zero, Nat.zero_or]
theorem vI {i : Nat} {x : V} (h : (zm [24, 16, 8, 0])[i]? = some x) : i < 4 /\ x = nat (zhj i) := by
  obtain ⟨n, hn, rfl⟩ := yQ h
  have hi : i < 4 := (List.getElem?_eq_some_iff.mp hn).1
  refine ⟨hi, congrArg nat ?_⟩
  match i, hi, hn with
  | 0, _, hn => exact (Option.some.inj hn).symm
  | 1, _, hn => exact (Option.some.inj hn).symm
  | 2, _, hn => exact (Option.some.inj hn).symm
  | 3, _, hn => exact (Option.some.inj hn).symm
theorem zgE (l u tl : Px) (i : Nat) : clamp (((y4 l i : Nat) : Int) + ((y4 u i : Nat) : Int) - ((y4 tl i : Nat) : Int)) = y4 ⟨full l.a u.a tl.a, full l.r u.r tl.r, full l.g u.g tl.g, full l.b u.b tl.b⟩ i := by
  match i with
  | 0 => rfl
  | 1 => rfl
  | 2 => rfl
  | _ + 3 => rfl
theorem zha (m tl : Px) (i : Nat) : clamp (((y4 m i : Nat) : Int) + (((y4 m i : Nat) : Int) - ((y4 tl i : Nat) : Int)).tdiv 2) = y4 (each half m tl) i := by
  match i with
  | 0 => rfl
  | 1 => rfl
  | 2 => rfl
  | _ + 3 => rfl
section
variable {P : Program} {w : World} {K : PySem.W.Frag} {mg : Str -> Option Value} {base : Heap} {t : Ad}
theorem zlG : zn ym ym (zi zhm) := by trivial
theorem zi1 {f : Addr} {fd : FuncData} (F : Fun K "mode_0" "mode_0" zhm f fd) (T3 : Tx3 K mg t) : z0 P w K mg base (CXe P w) 2 f fd ym (xa 0) := by
  obtain ⟨uB, gB, rB⟩ := T3.kBLACK
  refine F.okE zlG (fun vs H Q E h => ?_) (fun cdv A outer s H vs Q E hr h => ?_)
  . obtain ⟨l, u, tr, tl, rfl, _⟩ := h
    rfl
  . obtain ⟨l, u, tr, tl, rfl, hl, hu, htr, htl, k⟩ := h
    refine ⟨_, zf (zr (zH (by rfl) gB rB)), ?_⟩
    have k' : Q (nat black.word) H := k
    rw [<- zaN] at k'
    exact k'
theorem zko : zn ym ym (zi zgo) := by trivial
theorem ziv {f : Addr} {fd : FuncData} (F : Fun K "mode_1" "mode_1" zgo f fd) : z0 P w K mg base (CXe P w) 2 f fd ym (xa 1) := by
  refine F.okE zko (fun vs H Q E h => ?_) (fun cdv A outer s H vs Q E hr h => ?_)
  . obtain ⟨l, u, tr, tl, rfl, _⟩ := h
    rfl
  . obtain ⟨l, u, tr, tl, rfl, hl, hu, htr, htl, k⟩ := h
    refine ⟨_, zf (zr (pv 0)), ?_⟩
    exact ⟨_, rfl, k⟩
theorem zjs : zn ym ym (zi zeD) := by trivial
theorem zhK {f : Addr} {fd : FuncData} (F : Fun K "mode_2" "mode_2" zeD f fd) : z0 P w K mg base (CXe P w) 2 f fd ym (xa 2) := by
  refine F.okE zjs (fun vs H Q E h => ?_) (fun cdv A outer s H vs Q E hr h => ?_)
  . obtain ⟨l, u, tr, tl, rfl, _⟩ := h
    rfl
  . obtain ⟨l, u, tr, tl, rfl, hl, hu, htr, htl, k⟩ := h
    refine ⟨_, zf (zr (pv 1)), ?_⟩
    exact ⟨_, rfl, k⟩
theorem zj1 : zn ym ym (zi zgV) := by trivial
theorem zhV {f : Addr} {fd : FuncData} (F : Fun K "mode_3" "mode_3" zgV f fd) : z0 P w K mg base (CXe P w) 2 f fd ym (xa 3) := by
  refine F.okE zj1 (fun vs H Q E h => ?_) (fun cdv A outer s H vs Q E hr h => ?_)
  . obtain ⟨l, u, tr, tl, rfl, _⟩ := h
    rfl
  . obtain ⟨l, u, tr, tl, rfl, hl, hu, htr, htl, k⟩ := h
    refine ⟨_, zf (zr (pv 2)), ?_⟩
    exact ⟨_, rfl, k⟩
theorem zkE : zn ym ym (zi zhq) := by trivial
theorem ziJ {f : Addr} {fd : FuncData} (F : Fun K "mode_4" "mode_4" zhq f fd) : z0 P w K mg base (CXe P w) 2 f fd ym (xa 4) := by
  refine F.okE zkE (fun vs H Q E h => ?_) (fun cdv A outer s H vs Q E hr h => ?_)
  . obtain ⟨l, u, tr, tl, rfl, _⟩ := h
    rfl
  . obtain ⟨l, u, tr, tl, rfl, hl, hu, htr, htl, k⟩ := h
    refine ⟨_, zf (zr (pv 3)), ?_⟩
    exact ⟨_, rfl, k⟩
theorem zly : zn ym ym (zi zeV) := by trivial
theorem zim {f : Addr} {fd : FuncData} (F : Fun K "mode_5" "mode_5" zeV f fd) (Gh : zB P w K mg base 1 "half_sum" ["one", "other"] yO) : z0 P w K mg base (CXe P w) 2 f fd ym (xa 5) := by
  refine F.okE zly (fun vs H Q E h => ?_) (fun cdv A outer s H vs Q E hr h => ?_)
  . obtain ⟨l, u, tr, tl, rfl, _⟩ := h
    rfl
  . obtain ⟨l, u, tr, tl, rfl, hl, hu, htr, htl, k⟩ := h
    refine ⟨_, zf (zr (pd Gh Lv.of hr (za (pd Gh Lv.of hr (za (pv 0) (za (pv 2) ze))) (za (pv 1) ze)))), ?_⟩
    exact ⟨_, rfl, _, rfl, l, tr, rfl, hl, htr, _, rfl, mean l tr, u, rfl, y0 hl htr, hu, k⟩
theorem zkU : zn ym ym (zi zeP) := by trivial
theorem zia {f : Addr} {fd : FuncData} (F : Fun K "mode_6" "mode_6" zeP f fd) (Gh : zB P w K mg base 1 "half_sum" ["one", "other"] yO) : z0 P w K mg base (CXe P w) 2 f fd ym (xa 6) := by
  refine F.okE zkU (fun vs H Q E h => ?_) (fun cdv A outer s H vs Q E hr h => ?_)
  . obtain ⟨l, u, tr, tl, rfl, _⟩ := h
    rfl
  . obtain ⟨l, u, tr, tl, rfl, hl, hu, htr, htl, k⟩ := h
    refine ⟨_, zf (zr (pd Gh Lv.of hr (za (pv 0) (za (pv 3) ze)))), ?_⟩
    exact ⟨_, rfl, _, rfl, l, tl, rfl, hl, htl, k⟩
theorem zlp : zn ym ym (zi zfQ) := by trivial
theorem zh4 {f : Addr} {fd : FuncData} (F : Fun K "mode_7" "mode_7" zfQ f fd) (Gh : zB P w K mg base 1 "half_sum" ["one", "other"] yO) : z0 P w K mg base (CXe P w) 2 f fd ym (xa 7) := by
  refine F.okE zlp (fun vs H Q E h => ?_) (fun cdv A outer s H vs Q E hr h => ?_)
  . obtain ⟨l, u, tr, tl, rfl, _⟩ := h
    rfl
  . obtain ⟨l, u, tr, tl, rfl, hl, hu, htr, htl, k⟩ := h
    refine ⟨_, zf (zr (pd Gh Lv.of hr (za (pv 0) (za (pv 1) ze)))), ?_⟩
    exact ⟨_, rfl, _, rfl, l, u, rfl, hl, hu, k⟩
theorem zjD : zn ym ym (zi zg6) := by trivial
theorem ziG {f : Addr} {fd : FuncData} (F : Fun K "mode_8" "mode_8" zg6 f fd) (Gh : zB P w K mg base 1 "half_sum" ["one", "other"] yO) : z0 P w K mg base (CXe P w) 2 f fd ym (xa 8) := by
  refine F.okE zjD (fun vs H Q E h => ?_) (fun cdv A outer s H vs Q E hr h => ?_)
  . obtain ⟨l, u, tr, tl, rfl, _⟩ := h
    rfl
  . obtain ⟨l, u, tr, tl, rfl, hl, hu, htr, htl, k⟩ := h
    refine ⟨_, zf (zr (pd Gh Lv.of hr (za (pv 3) (za (pv 1) ze)))), ?_⟩
    exact ⟨_, rfl, _, rfl, tl, u, rfl, htl, hu, k⟩
theorem zkm : zn ym ym (zi zgO) := by trivial
theorem zi0 {f : Addr} {fd : FuncData} (F : Fun K "mode_9" "mode_9" zgO f fd) (Gh : zB P w K mg base 1 "half_sum" ["one", "other"] yO) : z0 P w K mg base (CXe P w) 2 f fd ym (xa 9) := by
  refine F.okE zkm (fun vs H Q E h => ?_) (fun cdv A outer s H vs Q E hr h => ?_)
  . obtain ⟨l, u, tr, tl, rfl, _⟩ := h
    rfl
  . obtain ⟨l, u, tr, tl, rfl, hl, hu, htr, htl, k⟩ := h
    refine ⟨_, zf (zr (pd Gh Lv.of hr (za (pv 1) (za (pv 2) ze)))), ?_⟩
    exact ⟨_, rfl, _, rfl, u, tr, rfl, hu, htr, k⟩
theorem zie : zn ym ym (zi zbW) := by trivial
theorem zf6 {f : Addr} {fd : FuncData} (F : Fun K "mode_10" "mode_10" zbW f fd) (Gh : zB P w K mg base 1 "half_sum" ["one", "other"] yO) : z0 P w K mg base (CXe P w) 2 f fd ym (xa 10) := by
  refine F.okE zie (fun vs H Q E h => ?_) (fun cdv A outer s H vs Q E hr h => ?_)
  . obtain ⟨l, u, tr, tl, rfl, _⟩ := h
    rfl
  . obtain ⟨l, u, tr, tl, rfl, hl, hu, htr, htl, k⟩ := h
    refine ⟨_, zf (zr (pd Gh Lv.of hr (za (pd Gh Lv.of hr (za (pv 0) (za (pv 3) ze))) (za (pd Gh Lv.of hr (za (pv 1) (za (pv 2) ze))) ze)))), ?_⟩
    exact ⟨_, rfl, _, rfl, l, tl, rfl, hl, htl, _, rfl, _, rfl, u, tr, rfl, hu, htr, mean l tl, mean u tr, rfl, y0 hl htl, y0 hu htr, k⟩
theorem ziO : zn ym ym (zi zbS) := by trivial
theorem zgp {f : Addr} {fd : FuncData} (F : Fun K "mode_11" "mode_11" zbS f fd) (Gd : zB P w K mg base 1 "difference" ["one", "other"] zfF) : z0 P w K mg base (CXe P w) 2 f fd ym (xa 11) := by
  refine F.okE ziO (fun vs H Q E h => ?_) (fun cdv A outer s H vs Q E hr h => ?_)
  . obtain ⟨l, u, tr, tl, rfl, _⟩ := h
    rfl
  . obtain ⟨l, u, tr, tl, rfl, hl, hu, htr, htl, k⟩ := h
    refine ⟨_, zf (zr (xP (zw jW (pd Gd Lv.of hr (za (pv 1) (za (pv 3) ze))) (pd Gd Lv.of hr (za (pv 0) (za (pv 3) ze))) (zE _)) (pv 0) (pv 1))), ?_⟩
    have k' : Q (nat (if far u tl < far l tl then l else u).word) H := k
    refine ⟨_, rfl, _, rfl, u, tl, rfl, hu, htl, _, rfl, _, rfl, l, tl, rfl, hl, htl, _, _, rfl, rfl, _, rfl, yG (fun e => ?_) (fun e => ?_)⟩
    . have e' : (far u tl : Int) < (far l tl : Int) := of_decide_eq_true e
      rw [if_pos (by omega)] at k'
      exact ⟨_, rfl, k'⟩
    . have e' : ¬ (far u tl : Int) < (far l tl : Int) := fun y => e (decide_eq_true y)
      rw [if_neg (by omega)] at k'
      exact ⟨_, rfl, k'⟩
theorem jc : zn ["left", "top", "top_right", "top_left", "colour", "shift", "part"] ym (zi zb7) := by trivial
theorem zfD {f : Addr} {fd : FuncData} (F : Fun K "mode_12" "mode_12" zb7 f fd) (T3 : Tx3 K mg t) (Gb : zB P w K mg base 1 "brought_in" ["part"] jo) : z0 P w K mg base (CXe P w) 2 f fd ym (xa 12) := by
  obtain ⟨sa, gS, hSH⟩ := T3.kSH
  refine F.okE jc (fun vs H Q E h => ?_) (fun cdv A outer s H vs Q E hr h => ?_)
  . obtain ⟨l, u, tr, tl, rfl, _⟩ := h
    rfl
  . obtain ⟨l, u, tr, tl, rfl, hl, hu, htr, htl, k⟩ := h
    refine ⟨_, zb (zp (i := 4) jc.nd rfl (Or.inl rfl) zg)
      (zb (yV Lv.of.own rfl (zaI (zH (v := .ref sa) (by rfl) gS rfl)) (z6 (i := 5) jc.nd rfl (Or.inl rfl))
        (zb (zp (i := 6) jc.nd rfl (Or.inl rfl) (zl yA (zl zL (zl zW (zl ya (pv 0) (pv 5)) zg) (zl zW (zl ya (pv 1) (pv 5)) zg)) (zl zW (zl ya (pv 3) (pv 5)) zg)))
        (zf (zba (i := 4) jc.nd rfl (Or.inl rfl) (zl yT (pd Gb Lv.of hr (za (pv 6) ze)) (pv 5)) zfU))))
      (zf (zr (pv 4)))), ?_⟩
    generalize hq : foretold 12 l u tr tl = q at k
    have hqe : q = ⟨full l.a u.a tl.a, full l.r u.r tl.r, full l.g u.g tl.g, full l.b u.b tl.b⟩ := hq.symm
    have hqok : yf q := by rw [<- hq]; exact qI hl hu htr htl
    refine ⟨sa, rfl, ⟨_, hSH _⟩, jv (K := K) (a := sa) (xs := zm [24, 16, 8, 0])
      (fun i σ Hx => Hx = H /\ ∃ v5 v6, σ = [some (nat l.word), some (nat u.word), some (nat tr.word), some (nat tl.word), some (nat (zaV q i)), v5, v6]) ⟨rfl, none, none, by rw [vT]; rfl⟩ (fun i σ Hx _ h => hSH _) ?_ ?_⟩
    . rintro i x σ Hx hx ⟨rfl, v5, v6, rfl⟩
      obtain ⟨hi, rfl⟩ := vI hx
      have hsh : (0 : Int) <= ((zhj i : Nat) : Int) := by omega
      refine ⟨_, rfl, _, rfl, _, _, rfl, rfl, hsh, _, _, rfl, rfl, _, rfl, _, rfl, _, _, rfl, rfl, hsh, _, _, rfl, rfl, _, _, rfl, rfl, _, rfl, _, rfl, _, _, rfl, rfl, hsh, _, _, rfl, rfl, _, _, rfl, rfl, ?_⟩
      dsimp -proj only
      rw [xV hl, xV hu, xV htl]
      have hcl := zgE l u tl i
      rw [<- hqe] at hcl
      have hlt := zbz hqok i
      have hs24 := zfV i
      refine ⟨_, rfl, _, rfl, _, rfl, _, rfl, _, _, rfl, rfl, ⟨by omega, by omega, ?_⟩, _, _, rfl, rfl, ?_⟩
      . rw [hcl]; omega
      . dsimp only
        rw [hcl, zc5 hqok hi]
        exact ⟨rfl, _, _, rfl⟩
    . rintro σ Hx ⟨rfl, v5, v6, rfl⟩
      rw [show (zm [24, 16, 8, 0]).length = 4 from rfl, zjZ]
      exact ⟨_, rfl, k⟩
theorem qC : zn ["left", "top", "top_right", "top_left", "middle", "colour", "shift", "part"] ym (zi zbV) := by trivial
theorem zgH {f : Addr} {fd : FuncData} (F : Fun K "mode_13" "mode_13" zbV f fd) (T3 : Tx3 K mg t) (Gh : zB P w K mg base 1 "half_sum" ["one", "other"] yO) (Gb : zB P w K mg base 1 "brought_in" ["part"] jo) (Gz : zB P w K mg base 1 "halved_toward_zero" ["number"] wy) : z0 P w K mg base (CXe P w) 2 f fd ym (xa 13) := by
  obtain ⟨sa, gS, hSH⟩ := T3.kSH
  refine F.okE qC (fun vs H Q E h => ?_) (fun cdv A outer s H vs Q E hr h => ?_)
  . obtain ⟨l, u, tr, tl, rfl, _⟩ := h
    rfl
  . obtain ⟨l, u, tr, tl, rfl, hl, hu, htr, htl, k⟩ := h
    refine ⟨_, zb (zp (i := 4) qC.nd rfl (Or.inl rfl) (pd Gh Lv.of hr (za (pv 0) (za (pv 1) ze))))
      (zb (zp (i := 5) qC.nd rfl (Or.inl rfl) zg)
      (zb (yV Lv.of.own rfl (zaI (zH (v := .ref sa) (by rfl) gS rfl)) (z6 (i := 6) qC.nd rfl (Or.inl rfl))
        (zb (zp (i := 7) qC.nd rfl (Or.inl rfl) (zl zW (zl ya (pv 4) (pv 6)) zg))
        (zf (zba (i := 5) qC.nd rfl (Or.inl rfl) (zl yT (pd Gb Lv.of hr (za (zl zL (pv 7) (pd Gz Lv.of hr (za (zl yA (pv 7) (zl zW (zl ya (pv 3) (pv 6)) zg)) ze))) ze)) (pv 6)) zfU))))
      (zf (zr (pv 5))))), ?_⟩
    generalize hq : foretold 13 l u tr tl = q at k
    have hqe : q = each half (mean l u) tl := hq.symm
    have hqok : yf q := by rw [<- hq]; exact qI hl hu htr htl
    have hmo := y0 hl hu
    refine ⟨_, rfl, _, rfl, l, u, rfl, hl, hu, ?_⟩
    refine ⟨sa, rfl, ⟨_, hSH _⟩, jv (K := K) (a := sa) (xs := zm [24, 16, 8, 0])
      (fun i σ Hx => Hx = H /\ ∃ v5 v6, σ = [some (nat l.word), some (nat u.word), some (nat tr.word), some (nat tl.word), some (nat (mean l u).word), some (nat (zaV q i)), v5, v6]) ⟨rfl, none, none, by rw [vT]; rfl⟩ (fun i σ Hx _ h => hSH _) ?_ ?_⟩
    . rintro i x σ Hx hx ⟨rfl, v5, v6, rfl⟩
      obtain ⟨hi, rfl⟩ := vI hx
      have hsh : (0 : Int) <= ((zhj i : Nat) : Int) := by omega
      refine ⟨_, rfl, _, rfl, _, _, rfl, rfl, hsh, _, _, rfl, rfl, ?_⟩
      dsimp -proj only
      rw [xV hmo]
      have hcl := zha (mean l u) tl i
      rw [<- hqe] at hcl
      have hlt := zbz hqok i
      have hs24 := zfV i
      refine ⟨_, rfl, _, rfl, _, rfl, _, rfl, _, rfl, _, _, rfl, rfl, hsh, _, _, rfl, rfl, _, _, rfl, rfl, _, rfl, _, _, rfl, rfl, _, rfl, _, rfl, _, _, rfl, rfl, ⟨by omega, by omega, ?_⟩, _, _, rfl, rfl, ?_⟩
      . rw [xV htl, hcl]; omega
      . dsimp only
        rw [xV htl, hcl, zc5 hqok hi]
        exact ⟨rfl, _, _, rfl⟩
    . rintro σ Hx ⟨rfl, v5, v6, rfl⟩
      exact ⟨_, rfl, k⟩
structure zcK (P : Program) (w : World) (K : PySem.W.Frag) (mg : Str -> Option Value) (base : Heap) : Prop where
  ex : ∃ (a : Addr) (as : List Addr), mg "MODES" = some (.ref a) /\ (∀ H, SqT K H a (as.map V.ref)) /\ as.length = 14 /\
    ∀ (i : Nat) (f : Addr), as[i]? = some f -> ∃ fd : FuncData, z0 P w K mg base (CXe P w) 2 f fd ym (xa i) /\ PySem.W.keepIn K (.ref f) = true /\ qL K fd ym []
end
end Lk
end
section
namespace Lk
open PySem PySem.Spec PyProof.Rows L2
open Sn15 (Px add mean far clamp foretold black up Trans)
abbrev zjt : Stmt := zU (top 86) 1
abbrev zcg : Stmt := zU (top 86) 2
theorem zcD {m : List Px} {i : Nat} (h : xm m = true) (hi : i < m.length) : (m.getD i black).g < 14 := by
  unfold xm at h
  exact of_decide_eq_true (List.all_eq_true.mp h _ (getD_mem hi))
section
variable {P : Program} {w : World} {K : PySem.W.Frag} {mg : Str -> Option Value} {base : Heap} {t : Ad}
def wW (t : Ad) : Sp := fun vs H Q _ => ∃ (a ca da dx sa cl : Addr) (w h k y : Nat) (m l : List Px), vs = [.ref a, .ref ca, .ref da, nat y] /\ H a = some (.ins t.CP dx (prF w sa)) /\ zex t H sa cl k (up w (2 ^ k)) m /\ m.length = up w (2 ^ k) * up h (2 ^ k) /\ xm m = true /\
  H ca = some (.lst (zm (zh l))) /\ (∀ p ∈ l, yf p) /\ l.length = w * h /\ 0 < w /\ w * h <= 2 ^ 20 /\ 0 < y /\ y < h /\ H da = some (.lst (zm (zh (unp k w m l (y * w))))) /\ da ≠ ca /\ da ≠ cl /\
  ∀ H', zF [da] H H' -> H' da = some (.lst (zm (zh (unp k w m l ((y + 1) * w))))) -> Q .non H'
abbrev zkY : List Str := ["self", "colours", "done", "y", "begin", "above", "top", "left", "top_right", "x", "top_left", "mode"]
theorem yJ : zn zkY ["self", "colours", "done", "y"] (zi zcg) := by trivial
theorem zfO {f : Addr} {fd : FuncData} (F : Fun K "undo_row" "Predictions.undo_row" zcg f fd) (T : Tx K mg t) (T2 : Tx2 K mg t) (Ga : zB P w K mg base 1 "added" ["one", "other"] jF) (Gc : zD P w K mg base 1 t.CS "colour_at" ["self", "x", "y"] (ve t)) (GM : zcK P w K mg base) :
    z0 P w K mg base (CXe P w) 3 f fd ["self", "colours", "done", "y"] (wW t) := by
  obtain ⟨am, ams, gM, hMs, hMl, hMf⟩ := GM.ex
  refine F.okE yJ (fun vs H Q E h => ?_) (fun cdv A outer s H vs Q E hr h => ?_)
  . obtain ⟨a, ca, da, dx, sa, cl, w, h, k, y, m, l, rfl, _⟩ := h
    rfl
  . obtain ⟨a, ca, da, dx, sa, cl, w, h, k, y, m, l, rfl, ha, hS, hml, hmo, hca, hok, hll, hw, hwh, hy0, hyh, hda, ndc, ndl, kk⟩ := h
    have hr1 : yC 1 _ := hr.mono (by decide)
    refine ⟨_, zb (zp (i := 4) yJ.nd rfl (Or.inl rfl) (zl xA (pv 3) (zy (pv 0) rfl)))
      (zb (zp (i := 5) yJ.nd rfl (Or.inl rfl) (zl yA (pv 4) (zy (pv 0) rfl)))
      (zb (zp (i := 6) yJ.nd rfl (Or.inl rfl) (yu zP (pv 2) (pv 5) (fun _ _ => rfl)))
      (zb (zp (i := 7) yJ.nd rfl (Or.inl rfl) (pd Ga Lv.of hr1 (za (yu zP (pv 1) (pv 4) (fun _ _ => rfl)) (za (pv 6) ze))))
      (zb (zZ (xz PySem.F.plainAttrs_list PySem.F.slot_list_append PySem.F.type_list_append yb (pv 2) (za (pv 7) ze)))
      (zb (zp (i := 8) yJ.nd rfl (Or.inl rfl) (yu zP (pv 2) (zl zL (pv 5) zg) (fun _ _ => rfl)))
      (zf (yV Lv.of.own rfl (jh rfl T.range (za zg (za (zy (pv 0) rfl) ze))) (z6 (i := 9) yJ.nd rfl (Or.inl rfl))
        (zb (zp (i := 10) yJ.nd rfl (Or.inl rfl) (pv 6))
        (zb (zp (i := 6) yJ.nd rfl (Or.inl rfl) (pv 8))
        (zb (zp (i := 8) yJ.nd rfl (Or.inl rfl) (yu zP (pv 2) (zl zL (zl zL (pv 5) (pv 9)) zg) (fun _ _ => rfl)))
        (zb (zp (i := 11) yJ.nd rfl (Or.inl rfl) (zl zW (zl ya (pm Gc Lv.of T.cS hr1 (zy (pv 0) rfl) (za (pv 9) (za (pv 3) ze))) zg) zg))
        (zb (zp (i := 7) yJ.nd rfl (Or.inl rfl) (pd Ga Lv.of hr1 (za (yu zP (pv 1) (zl zL (pv 4) (pv 9)) (fun _ _ => rfl))
          (za (zh7 (Lv.pass Lv.of) (yu zcV (zH (v := .ref am) (by rfl) gM rfl) (pv 11) (fun _ _ => rfl)) (za (pv 7) (za (pv 6) (za (pv 8) (za (pv 10) ze))))) ze))))
        (zf (zZ (xz PySem.F.plainAttrs_list PySem.F.slot_list_append PySem.F.type_list_append yb (pv 2) (za (pv 7) ze)))))))))))))))), ?_⟩
    have hwle : w <= 2 ^ 20 := Nat.le_trans (Nat.le_mul_of_pos_right w (by omega)) hwh
    have hyle : y <= 2 ^ 20 := Nat.le_trans (Nat.le_of_lt hyh) (Nat.le_trans (Nat.le_mul_of_pos_left h hw) hwh)
    have hYw : w <= y * w := Nat.le_mul_of_pos_left w hy0
    have hYe : y * w + w <= l.length := by
      have h1 : (y + 1) * w <= h * w := Nat.mul_le_mul_right w hyh
      rw [Nat.add_mul, Nat.one_mul, Nat.mul_comm h w] at h1
      omega
    have hlle : l.length <= 2 ^ 20 := by omega
    have eY : (y : Int) * (w : Int) = ((y * w : Nat) : Int) := (Int.natCast_mul _ _).symm
    have nad : a ≠ da := y6 ha hda (by intro z; cases z)
    refine ⟨_, rfl, _, rfl, a, t.CP, dx, _, _, rfl, ha, T2.cP, T2.pW, zeg _ _, _, _, rfl, rfl, .inl ⟨by omega, by omega⟩, ?_⟩
    dsimp -proj only
    rw [eY]
    refine ⟨_, rfl, _, rfl, a, t.CP, dx, _, _, rfl, ha, T2.cP, T2.pW, zeg _ _, _, _, rfl, rfl, ?_⟩
    dsimp -proj only
    rw [show ((y * w : Nat) : Int) - (w : Int) = ((y * w - w : Nat) : Int) by omega]
    refine ⟨_, rfl, _, rfl, da, _, _, _, rfl, rfl, SqL.of hda, yB rfl (yI (zdy (show y * w - w < y * w by omega) (by omega))), ?_⟩
    have hY : y * w < l.length := by omega
    refine ⟨_, rfl, _, rfl, ca, _, _, _, rfl, rfl, SqL.of hca, yB rfl (yI (List.getElem?_eq_getElem hY)), _, rfl, l[y * w], aAt k w m l (y * w - w), rfl, hok _ (List.getElem_mem hY), qE (by omega), ?_⟩
    rw [<- zjB hY hw hy0]
    refine ⟨_, rfl, .inl ⟨rfl, _, SqL.of hda⟩, _, rfl, da, _, _, rfl, rfl, hda, ?_, ?_⟩
    . rw [zaC, xu k w m (by omega)]
      exact Nat.lt_of_le_of_lt (by omega : y * w <= 2 ^ 20) (by decide)
    rw [yZ, <- j3 hY]
    generalize hH1 : upd H da _ = H1
    have hda1 : H1 da = some (.lst (zm (zh (unp k w m l (y * w + 1))))) := by rw [<- hH1, zc]
    have kp1 : zF [da] H H1 := by rw [<- hH1]; exact zF.put (by simp)
    refine ⟨_, rfl, _, rfl, _, _, rfl, rfl, da, _, _, _, rfl, rfl, SqL.of hda1, yB (j := y * w - w + 1) (by omega) (yI (zdy (show y * w - w + 1 < y * w + 1 by omega) (by omega))), ?_⟩
    have ha1 : H1 a = some (.ins t.CP dx (prF w sa)) := kp1 _ _ ha (by simp; exact nad)
    refine ⟨_, rfl, a, t.CP, dx, _, _, rfl, ha1, T2.cP, T2.pW, zeg _ _, _, _, rfl, ⟨by omega, by omega, by omega, by omega⟩, ?_⟩
    have en : ((w : Int) - 1).toNat = w - 1 := by omega
    rw [en]
    refine y2 (n := w - 1) (fun i σ Hx => ∃ v9 v10 v11, σ = [some (.ref a), some (.ref ca), some (.ref da), some (nat y), some (nat (y * w)), some (nat (y * w - w)), some (nat (aAt k w m l (y * w - w + i)).word), some (nat (aAt k w m l (y * w + i)).word), some (nat (aAt k w m l (y * w - w + 1 + i)).word), v9, v10, v11] /\
      Hx da = some (.lst (zm (zh (unp k w m l (y * w + 1 + i))))) /\ zF [da] H Hx) ⟨none, none, none, rfl, hda1, kp1⟩ ?_ ?_
    . rintro i σ Hx hi ⟨v9, v10, v11, rfl, hdx, kpx⟩
      rw [show (1 : Int) + ((i : Nat) : Int) = ((1 + i : Nat) : Int) by omega]
      have hax : Hx a = some (.ins t.CP dx (prF w sa)) := kpx _ _ ha (by simp; exact nad)
      have hcx : Hx ca = some (.lst (zm (zh l))) := kpx _ _ hca (by simp; exact ndc.symm)
      obtain ⟨sdx, hsin⟩ := hS.ins
      have nsd : sa ≠ da := y6 hsin hda (by intro z; cases z)
      have hSx : zex t Hx sa cl k (up w (2 ^ k)) m := ⟨⟨sdx, kpx _ _ hsin (by simp; exact nsd)⟩, kpx _ _ hS.lst (by simp; exact ndl.symm), hS.ok⟩
      have hzp : 0 < (2 : Nat) ^ k := Nat.pow_pos (by decide)
      have hix : y / 2 ^ k * up w (2 ^ k) + (1 + i) / 2 ^ k < m.length := by rw [hml]; exact wO (x := 0) (y := 0) (yU hzp (by omega)) (yU hzp hyh)
      have hmd := zcD hmo hix
      have hmok := hS.ok _ (getD_mem (d := black) hix)
      refine ⟨_, rfl, _, rfl, _, rfl, _, rfl, _, rfl, _, _, rfl, rfl, _, _, rfl, rfl, da, _, _, _, rfl, rfl, SqL.of hdx, yB (j := y * w - w + i + 2) (by omega) (yI (zdy (show y * w - w + i + 2 < y * w + 1 + i by omega) (by omega))), ?_⟩
      refine ⟨_, rfl, a, t.CP, dx, _, _, rfl, hax, T2.cP, T2.pS, zlR _ _, sa, sdx, _, rfl, kpx _ _ hsin (by simp; exact nsd), zhd _ _ _ (by decide +kernel) (by decide +kernel) (by decide +kernel), _, rfl, _, rfl, sa, cl, k, up w (2 ^ k), 1 + i, y, m, rfl, hSx, Nat.le_trans (zbF hzp) hwle, hix, _, _, rfl, rfl, (by show (0 : Int) <= 8; decide), _, _, rfl, rfl, ?_⟩
      dsimp -proj only
      rw [yD hmok]
      generalize hmo' : (m.getD (y / 2 ^ k * up w (2 ^ k) + (1 + i) / 2 ^ k) black).g = md at hmd
      obtain ⟨fm, hfm⟩ : ∃ fm, ams[md]? = some fm := ⟨_, List.getElem?_eq_getElem (by omega)⟩
      obtain ⟨fmd, FM, km, bm⟩ := hMf md fm hfm
      have hn : y * w + (1 + i) < l.length := by omega
      refine ⟨_, rfl, _, rfl, _, rfl, _, _, rfl, rfl, ca, _, _, _, rfl, rfl, SqL.of hcx, yB (j := y * w + (1 + i)) (by omega) (yI (List.getElem?_eq_getElem hn)), _, rfl, am, _, _, .ref fm, rfl, rfl, hMs _, yB rfl (jg hfm),
        fm, fmd, ym, xa md, 2, rfl, FM, hr, km, bm, _, rfl, _, rfl, _, rfl, _, rfl, aAt k w m l (y * w + i), aAt k w m l (y * w - w + 1 + i), aAt k w m l (y * w - w + i + 2), aAt k w m l (y * w - w + i), rfl, qE (by omega), qE (by omega), qE (by omega), qE (by omega),
        l[y * w + (1 + i)], foretold md (aAt k w m l (y * w + i)) (aAt k w m l (y * w - w + 1 + i)) (aAt k w m l (y * w - w + i + 2)) (aAt k w m l (y * w - w + i)), rfl, hok _ (List.getElem_mem hn), qI (qE (by omega)) (qE (by omega)) (qE (by omega)) (qE (by omega)), ?_⟩
      have ea : add l[y * w + (1 + i)] (foretold md (aAt k w m l (y * w + i)) (aAt k w m l (y * w - w + 1 + i)) (aAt k w m l (y * w - w + i + 2)) (aAt k w m l (y * w - w + i))) = aAt k w m l (y * w + (1 + i)) := by
        rw [zjA hn (by omega) (by omega) hy0, hmo']
        congr 1
        congr 1
        . exact congrArg _ (by omega)
        . exact congrArg _ (by omega)
        . exact congrArg _ (by omega)
        . exact congrArg _ (by omega)
      rw [ea]
      refine ⟨_, rfl, .inl ⟨rfl, _, SqL.of hdx⟩, _, rfl, da, _, _, rfl, rfl, hdx, ?_, ?_⟩
      . rw [zaC, xu k w m (by omega)]
        exact Nat.lt_of_le_of_lt (by omega : y * w + 1 + i <= 2 ^ 20) (by decide)
      . have e1 : y * w + 1 + i = y * w + (1 + i) := by omega
        rw [e1, yZ, <- j3 hn]
        rw [show y * w - w + 1 + i = y * w - w + (i + 1) by omega, show y * w - w + i + 2 = y * w - w + 1 + (i + 1) by omega, show y * w + (1 + i) = y * w + (i + 1) by omega]
        refine ⟨_, _, _, rfl, ?_, kpx.trans (zF.put (by simp))⟩
        rw [zc, show y * w + 1 + (i + 1) = y * w + (i + 1) + 1 by omega]
    . rintro σ Hx ⟨v9, v10, v11, rfl, hdx, kpx⟩
      refine kk Hx kpx ?_
      rw [hdx, show y * w + 1 + (w - 1) = (y + 1) * w by rw [Nat.add_mul, Nat.one_mul]; omega]
def zfh (t : Ad) : Sp := fun vs H Q _ => ∃ (a ca : Addr) (w h k : Nat) (m l : List Px), vs = [.ref a, .ref ca] /\ xb t H a w h (.predict k m) /\ H ca = some (.lst (zm (zh l))) /\ (∀ p ∈ l, yf p) /\ l.length = w * h /\ 0 < w /\ 0 < h /\ w * h <= 2 ^ 20 /\
  ∀ la H', zN H H' -> H' la = some (.lst (zm (zh (Sn15.unpredict k w m [] l)))) -> Q (.ref la) H'
theorem zaD : zn ["self", "colours", "width", "done", "place", "y"] ["self", "colours"] (zi zjt) := by trivial
theorem zju {f : Addr} {fd : FuncData} (F : Fun K "undone" "Predictions.undone" zjt f fd) (T : Tx K mg t) (T2 : Tx2 K mg t) (T3 : Tx3 K mg t) (Ga : zB P w K mg base 1 "added" ["one", "other"] jF) (Gr : zD P w K mg base 3 t.CP "undo_row" ["self", "colours", "done", "y"] (wW t)) :
    z0 P w K mg base (CXe P w) 4 f fd ["self", "colours"] (zfh t) := by
  obtain ⟨uB, gB, rB⟩ := T3.kBLACK
  refine F.okE zaD (fun vs H Q E h => ?_) (fun cdv A outer s H vs Q E hr h => ?_)
  . obtain ⟨a, ca, w, h, k, m, l, rfl, _⟩ := h
    rfl
  . obtain ⟨a, ca, w, h, k, m, l, rfl, ⟨dx, sa, cl, ha, hS, hk9, hml, hmo⟩, hca, hok, hll, hw, hh, hwh, kk⟩ := h
    have hr1 : yC 1 _ := hr.mono (by decide)
    refine ⟨_, zb (zp (i := 2) zaD.nd rfl (Or.inl rfl) (zy (pv 0) rfl))
      (zb (zp (i := 3) zaD.nd rfl (Or.inl rfl) (yc (za (pd Ga Lv.of hr1 (za (yu zP (pv 1) zg (fun _ _ => rfl)) (za (zH (by rfl) gB rB) ze))) ze)))
      (zb (yV Lv.of.own rfl (jh rfl T.range (za zg (za (pv 2) ze))) (z6 (i := 4) zaD.nd rfl (Or.inl rfl))
        (zf (zZ (xz PySem.F.plainAttrs_list PySem.F.slot_list_append PySem.F.type_list_append yb (pv 3) (za (pd Ga Lv.of hr1 (za (yu zP (pv 1) (pv 4) (fun _ _ => rfl)) (za (yu zP (pv 3) (zl yA (pv 4) zg) (fun _ _ => rfl)) ze))) ze)))))
      (zb (yV Lv.of.own rfl (jh rfl T.range (za zg (za (zl qJ (zG zC (by rfl) T.len PySem.boot_len (za (pv 1) ze)) (pv 2)) ze))) (z6 (i := 5) zaD.nd rfl (Or.inl rfl))
        (zf (zZ (pm Gr Lv.of T2.cP hr (pv 0) (za (pv 1) (za (pv 3) (za (pv 5) ze)))))))
      (zf (zr (pv 3)))))), ?_⟩
    have hwle : w <= 2 ^ 20 := Nat.le_trans (Nat.le_mul_of_pos_right w hh) hwh
    have hhle : h <= 2 ^ 20 := Nat.le_trans (Nat.le_mul_of_pos_left h hw) hwh
    have hwl : w <= l.length := by rw [hll]; exact Nat.le_mul_of_pos_right w hh
    have h0 : 0 < l.length := by omega
    have hlle : l.length <= 2 ^ 20 := by omega
    refine ⟨_, rfl, a, t.CP, dx, _, _, rfl, ha, T2.cP, T2.pW, zeg _ _, ?_⟩
    refine ⟨_, rfl, ca, _, _, _, rfl, rfl, SqL.of hca, yB (j := 0) rfl (yI (List.getElem?_eq_getElem h0)), l[0], black, by rw [zaN]; rfl, hok _ (List.getElem_mem h0), zcX, (by show 1 <= sizeLine; decide), fun da hda => ?_⟩
    rw [<- zf8 (k := k) (w := w) (ms := m) h0]
    have sm0 : zN H (upd H da (.lst [nat (aAt k w m l 0).word])) := zt (zN.refl _) hda
    have hd0 : upd H da (.lst [nat (aAt k w m l 0).word]) da = some (.lst (zm (zh (unp k w m l 1)))) := by
      rw [zc, j3 h0]; rfl
    generalize upd H da (.lst [nat (aAt k w m l 0).word]) = H0 at sm0 hd0
    have ndc : da ≠ ca := (zd hca hda).symm
    have ndl : da ≠ cl := (zd hS.lst hda).symm
    refine ⟨_, rfl, _, _, rfl, ⟨by omega, by omega, by omega, by omega⟩, ?_⟩
    have en : ((w : Int) - 1).toNat = w - 1 := by omega
    rw [en]
    refine y2 (n := w - 1) (fun i σ Hx => ∃ v4, σ = [some (.ref a), some (.ref ca), some (nat w), some (.ref da), v4, none] /\ zN H Hx /\ Hx da = some (.lst (zm (zh (unp k w m l (1 + i)))))) ⟨none, rfl, sm0, hd0⟩ ?_ ?_
    . rintro i σ Hx hi ⟨v4, rfl, s1, hd1⟩
      rw [show (1 : Int) + ((i : Nat) : Int) = ((1 + i : Nat) : Int) by omega]
      have hn : 1 + i < l.length := by omega
      refine ⟨_, rfl, .inl ⟨rfl, _, SqL.of hd1⟩, _, rfl, _, rfl, ca, _, _, _, rfl, rfl, SqL.of (s1 _ _ hca), yB rfl (yI (List.getElem?_eq_getElem hn)), _, rfl, _, rfl, _, _, rfl, rfl, da, _, _, _, rfl, rfl, SqL.of hd1, yB (j := i) (by omega) (yI (zdy (show i < 1 + i by omega) (by omega))),
        l[1 + i], aAt k w m l i, rfl, hok _ (List.getElem_mem hn), qE (by omega), ?_⟩
      have ea : add l[1 + i] (aAt k w m l i) = aAt k w m l (1 + i) := by
        rw [zke hn (by omega) (by omega)]
        exact congrArg _ (congrArg _ (by omega))
      rw [ea]
      refine ⟨da, _, _, rfl, rfl, hd1, ?_, ?_⟩
      . rw [zaC, xu k w m (by omega)]
        exact Nat.lt_of_le_of_lt (by omega : 1 + i <= 2 ^ 20) (by decide)
      . refine ⟨_, rfl, yo s1 hda, ?_⟩
        rw [zc, yZ, <- j3 hn, show 1 + (i + 1) = 1 + i + 1 by omega]
    . rintro σ Hx ⟨v4, rfl, s1, hd1⟩
      rw [show 1 + (w - 1) = 1 * w by omega] at hd1
      refine ⟨_, rfl, ca, _, rfl, .inl (SqL.of (s1 _ _ hca)), _, rfl, _, _, rfl, rfl, ⟨by omega, by omega⟩, _, _, rfl, ?_, ?_⟩
      . rw [zaC, hll, Int.natCast_mul, Int.mul_ediv_cancel_left _ (by omega)]
        exact ⟨by omega, by omega, by omega, by omega⟩
      . have en2 : (((zm (zh l)).length : Int) / (w : Int) - 1).toNat = h - 1 := by
          rw [zaC, hll, Int.natCast_mul, Int.mul_ediv_cancel_left _ (by omega)]
          omega
        rw [en2]
        refine y2 (n := h - 1) (fun i σ Hx => ∃ v4 v5, σ = [some (.ref a), some (.ref ca), some (nat w), some (.ref da), v4, v5] /\ zN H Hx /\ Hx da = some (.lst (zm (zh (unp k w m l ((1 + i) * w)))))) ⟨v4, none, rfl, s1, hd1⟩ ?_ ?_
        . rintro i σ Hy hi ⟨v4, v5, rfl, s2, hd2⟩
          rw [show (1 : Int) + ((i : Nat) : Int) = ((1 + i : Nat) : Int) by omega]
          refine ⟨_, rfl, a, dx, _, rfl, s2 _ _ ha, zfm _ _ (by decide +kernel) (by decide +kernel), _, rfl, _, rfl, _, rfl, a, ca, da, dx, sa, cl, w, h, k, 1 + i, m, l, rfl, s2 _ _ ha, hS.same s2, hml, hmo, s2 _ _ hca, hok, hll, hw, hwh, by omega, by omega, hd2, ndc, ndl, fun H3 kp3 hd3 => ?_⟩
          refine ⟨_, _, rfl, fun b o e => kp3 b o (s2 b o e) (by simp; exact zd e hda), ?_⟩
          rw [hd3, show 1 + (i + 1) = 1 + i + 1 by omega]
        . rintro σ Hy ⟨v4, v5, rfl, s2, hd2⟩
          refine ⟨_, rfl, kk da Hy s2 ?_⟩
          rw [hd2, <- zfz, hll, show (1 + (h - 1)) * w = w * h by rw [show 1 + (h - 1) = h by omega, Nat.mul_comm]]
end
end Lk
end
section
namespace Lk
open PySem PySem.Spec PyProof.Rows L2
open Sn15 (Px black up Trans packedBits uncross)
abbrev zjP : Stmt := zU (top 61) 1
abbrev ziH : Stmt := zU (top 62) 0
abbrev zkL : Stmt := zU (top 88) 2
abbrev zlC : Stmt := zU (top 88) 3
theorem wD {l : List Px} {i : Nat} (h : i < l.length) : (zm (zh l))[i]? = some (nat (l.getD i black).word) :=
  yI (by rw [List.getElem?_eq_getElem h, List.getD_eq_getElem?_getD, List.getElem?_eq_getElem h]; rfl)
theorem zjy {l : List Px} {w h : Nat} (hw : 0 < w) (hl : l.length = w * h) : ((zm (zh l)).length : Int) / (w : Int) = ((h : Nat) : Int) := by
  rw [zaC, hl, Int.natCast_mul, Int.mul_ediv_cancel_left _ (by omega)]
theorem zii {c : List Px} {j : Nat} (hc : c.length <= 256) (hj : j < 256) : (zkN c)[j]? = some (c.getD j ⟨0, 0, 0, 0⟩).word := by
  unfold zkN
  by_cases h : j < c.length
  . rw [List.getElem?_append_left (by rw [yF]; exact h)]
    unfold zh
    rw [List.getElem?_map, List.getD_eq_getElem?_getD, List.getElem?_eq_getElem h]
    rfl
  . rw [List.getElem?_append_right (by rw [yF]; omega), yF, List.getElem?_replicate, if_pos (by omega), List.getD_eq_getElem?_getD, List.getElem?_eq_none (by omega)]
    rfl
theorem zk9 {b c : Int} (hb : 0 <= b) (hb' : b < 2 ^ 40) (hc : 1 <= c) (hc' : c < 2 ^ 30) : Builtin.Range.small 0 b c = true := by
  have h1 := rangeSize_pos (len := b) (c := c) hc hb
  have h2 : (b + c - 1) / c <= b + c - 1 := Int.ediv_le_self _ (by omega)
  have h3 : 0 <= (b + c - 1) / c := Int.ediv_nonneg (by omega) (by omega)
  have h4 : (b + c - 1) / c * c <= b + c - 1 := Int.ediv_mul_le _ (by omega)
  unfold Builtin.Range.small
  rw [h1, if_pos (show c > 0 by omega)]
  generalize (b + c - 1) / c = q at *
  simp only [Builtin.Range.rangeFitsLong, Bool.and_eq_true, Bool.or_eq_true, decide_eq_true_eq, beq_iff_eq]
  omega
section
variable {P : Program} {w : World} {K : PySem.W.Frag} {mg : Str -> Option Value} {base : Heap} {t : Ad}
def zgt (t : Ad) : Sp := fun vs H Q _ => ∃ (a ca : Addr) (w h k : Nat) (m l : List Px), vs = [.ref a, .ref ca] /\ xb t H a w h (.cross k m) /\ H ca = some (.lst (zm (zh l))) /\ (∀ p ∈ l, yf p) /\ l.length = w * h /\ 0 < w /\ 0 < h /\ w * h <= 2 ^ 20 /\
  ∀ la H', zN H H' -> H' la = some (.lst (zm (zh (uncross k w m l)))) -> Q (.ref la) H'
theorem zcT : zn ["self", "colours", "done", "y", "x"] ["self", "colours"] (zi zjP) := by trivial
theorem zkg {f : Addr} {fd : FuncData} (F : Fun K "undone" "Colours.undone" zjP f fd) (T : Tx K mg t) (T2 : Tx2 K mg t) (Gf : zB P w K mg base 3 "with_factors" ["colour", "factors"] zcq) (Gc : zD P w K mg base 1 t.CS "colour_at" ["self", "x", "y"] (ve t)) :
    z0 P w K mg base (CXe P w) 4 f fd ["self", "colours"] (zgt t) := by
  refine F.okE zcT (fun vs H Q E h => ?_) (fun cdv A outer s H vs Q E hr h => ?_)
  . obtain ⟨a, ca, w, h, k, m, l, rfl, _⟩ := h
    rfl
  . obtain ⟨a, ca, w, h, k, m, l, rfl, ⟨dx, sa, cl, ha, hS, hk9, hml⟩, hca, hok, hll, hw, hh, hwh, kk⟩ := h
    have hr1 : yC 1 _ := hr.mono (by decide)
    refine ⟨_, zb (zp (i := 2) zcT.nd rfl (Or.inl rfl) (yc ze))
      (zb (yV Lv.of.own rfl (ql rfl T.range (za (zl qJ (zG zC (by rfl) T.len PySem.boot_len (za (pv 1) ze)) (zy (pv 0) rfl)) ze)) (z6 (i := 3) zcT.nd rfl (Or.inl rfl))
        (zf (yV Lv.of.own rfl (ql rfl T.range (za (zy (pv 0) rfl) ze)) (z6 (i := 4) zcT.nd rfl (Or.inl rfl))
          (zf (zZ (xz PySem.F.plainAttrs_list PySem.F.slot_list_append PySem.F.type_list_append yb (pv 2) (za (pd Gf Lv.of hr (za (yu zP (pv 1) (zG zC (by rfl) T.len PySem.boot_len (za (pv 2) ze)) (fun _ _ => rfl))
            (za (pm Gc Lv.of T.cS hr1 (zy (pv 0) rfl) (za (pv 4) (za (pv 3) ze))) ze))) ze)))))))
      (zf (zr (pv 2)))), ?_⟩
    have hwle : w <= 2 ^ 20 := Nat.le_trans (Nat.le_mul_of_pos_right w hh) hwh
    have hhle : h <= 2 ^ 20 := Nat.le_trans (Nat.le_mul_of_pos_left h hw) hwh
    have hlle : l.length <= 2 ^ 20 := by omega
    refine ⟨Nat.zero_le _, fun da hda => ?_⟩
    have sm0 : zN H (upd H da (.lst [])) := zt (zN.refl _) hda
    have hd0 : upd H da (.lst []) da = some (.lst (zm (zh (uncross k w m (l.take (0 * w)))))) := by rw [zc, Nat.zero_mul, List.take_zero]; rfl
    generalize upd H da (.lst []) = H0 at sm0 hd0
    refine ⟨_, rfl, ca, _, rfl, .inl (SqL.of (sm0 _ _ hca)), _, rfl, a, t.CK, dx, _, _, rfl, sm0 _ _ ha, T2.cK, T2.kW, zeg _ _, _, _, rfl, rfl, ⟨by omega, by omega⟩, ?_⟩
    dsimp -proj only
    rw [zjy hw hll]
    refine ⟨(h : Int), rfl, by omega, by omega, y2 (n := h) (lo := 0) (fun i σ Hx => ∃ v3 v4, σ = [some (.ref a), some (.ref ca), some (.ref da), v3, v4] /\ zN H Hx /\ Hx da = some (.lst (zm (zh (uncross k w m (l.take (i * w))))))) ⟨none, none, rfl, sm0, hd0⟩ ?_ ?_⟩
    . rintro y σ Hx hy ⟨v3, v4, rfl, s1, hd1⟩
      rw [show (0 : Int) + ((y : Nat) : Int) = ((y : Nat) : Int) by omega]
      have hYe : y * w + w <= l.length := by
        have h1 : (y + 1) * w <= h * w := Nat.mul_le_mul_right w hy
        rw [Nat.add_mul, Nat.one_mul, Nat.mul_comm h w] at h1
        omega
      refine ⟨_, rfl, a, t.CK, dx, _, _, rfl, s1 _ _ ha, T2.cK, T2.kW, zeg _ _, (w : Int), rfl, by omega, by omega, y2 (n := w) (lo := 0) (fun i σ Hx => ∃ v4, σ = [some (.ref a), some (.ref ca), some (.ref da), some (nat y), v4] /\ zN H Hx /\ Hx da = some (.lst (zm (zh (uncross k w m (l.take (y * w + i))))))) ⟨v4, rfl, s1, hd1⟩ ?_ ?_⟩
      . rintro x σ Hy hx ⟨v4, rfl, s2, hd2⟩
        rw [show (0 : Int) + ((x : Nat) : Int) = ((x : Nat) : Int) by omega]
        have hn : y * w + x < l.length := by omega
        have hlen : (zm (zh (uncross k w m (l.take (y * w + x))))).length = y * w + x := by rw [zaC, vq, List.length_take, Nat.min_eq_left (by omega)]
        obtain ⟨sdx, hsin⟩ := hS.ins
        have hzp : 0 < (2 : Nat) ^ k := Nat.pow_pos (by decide)
        have hix : y / 2 ^ k * up w (2 ^ k) + x / 2 ^ k < m.length := by rw [hml]; exact wO (x := 0) (y := 0) (yU hzp hx) (yU hzp hy)
        refine ⟨_, rfl, .inl ⟨rfl, _, SqL.of hd2⟩, _, rfl, _, rfl, da, _, rfl, .inl (SqL.of hd2), ca, _, _, _, rfl, rfl, SqL.of (s2 _ _ hca), yB (j := y * w + x) (by rw [hlen]) (yI (List.getElem?_eq_getElem hn)), _, rfl, a, t.CK, dx, _, _, rfl, s2 _ _ ha, T2.cK, T2.kS, zlR _ _, sa, sdx, _, rfl, s2 _ _ hsin, zhd _ _ _ (by decide +kernel) (by decide +kernel) (by decide +kernel), _, rfl, _, rfl,
          sa, cl, k, up w (2 ^ k), x, y, m, rfl, hS.same s2, Nat.le_trans (zbF hzp) hwle, hix, l[y * w + x], _, rfl, hok _ (List.getElem_mem hn), hS.ok _ (getD_mem (d := black) hix), da, _, _, rfl, rfl, hd2, ?_, ?_⟩
        . rw [hlen]
          exact Nat.lt_of_le_of_lt (by omega : y * w + x <= 2 ^ 20) (by decide)
        . rw [yZ, <- zd5 hx, <- zaU hn]
          exact ⟨_, rfl, yo s2 hda, zc⟩
      . rintro σ Hy ⟨v4, rfl, s2, hd2⟩
        refine ⟨_, _, rfl, s2, ?_⟩
        rw [hd2, Nat.add_mul, Nat.one_mul]
    . rintro σ Hx ⟨v3, v4, rfl, s1, hd1⟩
      refine ⟨_, rfl, kk da Hx s1 ?_⟩
      rw [hd1, Nat.mul_comm h w, <- hll, List.take_length]
def zfS (t : Ad) : Sp := fun vs H Q _ => ∃ (a ca : Addr) (l : List Px), vs = [.ref a, .ref ca] /\ H ca = some (.lst (zm (zh l))) /\ (∀ p ∈ l, yf p) /\ l.length <= 2 ^ 20 /\ ∀ la H', zN H H' -> H' la = some (.lst (zm (zh (l.map jp)))) -> Q (.ref la) H'
abbrev zmt : List Str := ["self", "colours", "colour"]
theorem zhn : zn zmt ["self", "colours"] (zi ziH) := by trivial
theorem zkI {f : Addr} {fd : FuncData} (F : Fun K "undone" "Greens.undone" ziH f fd) (Gg : zB P w K mg base 2 "with_green" ["colour"] zcB) : z0 P w K mg base (CXe P w) 3 f fd ["self", "colours"] (zfS t) := by
  refine F.okE zhn (fun vs H Q E h => ?_) (fun cdv A outer s H vs Q E hr h => ?_)
  . obtain ⟨a, ca, l, rfl, _⟩ := h
    rfl
  . obtain ⟨a, ca, l, rfl, hca, hok, hlen, kk⟩ := h
    refine ⟨_, zf (zr (zis (own := [("colour", 2)]) rfl zhn.nd (kE (pv 1)) (by show kO zmt (zi ziH) _ _; exact qw (by decide +kernel))
      (fun _ _ _ _ _ => by exact z6 (i := 2) zhn.nd (by rfl) (Or.inl (by rfl)) (Or.inr (by rfl))) (fun _ _ _ _ _ => jz) (fun _ _ _ _ _ => by exact pdn Gg hr (za (pv 2) ze)))), ?_⟩
    refine ⟨_, rfl, ca, rfl, ⟨_, SqL.of hca⟩, fun Dl hDl => ze4 (K := K) (a := ca) (xs := zm (zh l)) (fun i Hx => zN H Hx /\ Hx Dl = some (.lst (zm (zh ((l.take i).map jp))))) ⟨zt (zN.refl _) hDl, zc⟩ (fun i Hx _ h => SqL.of (h.1 _ _ hca)) ?_ ?_⟩
    . rintro i x Hx hx ⟨sx, dxx⟩
      obtain ⟨p, hi, hp, rfl⟩ := jn hx
      refine ⟨rfl, wf ⟨_, rfl, p, rfl, hok p (by rw [<- hp]; exact List.getElem_mem hi), _, dxx, ?_, yo sx hDl, ?_⟩⟩
      . rw [zaC, List.length_map, List.length_take]
        exact Nat.lt_of_le_of_lt (Nat.le_trans (Nat.min_le_right _ _) hlen) (by decide)
      . rw [zc, yZ, List.take_succ_eq_append_getElem hi, List.map_append, hp]
        rfl
    . rintro Hx ⟨sx, dxx⟩
      rw [zaC, List.take_length] at dxx
      exact kk Dl Hx sx dxx
def zgr (t : Ad) : Sp := fun vs H Q _ => ∃ (a ra dx cl : Addr) (w : Nat) (c r : List Px), vs = [.ref a, .ref ra] /\ H a = some (.ins t.CD dx (tbF w (packedBits c.length) cl)) /\ H cl = some (.lst (zm (zkN c))) /\ (∀ p ∈ c, yf p) /\ c.length <= 256 /\ H ra = some (.lst (zm (zh r))) /\ (∀ p ∈ r, yf p) /\
  r.length = up w (2 ^ packedBits c.length) /\ w <= 2 ^ 20 /\ ∀ la H', zN H H' -> H la = none -> H' la = some (.lst (zm (zh ((List.range w).map fun x => zef c (packedBits c.length) (r.getD (x / 2 ^ packedBits c.length) black).g x)))) -> Q (.ref la) H'
abbrev znw : List Str := ["self", "row", "bits_each", "lowest", "within", "answer", "x", "green", "place"]
theorem jU : zn znw ["self", "row"] (zi zlC) := by trivial
theorem wH (x b : Nat) : Builtin.bitAnd ((x : Nat) : Int) ((2 ^ b - 1 : Nat) : Int) = ((x % 2 ^ b : Nat) : Int) := by rw [yS, Nat.and_two_pow_sub_one_eq_mod]
theorem zbG (x b : Nat) : ((x : Nat) : Int) / 2 ^ ((b : Nat) : Int).toNat = ((x / 2 ^ b : Nat) : Int) := by rw [Int.toNat_natCast, two_pow_int, <- Int.natCast_ediv]
theorem zjG {f : Addr} {fd : FuncData} (F : Fun K "unpacked" "Table.unpacked" zlC f fd) (T : Tx K mg t) (T2 : Tx2 K mg t) : z0 P w K mg base (CXe P w) 1 f fd ["self", "row"] (zgr t) := by
  refine F.okE jU (fun vs H Q E h => ?_) (fun cdv A outer s H vs Q E hr h => ?_)
  . obtain ⟨a, ra, dx, cl, w, c, r, rfl, _⟩ := h
    rfl
  . obtain ⟨a, ra, dx, cl, w, c, r, rfl, ha, hcl, hcok, hc256, hra, hrok, hrl, hw, kk⟩ := h
    refine ⟨_, zb (zp (i := 2) jU.nd rfl (Or.inl rfl) (zl ya zg (zy (pv 0) rfl)))
      (zb (zp (i := 3) jU.nd rfl (Or.inl rfl) (zl yA (zl yT zg (pv 2)) zg))
      (zb (zp (i := 4) jU.nd rfl (Or.inl rfl) (zl yA (zl yT zg (zy (pv 0) rfl)) zg))
      (zb (zp (i := 5) jU.nd rfl (Or.inl rfl) (yc ze))
      (zb (yV Lv.of.own rfl (ql rfl T.range (za (zy (pv 0) rfl) ze)) (z6 (i := 6) jU.nd rfl (Or.inl rfl))
        (zb (zp (i := 7) jU.nd rfl (Or.inl rfl) (zl zW (zl ya (yu zP (pv 1) (zl ya (pv 6) (zy (pv 0) rfl)) (fun _ _ => rfl)) zg) zg))
        (zb (zp (i := 8) jU.nd rfl (Or.inl rfl) (zl zW (zl ya (pv 7) (zl xA (zl zW (pv 6) (pv 4)) (pv 2))) (pv 3)))
        (zf (zZ (xz PySem.F.plainAttrs_list PySem.F.slot_list_append PySem.F.type_list_append yb (pv 5) (za (yu zP (zy (pv 0) rfl) (pv 8) (fun _ _ => rfl)) ze)))))))
      (zf (zr (pv 5))))))), ?_⟩
    generalize hz : packedBits c.length = z at *
    have hz3 : z <= 3 := by rw [<- hz]; exact kT _
    have hzp : 0 < (2 : Nat) ^ z := Nat.pow_pos (by decide)
    have h8 : 8 / 2 ^ z <= 8 := Nat.div_le_self _ _
    have hb0 : (0 : Int) <= ((8 / 2 ^ z : Nat) : Int) := Int.natCast_nonneg _
    have hb8 : ((8 / 2 ^ z : Nat) : Int) <= ((8 : Nat) : Int) := Int.ofNat_le.mpr h8
    have hbp : ((8 / 2 ^ z : Nat) : Int) <= 1000000 := Int.le_trans hb8 (by decide)
    have hbq : -(2 ^ 64) < ((8 / 2 ^ z : Nat) : Int) /\ ((8 / 2 ^ z : Nat) : Int) < 2 ^ 64 := ⟨Int.lt_of_lt_of_le (by decide) hb0, Int.lt_of_le_of_lt hb8 (by decide)⟩
    have e1 : (8 : Int) / 2 ^ ((z : Nat) : Int).toNat = ((8 / 2 ^ z : Nat) : Int) := zbG 8 z
    have e2 : ∀ b : Nat, (1 : Int) * 2 ^ ((b : Nat) : Int).toNat - 1 = ((2 ^ b - 1 : Nat) : Int) := fun b => by
      have : 0 < (2 : Nat) ^ b := Nat.pow_pos (by decide)
      rw [Int.toNat_natCast, two_pow_int]
      omega
    refine ⟨_, rfl, a, t.CD, dx, _, _, rfl, ha, T2.cD, T2.dS, zi3 _ _ _, _, _, rfl, rfl, (by show (0 : Int) <= (z : Int); omega), ?_⟩
    dsimp -proj only
    rw [e1]
    refine ⟨_, rfl, _, _, rfl, rfl, ⟨hb0, hbp, by decide⟩, _, _, rfl, rfl, ?_⟩
    dsimp -proj only
    rw [e2]
    refine ⟨_, rfl, a, t.CD, dx, _, _, rfl, ha, T2.cD, T2.dS, zi3 _ _ _, _, _, rfl, rfl, ⟨by omega, by omega, by decide⟩, _, _, rfl, rfl, ?_⟩
    dsimp -proj only
    rw [e2]
    refine ⟨Nat.zero_le _, fun la hla => ?_⟩
    have sm0 : zN H (upd H la (.lst [])) := zt (zN.refl _) hla
    refine ⟨_, rfl, a, t.CD, dx, _, _, rfl, sm0 _ _ ha, T2.cD, T2.dW, zme _ _ _, (w : Int), rfl, by omega, by omega, y2 (n := w) (lo := 0) (fun i σ Hx => ∃ v6 v7 v8, σ = [some (.ref a), some (.ref ra), some (nat (8 / 2 ^ z)), some (nat (2 ^ (8 / 2 ^ z) - 1)), some (nat (2 ^ z - 1)), some (.ref la), v6, v7, v8] /\ zN H Hx /\
      Hx la = some (.lst (zm (zh ((List.range i).map fun x => zef c z (r.getD (x / 2 ^ z) black).g x))))) ⟨none, none, none, rfl, sm0, zc⟩ ?_ ?_⟩
    . rintro x σ Hx hx ⟨v6, v7, v8, rfl, s1, hl1⟩
      rw [show (0 : Int) + ((x : Nat) : Int) = ((x : Nat) : Int) by omega]
      have hix : x / 2 ^ z < r.length := by rw [hrl]; exact yU hzp hx
      have hrm := hrok _ (getD_mem (d := black) hix)
      refine ⟨_, rfl, _, rfl, _, rfl, a, t.CD, dx, _, _, rfl, s1 _ _ ha, T2.cD, T2.dS, zi3 _ _ _, _, _, rfl, rfl, (by show (0 : Int) <= (z : Int); omega), ra, _, _, _, rfl, rfl, SqL.of (s1 _ _ hra), yB (j := x / 2 ^ z) (zbG x z) (wD hix), _, _, rfl, rfl, (by show (0 : Int) <= 8; decide), _, _, rfl, rfl, ?_⟩
      dsimp -proj only
      rw [yD hrm]
      have hxz : x % 2 ^ z < 2 ^ z := Nat.mod_lt _ hzp
      refine ⟨_, rfl, _, rfl, _, rfl, _, _, rfl, rfl, _, rfl, _, _, rfl, rfl, .inr hbq, _, _, rfl, rfl, ?_, _, rfl, _, _, rfl, rfl, ?_⟩
      . rw [wH, <- Int.natCast_mul]; exact Int.natCast_nonneg _
      dsimp -proj only
      rw [wH, <- Int.natCast_mul, zbG, wH]
      have hpl : (r.getD (x / 2 ^ z) black).g / 2 ^ (x % 2 ^ z * (8 / 2 ^ z)) % 2 ^ (8 / 2 ^ z) < 256 := by
        have h1 : (r.getD (x / 2 ^ z) black).g / 2 ^ (x % 2 ^ z * (8 / 2 ^ z)) % 2 ^ (8 / 2 ^ z) < 2 ^ (8 / 2 ^ z) := Nat.mod_lt _ (Nat.pow_pos (by decide))
        have h2 : (2 : Nat) ^ (8 / 2 ^ z) <= 2 ^ 8 := Nat.pow_le_pow_right (by decide) h8
        omega
      refine ⟨_, rfl, .inl ⟨rfl, _, SqL.of hl1⟩, _, rfl, a, t.CD, dx, _, _, rfl, s1 _ _ ha, T2.cD, T2.dC, zns _ _ _, _, rfl, cl, _, _, _, rfl, rfl, SqL.of (s1 _ _ hcl), yB rfl (yj (zii hc256 hpl)), la, _, _, rfl, rfl, hl1, ?_, ?_⟩
      . rw [zaC, List.length_map, List.length_range]
        exact Nat.lt_of_le_of_lt (by omega : x <= 2 ^ 20) (by decide)
      . refine ⟨_, _, _, rfl, yo s1 hla, ?_⟩
        rw [zc, yZ, List.range_succ, List.map_append, Nat.mul_comm (x % 2 ^ z)]
        rfl
    . rintro σ Hx ⟨v6, v7, v8, rfl, s1, hl1⟩
      exact ⟨_, rfl, kk la Hx s1 hla hl1⟩
def zgx (t : Ad) : Sp := fun vs H Q _ => ∃ (a ca : Addr) (w h : Nat) (c l : List Px), vs = [.ref a, .ref ca] /\ xb t H a w h (.table c) /\ H ca = some (.lst (zm (zh l))) /\ (∀ p ∈ l, yf p) /\ l.length = up w (2 ^ packedBits c.length) * h /\ 0 < w /\ 0 < h /\ w * h <= 2 ^ 20 /\
  ∀ la H', zN H H' -> H' la = some (.lst (zm (zh ((List.range (w * h)).map (vy w c l))))) -> Q (.ref la) H'
theorem zcL : zn ["self", "colours", "across", "done", "begin"] ["self", "colours"] (zi zkL) := by trivial
theorem zlj {f : Addr} {fd : FuncData} (F : Fun K "undone" "Table.undone" zkL f fd) (T : Tx K mg t) (T2 : Tx2 K mg t) (Gw : zD P w K mg base 2 t.CD "packed_width" ["self"] (wM t)) (Gk : zD P w K mg base 1 t.CD "unpacked" ["self", "row"] (zgr t)) :
    z0 P w K mg base (CXe P w) 3 f fd ["self", "colours"] (zgx t) := by
  refine F.okE zcL (fun vs H Q E h => ?_) (fun cdv A outer s H vs Q E hr h => ?_)
  . obtain ⟨a, ca, w, h, c, l, rfl, _⟩ := h
    rfl
  . obtain ⟨a, ca, w, h, c, l, rfl, ⟨dx, cl, ha, hcl, hcok, hc0, hc256⟩, hca, hok, hll, hw, hh, hwh, kk⟩ := h
    have hr1 : yC 1 _ := hr.mono (by decide)
    refine ⟨_, zb (zp (i := 2) zcL.nd rfl (Or.inl rfl) (pm0 Gw Lv.of T2.cD hr (pv 0)))
      (zb (zp (i := 3) zcL.nd rfl (Or.inl rfl) (yc ze))
      (zb (yV Lv.of.own rfl (zfH rfl T.range (za zg (za (zG zC (by rfl) T.len PySem.boot_len (za (pv 1) ze)) (za (pv 2) ze)))) (z6 (i := 4) zcL.nd rfl (Or.inl rfl))
        (zf (zZ (xz PySem.F.plainAttrs_list PySem.F.slot_list_extend PySem.F.type_list_extend zbw (pv 3) (za (pm Gk Lv.of T2.cD hr1 (pv 0) (za (j6 zcF (pv 1) (qK (pv 4)) (qK (zl zL (pv 4) (pv 2)))) ze)) ze)))))
      (zf (zr (pv 3))))), ?_⟩
    have hwle : w <= 2 ^ 20 := Nat.le_trans (Nat.le_mul_of_pos_right w hh) hwh
    have hhle : h <= 2 ^ 20 := Nat.le_trans (Nat.le_mul_of_pos_left h hw) hwh
    have hzp : 0 < (2 : Nat) ^ packedBits c.length := Nat.pow_pos (by decide)
    refine ⟨_, rfl, a, dx, _, rfl, ha, zdv _ _ _ (by decide +kernel) (by decide +kernel) (by decide +kernel), a, dx, cl, w, packedBits c.length, rfl, ha, Nat.le_trans (kT _) (by decide), ?_⟩
    have hwp := wr hzp hw
    have hwpl : up w (2 ^ packedBits c.length) <= w := zbF hzp
    generalize hwpe : up w (2 ^ packedBits c.length) = wp at *
    have hlle : l.length <= 2 ^ 20 := by rw [hll]; exact Nat.le_trans (Nat.mul_le_mul_right h hwpl) hwh
    refine ⟨Nat.zero_le _, fun da hda => ?_⟩
    have sm0 : zN H (upd H da (.lst [])) := zt (zN.refl _) hda
    have hd0 : upd H da (.lst []) da = some (.lst (zm (zh ((List.range (w * 0)).map (vy w c l))))) := by rw [zc, Nat.mul_zero]; rfl
    generalize upd H da (.lst []) = H0 at sm0 hd0
    have hsz : Builtin.Range.rangeSize 0 ((zm (zh l)).length : Int) (wp : Int) = ((h : Nat) : Int) := by
      rw [rangeSize_pos (by omega) (by omega), zaC, hll, Int.natCast_mul]
      have e : (wp : Int) * (h : Int) + (wp : Int) - 1 = ((wp : Int) - 1) + (h : Int) * (wp : Int) := by rw [Int.mul_comm]; omega
      rw [e, Int.add_mul_ediv_right _ _ (by omega), Int.ediv_eq_zero_of_lt (by omega) (by omega), Int.zero_add]
    refine ⟨_, rfl, ca, _, rfl, .inl (SqL.of (sm0 _ _ hca)), _, rfl, 0, _, (wp : Int), h, rfl, ⟨by omega, by omega, zk9 (by omega) (by rw [zaC]; omega) (by omega) (by omega), hsz⟩, zd0 (n := h) (fun i σ Hx => ∃ v4, σ = [some (.ref a), some (.ref ca), some (nat wp), some (.ref da), v4] /\ zN H Hx /\ Hx da = some (.lst (zm (zh ((List.range (w * i)).map (vy w c l)))))) ⟨none, rfl, sm0, hd0⟩ ?_ ?_⟩
    . rintro y σ Hx hy ⟨v4, rfl, s1, hd1⟩
      rw [show (0 : Int) + ((y : Nat) : Int) * (wp : Int) = ((y * wp : Nat) : Int) by rw [Int.natCast_mul]; omega]
      have hYe : y * wp + wp <= l.length := by
        have h1 : (y + 1) * wp <= h * wp := Nat.mul_le_mul_right wp hy
        rw [Nat.add_mul, Nat.one_mul, Nat.mul_comm h wp] at h1
        omega
      have ecut : zeb (zm (zh l)) (some ((y * wp : Nat) : Int)) (some (((y * wp : Nat) : Int) + (wp : Int))) = zm (zh ((l.drop (y * wp)).take wp)) := by
        rw [show ((y * wp : Nat) : Int) + (wp : Int) = ((y * wp + wp : Nat) : Int) by omega, wv (by omega) (by rw [yF]; exact hYe), show y * wp + wp - y * wp = wp by omega]
        unfold zh
        rw [List.map_take, List.map_drop]
      refine ⟨_, rfl, .inl ⟨rfl, _, SqL.of hd1⟩, _, rfl, a, dx, _, rfl, s1 _ _ ha, zdv _ _ _ (by decide +kernel) (by decide +kernel) (by decide +kernel), _, rfl, _, rfl, _, rfl, _, rfl, _, rfl, _, _, rfl, rfl, _, rfl, ca, _, rfl, SqL.of (s1 _ _ hca), fun ra hra => ?_⟩
      rw [ecut]
      have s2 : zN H (upd Hx ra (.lst (zm (zh ((l.drop (y * wp)).take wp))))) := zt s1 hra
      refine ⟨a, ra, dx, cl, w, c, (l.drop (y * wp)).take wp, rfl, s2 _ _ ha, s2 _ _ hcl, hcok, hc256, zc, fun p hp => hok p (List.mem_of_mem_drop (List.mem_of_mem_take hp)), ?_, hwle, fun la H3 s3 nla hla => ?_⟩
      . rw [List.length_take, List.length_drop, hwpe]; omega
      . have hd3 : H3 da = some (.lst (zm (zh ((List.range (w * y)).map (vy w c l))))) := s3 _ _ (by rw [zk (zd hd1 hra)]; exact hd1)
        refine ⟨da, la, _, _, rfl, rfl, hd3, hla, ?_, ?_⟩
        . rw [zaC, zaC, List.length_map, List.length_map, List.length_range, List.length_range]
          have h1 : w * (y + 1) <= w * h := Nat.mul_le_mul_left w hy
          rw [Nat.mul_succ] at h1
          exact Nat.le_trans (by omega : w * y + w <= 2 ^ 20) (by decide)
        . refine ⟨_, rfl, ?_, ?_⟩
          . exact fun b o e => by
              have e3 : H3 b = some o := s3 b o (s2 b o e)
              rw [zk (zd e hda)]
              exact e3
          . rw [zc, zi2]
            unfold zh
            rw [List.map_append, yw]
            congr 4
            refine congrArg (List.map Px.word) (List.map_congr_left ?_)
            intro x hx
            have hxw : x < w := List.mem_range.mp hx
            rw [ziS hxw, hwpe]
            congr 2
            have hxp : x / 2 ^ packedBits c.length < wp := by rw [<- hwpe]; exact yU hzp hxw
            rw [List.getD_eq_getElem?_getD, List.getD_eq_getElem?_getD, List.getElem?_take_of_lt hxp, List.getElem?_drop]
    . rintro σ Hx ⟨v4, rfl, s1, hd1⟩
      exact ⟨_, rfl, kk da Hx s1 hd1⟩
end
end Lk
end
section
namespace Lk
open PySem PySem.Spec PyProof.Rows L2
open Sn15 (Px black up Trans packedBits uncross undoAll MOSTELEMENTS)
abbrev zjQ : Stmt := zU (top 97) 2
abbrev znh : Stmt := zU (top 103) 1
abbrev zjJ : Stmt := top 115
theorem zh2 {w : Nat} (hw : 0 < w) : ∀ ts : List Trans, 0 < jO w ts /\ jO w ts <= w := by
  intro ts
  induction ts generalizing w with
  | nil => exact ⟨hw, Nat.le_refl _⟩
  | cons x r ih =>
    obtain ⟨h1, h2⟩ := zaK (tr := x) hw
    obtain ⟨h3, h4⟩ := ih h1
    exact ⟨h3, Nat.le_trans h4 h2⟩
def zm1 (c : Bool) (l : List Px) : List Px := if c = true then l else l.map fun p => { p with a := 255 }
def o4 (c : Bool) (p : Px) : List Nat := [p.r, p.g, p.b, if c = true then p.a else 255]
theorem zlh (c : Bool) (l : List Px) : vd (zm1 c l) = l.flatMap (o4 c) := by
  cases c with
  | true => rfl
  | false =>
    unfold vd zm1
    rw [if_neg (by decide), List.flatMap_map]
    rfl
theorem zgw (c : Bool) : ∀ l : List Px, (l.flatMap (o4 c)).length = 4 * l.length
  | [] => rfl
  | p :: r => by
    rw [List.flatMap_cons, List.length_append, zgw c r, List.length_cons]
    show 4 + _ = _
    omega
section
variable {P : Program} {w : World} {K : PySem.W.Frag} {mg : Str -> Option Value} {base : Heap} {t : Ad}
def zge (t : Ad) : Sp := fun vs H Q _ => ∃ (F : Fa) (ca : Addr) (w h wE : Nat) (had : List Nat) (as : List Addr) (ts : List Trans) (l : List Px), vs = [.ref F.p, .ref ca] /\ FAt t H F wE h had as /\ yr t H w h as ts /\ (∀ z ∈ ts, qH z) /\ H ca = some (.lst (zm (zh l))) /\ (∀ p ∈ l, yf p) /\
  l.length = jO w ts * h /\ 0 < w /\ 0 < h /\ w * h <= 2 ^ 20 /\ ∀ la H', zN H H' -> H' la = some (.lst (zm (zh (undoAll w h ts l)))) -> Q (.ref la) H'
theorem zgY : zn ["self", "colours", "step"] ["self", "colours"] (zi zjQ) := by trivial
theorem zkW {f : Addr} {fd : FuncData} (F : Fun K "undone" "Transforms.undone" zjQ f fd) (T2 : Tx2 K mg t) (T3 : Tx3 K mg t) (GP : zD P w K mg base 4 t.CP "undone" ["self", "colours"] (zfh t)) (GK : zD P w K mg base 4 t.CK "undone" ["self", "colours"] (zgt t)) (GE : zD P w K mg base 3 t.CE "undone" ["self", "colours"] (zfS t)) (GD : zD P w K mg base 3 t.CD "undone" ["self", "colours"] (zgx t)) :
    z0 P w K mg base (CXe P w) 5 f fd ["self", "colours"] (zge t) := by
  refine F.okE zgY (fun vs H Q E h => ?_) (fun cdv A outer s H vs Q E hr h => ?_)
  . obtain ⟨Fa, ca, w, h, wE, had, as, ts, l, rfl, _⟩ := h
    rfl
  . obtain ⟨Fa, ca, w, h, wE, had, as, ts, l, rfl, FA, sts, tok, hca, hok, hll, hw, hh, hwh, kk⟩ := h
    have hr3 : yC 3 _ := hr.mono (by decide)
    refine ⟨_, zb (yV Lv.of.own rfl (zbB (by rfl) T3.rev (za (zy (pv 0) rfl) ze)) (z6 (i := 2) zgY.nd rfl (Or.inl rfl))
        (zf (zp (i := 1) zgY.nd rfl (Or.inl rfl) (zfR (pm GP Lv.of T2.cP hr (pv 2) (za (pv 1) ze)) (zfR (pm GK Lv.of T2.cK hr (pv 2) (za (pv 1) ze)) (zfR (pm GE Lv.of T2.cE hr3 (pv 2) (za (pv 1) ze)) (pm GD Lv.of T2.cD hr3 (pv 2) (za (pv 1) ze))))))))
      (zf (zr (pv 1))), ?_⟩
    obtain ⟨dx, hin⟩ := FA.ins
    have hal := sts.len
    refine ⟨_, rfl, Fa.p, t.CF, dx, _, _, rfl, hin, T2.cF, T2.fS, zeS _ _ _ _, Fa.s, as.map V.ref, rfl, SqL.of FA.stp, zkv (K := K) (a := Fa.s) (xs := as.map V.ref)
      (fun i σ Hx => ∃ ca' v2, σ = [some (.ref Fa.p), some (.ref ca'), v2] /\ zN H Hx /\ Hx ca' = some (.lst (zm (zh (yP w h ts l (ts.length - i)))))) ⟨ca, none, rfl, zN.refl _, by rw [Nat.sub_zero, jM]; exact hca⟩ (fun i σ Hx _ h => by obtain ⟨_, _, _, s1, _⟩ := h; exact SqL.of (s1 _ _ FA.stp)) ?_ ?_⟩
    . rintro i x σ Hx hi hx ⟨ca', v2, rfl, s1, hc1⟩
      rw [List.length_map, hal] at hi hx
      rw [List.getElem?_map] at hx
      have hja : as[ts.length - 1 - i]? = some (as[ts.length - 1 - i]'(by omega)) := List.getElem?_eq_getElem (by omega)
      rw [hja] at hx
      have ex : V.ref (as[ts.length - 1 - i]'(by omega)) = x := Option.some.inj hx
      generalize as[ts.length - 1 - i]'(by omega) = a at hja ex
      subst ex
      obtain ⟨tr, htr, st⟩ := sts.get _ a hja
      have st1 := st.same s1
      have ej : ts.length - i = ts.length - 1 - i + 1 := by omega
      rw [ej] at hc1
      obtain ⟨gl, go⟩ := xQ tok hll hok (ts.length - (ts.length - 1 - i + 1)) (ts.length - 1 - i + 1) (by omega)
      have hstep := qT (w := w) (h := h) (l := l) htr
      have htake : jO w (ts.take (ts.length - 1 - i + 1)) = zaE (jO w (ts.take (ts.length - 1 - i))) tr := by
        obtain ⟨hj, et⟩ := List.getElem?_eq_some_iff.mp htr
        rw [List.take_succ_eq_append_getElem hj, et, qW]
      rw [htake] at gl
      obtain ⟨wp0, wple⟩ := zh2 hw (ts.take (ts.length - 1 - i))
      have e2 : ts.length - (i + 1) = ts.length - 1 - i := by omega
      generalize jO w (ts.take (ts.length - 1 - i)) = wj at *
      generalize yP w h ts l (ts.length - 1 - i + 1) = lj at *
      have hwj : wj * h <= 2 ^ 20 := Nat.le_trans (Nat.mul_le_mul_right h wple) hwh
      have fin : ∀ la H', zN Hx H' -> H' la = some (.lst (zm (zh (tr.undo wj h lj)))) -> ∃ ca' v2, [some (V.ref Fa.p), some (V.ref la), some (V.ref a)] = [some (V.ref Fa.p), some (V.ref ca'), v2] /\ zN H H' /\ H' ca' = some (.lst (zm (zh (yP w h ts l (ts.length - (i + 1)))))) := fun la H' s' hla =>
        ⟨la, _, rfl, s1.trans s', by rw [e2, hstep]; exact hla⟩
      cases tr with
      | predict k m =>
        obtain ⟨adx, sa, cl, ha, _⟩ := id st1
        exact .inl ⟨_, rfl, a, adx, _, rfl, ha, zfm _ _ (by decide +kernel) (by decide +kernel), _, rfl, a, ca', wj, h, k, m, lj, rfl, st1, hc1, go, gl, wp0, hh, hwj, fin⟩
      | cross k m =>
        obtain ⟨adx, sa, cl, ha, _⟩ := id st1
        exact .inr (.inl ⟨_, rfl, a, adx, _, rfl, ha, zfm _ _ (by decide +kernel) (by decide +kernel), _, rfl, a, ca', wj, h, k, m, lj, rfl, st1, hc1, go, gl, wp0, hh, hwj, fin⟩)
      | green =>
        obtain ⟨adx, ha⟩ := id st1
        have gl' : lj.length = wj * h := gl
        exact .inr (.inr (.inl ⟨_, rfl, a, adx, _, rfl, ha, rfl, _, rfl, a, ca', lj, rfl, hc1, go, by rw [gl']; exact hwj, fin⟩))
      | table c =>
        obtain ⟨adx, cl, ha, _⟩ := id st1
        exact .inr (.inr (.inr ⟨_, rfl, a, adx, _, rfl, ha, zdv _ _ _ (by decide +kernel) (by decide +kernel) (by decide +kernel), _, rfl, a, ca', wj, h, c, lj, rfl, st1, hc1, go, gl, wp0, hh, hwj, fin⟩))
    . rintro σ Hx ⟨ca', v2, rfl, s1, hc1⟩
      rw [List.length_map, hal, Nat.sub_self, qU] at hc1
      exact ⟨_, rfl, kk ca' Hx s1 hc1⟩
def zkw (t : Ad) : Sp := fun vs H Q _ => ∃ (a : Addr) (s : Nat × Nat × Nat), vs = [.ref a] /\ zhp t H a s /\ s.1 <= 2 ^ 20 /\ Q (nat (4 * (s.1 * s.2.1))) H
theorem znf : zn ["self"] ["self"] (zi znh) := by trivial
theorem zmZ {f : Addr} {fd : FuncData} (F : Fun K "octets_in_all" "Head.octets_in_all" znh f fd) (T2 : Tx2 K mg t) : z0 P w K mg base (CXe P w) 1 f fd ["self"] (zkw t) := by
  refine F.okE znf (fun vs H Q E h => ?_) (fun cdv A outer s H vs Q E hr h => ?_)
  . obtain ⟨a, s, rfl, _⟩ := h
    rfl
  . obtain ⟨a, ⟨w, h, al⟩, rfl, ⟨dx, ha⟩, hw, k⟩ := h
    dsimp only at ha hw k
    refine ⟨_, zf (zr (zl xA (zl xA zg (zy (pv 0) rfl)) (zy (pv 0) rfl))), ?_⟩
    refine ⟨_, rfl, a, t.CH, dx, _, _, rfl, ha, T2.cH, T2.hW, zmr _ _ _, _, _, rfl, rfl, .inl ⟨by decide, by decide⟩, _, rfl, a, t.CH, dx, _, _, rfl, ha, T2.cH, T2.hH, zkD _ _ _, _, _, rfl, rfl, .inl ⟨by omega, by omega⟩, ?_⟩
    dsimp only
    have e : (4 : Int) * (w : Int) * (h : Int) = ((4 * (w * h) : Nat) : Int) := by
      rw [Int.natCast_mul, Int.natCast_mul, Int.mul_assoc]
      rfl
    rw [e]
    exact k
def zeJ : Sp := fun vs H Q _ => ∃ (ca : Addr) (c : Bool) (l : List Px), vs = [.ref ca, .bl c] /\ H ca = some (.lst (zm (zh l))) /\ (∀ p ∈ l, yf p) /\ l.length <= 2 ^ 20 /\ ∀ la H', zN H H' -> H' la = some (.lst (zm (l.flatMap (o4 c)))) -> Q (.ref la) H'
theorem zdq : zn ["colours", "alphas_count", "octets", "colour", "alpha"] ["colours", "alphas_count"] (zi zjJ) := by trivial
theorem zkS {f : Addr} {fd : FuncData} (F : Fun K "octets_of" "octets_of" zjJ f fd) : z0 P w K mg base (CXe P w) 1 f fd ["colours", "alphas_count"] zeJ := by
  refine F.okE zdq (fun vs H Q E h => ?_) (fun cdv A outer s H vs Q E hr h => ?_)
  . obtain ⟨ca, c, l, rfl, _⟩ := h
    rfl
  . obtain ⟨ca, c, l, rfl, hca, hok, hlen, kk⟩ := h
    refine ⟨_, zb (zp (i := 2) zdq.nd rfl (Or.inl rfl) (yc ze))
      (zb (yV Lv.of.own rfl (kE (pv 0)) (z6 (i := 3) zdq.nd rfl (Or.inl rfl))
        (zb (zp (i := 4) zdq.nd rfl (Or.inl rfl) (xP (zjd (pv 1)) (zl ya (pv 3) zg) zg))
        (zf (zZ (xz PySem.F.plainAttrs_list PySem.F.slot_list_extend PySem.F.type_list_extend zea (pv 2) (za (zjn (za (zl zW (zl ya (pv 3) zg) zg) (za (zl zW (zl ya (pv 3) zg) zg) (za (zl zW (pv 3) zg) (za (pv 4) ze))))) ze))))))
      (zf (zr (pv 2)))), ?_⟩
    refine ⟨Nat.zero_le _, fun la hla => ?_⟩
    have sm0 : zN H (upd H la (.lst [])) := zt (zN.refl _) hla
    refine ⟨_, rfl, ca, rfl, ⟨_, SqL.of (sm0 _ _ hca)⟩, wF (K := K) (a := ca) (xs := zm (zh l))
      (fun i σ Hx => ∃ v3 v4, σ = [some (.ref ca), some (.bl c), some (.ref la), v3, v4] /\ zN H Hx /\ Hx la = some (.lst (zm ((l.take i).flatMap (o4 c))))) ⟨none, none, rfl, sm0, by rw [zc, List.take_zero]; rfl⟩ (fun i σ Hx _ h => by obtain ⟨_, _, _, s1, _⟩ := h; exact SqL.of (s1 _ _ hca)) ?_ ?_⟩
    . rintro i x σ Hx hx ⟨v3, v4, rfl, s1, hl1⟩
      obtain ⟨p, hi, hp, rfl⟩ := jn hx
      have hpok : yf p := hok p (by rw [<- hp]; exact List.getElem_mem hi)
      have e1 : l.take (i + 1) = l.take i ++ [p] := by rw [List.take_succ_eq_append_getElem hi, hp]
      have hlt : (zm ((l.take i).flatMap (o4 c))).length + 4 <= sizeLine := by
        rw [zo, zgw, List.length_take]
        exact Nat.le_trans (by omega : 4 * min i l.length + 4 <= 2 ^ 23) (by decide)
      have ext : ∀ ta : Addr, Hx ta = none -> ∀ vs : List V, vs = zm (o4 c p) -> ∃ v3 v4, [some (V.ref ca), some (V.bl c), some (V.ref la), some (nat p.word), some (nat (if c = true then p.a else 255))] = [some (V.ref ca), some (V.bl c), some (V.ref la), v3, v4] /\ zN H (upd (upd Hx ta (.tup vs)) la (.lst (zm ((l.take i).flatMap (o4 c)) ++ vs))) /\
          upd (upd Hx ta (.tup vs)) la (.lst (zm ((l.take i).flatMap (o4 c)) ++ vs)) la = some (.lst (zm ((l.take (i + 1)).flatMap (o4 c)))) := fun ta hta vs hvs =>
        ⟨_, _, rfl, yo (zt s1 hta) hla, by rw [zc, hvs, <- yw, e1, List.flatMap_append, List.flatMap_singleton]⟩
      refine ⟨_, rfl, c, rfl, yG (fun hc => ?_) (fun hc => ?_)⟩
      . refine ⟨_, rfl, _, _, rfl, rfl, (by show (0 : Int) <= 24; decide), ?_⟩
        dsimp -proj only
        rw [kI hpok]
        refine ⟨_, rfl, .inl ⟨rfl, _, SqL.of hl1⟩, _, rfl, _, _, rfl, rfl, (by show (0 : Int) <= 16; decide), _, _, rfl, rfl, _, rfl, _, _, rfl, rfl, (by show (0 : Int) <= 8; decide), _, _, rfl, rfl, _, rfl, _, _, rfl, rfl, _, rfl, ?_⟩
        dsimp -proj only
        rw [va hpok, yD hpok, je hpok]
        refine ⟨(by show 4 <= sizeLine; decide), fun ta hta => ⟨la, ta, _, _, rfl, rfl, by rw [zk (zd hl1 hta)]; exact hl1, SqT.of zc, hlt, ?_⟩⟩
        have := ext ta hta _ (show zm [p.r, p.g, p.b, p.a] = _ by unfold o4; rw [if_pos hc])
        rw [if_pos hc] at this
        exact this
      . refine ⟨_, rfl, .inl ⟨rfl, _, SqL.of hl1⟩, _, rfl, _, _, rfl, rfl, (by show (0 : Int) <= 16; decide), _, _, rfl, rfl, _, rfl, _, _, rfl, rfl, (by show (0 : Int) <= 8; decide), _, _, rfl, rfl, _, rfl, _, _, rfl, rfl, _, rfl, ?_⟩
        dsimp -proj only
        rw [va hpok, yD hpok, je hpok]
        refine ⟨(by show 4 <= sizeLine; decide), fun ta hta => ⟨la, ta, _, _, rfl, rfl, by rw [zk (zd hl1 hta)]; exact hl1, SqT.of zc, hlt, ?_⟩⟩
        have := ext ta hta _ (show zm [p.r, p.g, p.b, 255] = _ by unfold o4; rw [if_neg hc])
        rw [if_neg hc] at this
        exact this
    . rintro σ Hx ⟨v3, v4, rfl, s1, hl1⟩
      rw [zaC, List.take_length] at hl1
      exact ⟨_, rfl, kk la Hx s1 hl1⟩
end
end Lk
end
section
namespace Lk
open PySem PySem.Spec PyProof.Rows L2
open Sn15 (Px black up Trans packedBits uncross undoAll MOSTELEMENTS)
abbrev zjX : Stmt := top 114
abbrev zk1 : Stmt := top 113
theorem zkA (c : zlO) : zay c = zm1 (decide (c.1.2.2 = 1)) (undoAll c.1.1 c.1.2.1 c.2.1 c.2.2) := by
  unfold zay zm1
  by_cases h : c.1.2.2 = 1
  . rw [if_pos h, if_pos (decide_eq_true h)]
  . rw [if_neg h, if_neg (fun z => h (of_decide_eq_true z))]
section
variable {P : Program} {w : World} {K : PySem.W.Frag} {mg : Str -> Option Value} {base : Heap} {t : Ad}
def zho (K : PySem.W.Frag) (t : Ad) : Sp := fun vs H Q E => ∃ (most : Int) (d : Addr) (b : List Nat), vs = [.int most, .ref d] /\ SqL K H d (zm b) /\ (∀ c ∈ b, c < 256) /\ b.length <= 100000 /\ (most < 0 \/ 4194304 < most -> ∀ H', E (.ref t.CO) none H') /\
  (¬ (most < 0 \/ 4194304 < most) -> (y8 b = none -> ∀ H', E (.ref t.CN) none H') /\ ∀ c, y8 b = some c -> (MOSTELEMENTS < c.1.1 * c.1.2.1 -> ∀ H', E (.ref t.CT) none H') /\
    (¬ MOSTELEMENTS < c.1.1 * c.1.2.1 -> (most < ((4 * (c.1.1 * c.1.2.1) : Nat) : Int) -> ∀ H', E (.ref t.CR) none H') /\
      (¬ most < ((4 * (c.1.1 * c.1.2.1) : Nat) : Int) -> ∀ la H', H' la = some (.lst (zm (vd (zay c)))) -> (vd (zay c)).length = 4 * (c.1.1 * c.1.2.1) -> Q (.ref la) H')))
theorem zfT : zn ["most", "data", "contents", "colours"] ["most", "data"] (zi zjX) := by trivial
theorem zkZ {f : Addr} {fd : FuncData} (F : Fun K "read_octets" "read_octets" zjX f fd) (T2 : Tx2 K mg t) (T3 : Tx3 K mg t) (Gc : zB P w K mg base 13 "read_contents" ["data"] (ze0 K t)) (Go : zD P w K mg base 1 t.CH "octets_in_all" ["self"] (zkw t))
    (Gu : zD P w K mg base 5 t.CF "undone" ["self", "colours"] (zge t)) (Gs : zB P w K mg base 1 "octets_of" ["colours", "alphas_count"] zeJ) : z0 P w K mg base (CXe P w) 14 f fd ["most", "data"] (zho K t) := by
  obtain ⟨uM, gM, rM⟩ := T3.kGM
  refine F.okE zfT (fun vs H Q E h => ?_) (fun cdv A outer s H vs Q E hr h => ?_)
  . obtain ⟨m, d, b, rfl, _⟩ := h
    rfl
  . obtain ⟨m, d, b, rfl, hS, hb, hlen, kr, kz⟩ := h
    have hr1 : yC 1 _ := hr.mono (by decide)
    have hr5 : yC 5 _ := hr.mono (by decide)
    refine ⟨_, zb (yh (PW.pt (zer (zw jW (pv 0) zg (zE _)) (we (zw qP (pv 0) (zH (by rfl) gM rM) (zE _))))) (zf (z7 Lv.of (by rfl) T3.gO T3.xO)) zI)
      (zb (zp (i := 2) zfT.nd rfl (Or.inl rfl) (pd Gc Lv.of hr (za (pv 1) ze)))
      (zb (yh (zw jW (pv 0) (pm0 Go Lv.of T2.cH hr1 (zy (pv 2) rfl)) (zE _)) (zf (z7 Lv.of (by rfl) T3.gR T3.xR)) zI)
      (zb (zp (i := 3) zfT.nd rfl (Or.inl rfl) (pm Gu Lv.of T2.cF hr5 (zy (pv 2) rfl) (za (zy (pv 2) rfl) ze)))
      (zf (zr (pd Gs Lv.of hr1 (za (pv 3) (za (zy (zy (pv 2) rfl) rfl) ze)))))))), ?_⟩
    have rest : ¬ (m < 0 \/ 4194304 < m) -> _ := kz
    refine ⟨_, rfl, _, _, rfl, rfl, _, rfl, yG (fun e => ?_) (fun e => ?_)⟩
    . exact zdB (kr (.inl (of_decide_eq_true e)) _)
    . have e' : ¬ m < 0 := fun z => e (decide_eq_true z)
      refine ⟨_, rfl, _, _, rfl, rfl, _, rfl, yG (fun e2 => ?_) (fun e2 => ?_)⟩
      . exact kr (.inr (of_decide_eq_true e2)) _
      . have e2' : ¬ 4194304 < m := fun z => e2 (decide_eq_true z)
        obtain ⟨kn, kc⟩ := kz (fun z => z.elim e' e2')
        refine ⟨_, rfl, d, b, rfl, hS, hb, hlen, kn, fun c hc => ⟨(kc c hc).1, fun nbig a H1 s1 hca => ?_⟩⟩
        obtain ⟨kl, kg⟩ := (kc c hc).2 nbig
        obtain ⟨dx, ha, Fa, had, as, la, e1, hh, FA, sts, hla⟩ := hca.ex
        obtain ⟨hdx, hha⟩ := id hh
        have hw0 := hca.w0
        have hh0 := hca.h0
        have hle : c.1.1 * c.1.2.1 <= 2 ^ 20 := by
          have : ¬ (1048576 : Nat) < c.1.1 * c.1.2.1 := nbig
          omega
        have hwle : c.1.1 <= 2 ^ 20 := Nat.le_trans (Nat.le_mul_of_pos_right _ hh0) hle
        refine ⟨_, rfl, _, rfl, a, t.CA, dx, _, _, rfl, e1, T2.cA, T2.aH, zmz _ _ _, ha, hdx, _, rfl, hha, zmW _ _ _ (by decide +kernel) (by decide +kernel) (by decide +kernel), ha, c.1, rfl, hh, hwle, _, _, rfl, rfl, _, rfl, yG (fun e3 => ?_) (fun e3 => ?_)⟩
        . exact kl (of_decide_eq_true e3) _
        . have e3' : ¬ m < ((4 * (c.1.1 * c.1.2.1) : Nat) : Int) := fun z => e3 (decide_eq_true z)
          obtain ⟨fdx, fin⟩ := FA.ins
          obtain ⟨gl, go⟩ := xQ (w := c.1.1) hca.tok hca.len hca.ok c.2.1.length 0 (by omega)
          rw [qU] at gl go
          have gl' : (undoAll c.1.1 c.1.2.1 c.2.1 c.2.2).length = c.1.1 * c.1.2.1 := gl
          refine ⟨_, rfl, a, t.CA, dx, _, _, rfl, e1, T2.cA, T2.aT, znn _ _ _, Fa.p, fdx, _, rfl, fin, zja _ _ _ _ (by decide +kernel) (by decide +kernel) (by decide +kernel) (by decide +kernel), _, rfl, a, t.CA, dx, _, _, rfl, e1, T2.cA, T2.aC, znr _ _ _,
            Fa, la, c.1.1, c.1.2.1, _, had, as, c.2.1, c.2.2, rfl, FA, sts, hca.tok, hla, hca.ok, hca.len, hw0, hh0, hle, fun ua H2 s2 hua => ?_⟩
          refine ⟨_, rfl, _, rfl, a, t.CA, dx, _, _, rfl, s2 _ _ e1, T2.cA, T2.aH, zmz _ _ _, ha, t.CH, hdx, _, _, rfl, s2 _ _ hha, T2.cH, T2.hA, znE _ _ _, ua, decide (c.1.2.2 = 1), _, rfl, hua, go, by rw [gl']; exact hle, fun oa H3 s3 hoa => ?_⟩
          have eo : vd (zay c) = (undoAll c.1.1 c.1.2.1 c.2.1 c.2.2).flatMap (o4 (decide (c.1.2.2 = 1))) := by rw [zkA, zlh]
          exact kg e3' oa H3 (by rw [eo]; exact hoa) (by rw [eo, zgw, gl'])
def zdf (K : PySem.W.Frag) : Sp := fun vs H Q _ => ∃ (most : Int) (d : Addr) (b : List Nat), vs = [.int most, .ref d] /\ SqL K H d (zm b) /\ (∀ c ∈ b, c < 256) /\ b.length <= 100000 /\ ∀ la H', H' la = some (.lst ((yY most b).map V.int)) -> Q (.ref la) H'
theorem zjf : zn ["most", "data", "octets"] ["most", "data"] (zi zk1) := by trivial
theorem zjw {f : Addr} {fd : FuncData} (F : Fun K "read" "read" zk1 f fd) (T : Tx K mg t) (T2 : Tx2 K mg t) (T3 : Tx3 K mg t) (Gk : zB P w K mg base 14 "read_octets" ["most", "data"] (zho K t))
    (x11 : PySem.W.exmOne K (.ref t.CO) (.ref t.CO) = some true) (x21 : PySem.W.exmOne K (.ref t.CN) (.ref t.CO) = some false) (x22 : PySem.W.exmOne K (.ref t.CN) (.ref t.CN) = some true)
    (x31 : PySem.W.exmOne K (.ref t.CT) (.ref t.CO) = some false) (x32 : PySem.W.exmOne K (.ref t.CT) (.ref t.CN) = some false) (x33 : PySem.W.exmOne K (.ref t.CT) (.ref t.CT) = some true)
    (x41 : PySem.W.exmOne K (.ref t.CR) (.ref t.CO) = some false) (x42 : PySem.W.exmOne K (.ref t.CR) (.ref t.CN) = some false) (x43 : PySem.W.exmOne K (.ref t.CR) (.ref t.CT) = some false) (x44 : PySem.W.exmOne K (.ref t.CR) (.ref t.CR) = some true) :
    z0 P w K mg base (CXe P w) 15 f fd ["most", "data"] (zdf K) := by
  obtain ⟨u1, g1, r1⟩ := T3.kTLR
  obtain ⟨u2, g2, r2⟩ := T3.kOOR
  obtain ⟨u3, g3, r3⟩ := T2.kNSF
  obtain ⟨u4, g4, r4⟩ := T2.kTOO
  refine F.okE zjf (fun vs H Q E h => ?_) (fun cdv A outer s H vs Q E hr h => ?_)
  . obtain ⟨m, d, b, rfl, _⟩ := h
    rfl
  . obtain ⟨m, d, b, rfl, hS, hb, hlen, k⟩ := h
    refine ⟨_, zb (zkF (E := fun C _ _ => (C = .ref t.CO /\ yY m b = [-2]) \/ (C = .ref t.CN /\ yY m b = [-3]) \/ (C = .ref t.CT /\ yY m b = [-4]) \/ (C = .ref t.CR /\ yY m b = [-1])) rfl rfl (by rfl) T3.gO (by rfl) T.gN (by rfl) T.gT (by rfl) T3.gR x11 x21 x22 x31 x32 x33 x41 x42 x43 x44
      (fun pn => zf (zp (i := 2) zjf.nd rfl (Or.inl rfl) (pdp Gk ziB hr (za (pv 0) (za (pv 1) ze)))))
      (fun pn e => zf (zr (yc (za (zH (by rfl) g2 r2) ze))))
      (fun pn e => zf (zr (yc (za (zH (by rfl) g3 r3) ze))))
      (fun pn e => zf (zr (yc (za (zH (by rfl) g4 r4) ze))))
      (fun pn e => zf (zr (yc (za (zH (by rfl) g1 r1) ze)))))
      (zf (zr (zl zje (yc (za (zG zC (by rfl) T.len PySem.boot_len (za (pv 2) ze)) ze)) (pv 2)))), ?_, ?_⟩
    . refine ⟨_, rfl, _, rfl, m, d, b, rfl, hS, hb, hlen, fun e _ => .inl ⟨rfl, by unfold yY; rw [if_pos e]⟩, fun ne => ⟨fun e _ => .inr (.inl ⟨rfl, by unfold yY; rw [if_neg ne, e]⟩), fun c e => ⟨fun big _ => .inr (.inr (.inl ⟨rfl, ?_⟩)), fun nbig => ⟨fun lt _ => .inr (.inr (.inr ⟨rfl, ?_⟩)), fun nlt la H' hla hl => ?_⟩⟩⟩⟩
      . unfold yY
        rw [if_neg ne, e]
        show (if MOSTELEMENTS < c.1.1 * c.1.2.1 then [-4] else _) = _
        rw [if_pos big]
      . unfold yY
        rw [if_neg ne, e]
        show (if MOSTELEMENTS < c.1.1 * c.1.2.1 then _ else if m < ((4 * (c.1.1 * c.1.2.1) : Nat) : Int) then _ else _) = _
        rw [if_neg nbig, if_pos lt]
      . have ea : yY m b = ((4 * (c.1.1 * c.1.2.1) : Nat) : Int) :: (vd (zay c)).map fun (n : Nat) => (n : Int) := by
          unfold yY
          rw [if_neg ne, e]
          show (if MOSTELEMENTS < c.1.1 * c.1.2.1 then _ else if m < ((4 * (c.1.1 * c.1.2.1) : Nat) : Int) then _ else _) = _
          rw [if_neg nbig, if_neg nlt]
        have hle : c.1.1 * c.1.2.1 <= 2 ^ 20 := by
          have : ¬ (1048576 : Nat) < c.1.1 * c.1.2.1 := nbig
          omega
        refine ⟨_, rfl, la, _, rfl, .inl (SqL.of hla), (by show 1 <= sizeLine; decide), fun z hz => ⟨_, rfl, z, la, _, _, rfl, rfl, zc, by rw [zk (zd hla hz)]; exact hla, ?_, fun p hp => k p _ ?_⟩⟩
        . rw [zo, hl]
          exact Nat.le_trans (show 1 + 4 * (c.1.1 * c.1.2.1) <= 2 ^ 23 by omega) (by decide)
        . rw [zc, zo, hl, ea, List.map_cons, List.map_map]
          rfl
    . rintro C H' σ' (⟨rfl, e⟩ | ⟨rfl, e⟩ | ⟨rfl, e⟩ | ⟨rfl, e⟩)
      . refine .inl ⟨rfl, (by show 1 <= sizeLine; decide), fun p hp => ?_⟩
        rw [e] at k
        exact k p _ zc
      . refine .inr (.inl ⟨rfl, (by show 1 <= sizeLine; decide), fun p hp => ?_⟩)
        rw [e] at k
        exact k p _ zc
      . refine .inr (.inr (.inl ⟨rfl, (by show 1 <= sizeLine; decide), fun p hp => ?_⟩))
        rw [e] at k
        exact k p _ zc
      . refine .inr (.inr (.inr ⟨rfl, (by show 1 <= sizeLine; decide), fun p hp => ?_⟩))
        rw [e] at k
        exact k p _ zc
end
end Lk
end
section
namespace Lk
open PySem PySem.Spec PyProof.Rows L2
structure xn (K : PySem.W.Frag) (x : Str) (st : Stmt) : Prop where
  ex : ∃ f fd, PySem.W.nsIn K mainGlobals x = some (some (.ref f)) /\ Fun K x x st f fd
theorem za9 {K : PySem.W.Frag} {x : Str} {st : Stmt} {f : Addr} {oc : Value} {od an : Option Addr} {osl : Array (Option Value)} {kV doc pm cdv ct : Value} (a : PySem.W.nsIn K mainGlobals x = some (some (.ref f)))
    (l : K.lookup f = some ⟨oc, od, .func (PySem.W.fnOf x x (xS st) (xt st) (zi st) .none kV doc pm an cdv ct), osl⟩) (c : PySem.W.codeIn K cdv x = true) (k : PySem.W.keepIn K (.ref f) = true) : xn K x st := ⟨_, _, a, ⟨_, _, _, _, _, _, _, _, _, rfl, l, c⟩, k⟩
structure xZ (K : PySem.W.Frag) (C : Addr) (m qual : Str) (st : Stmt) : Prop where
  ex : ∃ f fd, zmD K C m f /\ Fun K m qual st f fd
theorem zaS {K : PySem.W.Frag} {C : Addr} {m qual : Str} {st : Stmt} {f : Addr} {oc : Value} {od an : Option Addr} {osl : Array (Option Value)} {kV doc pm cdv ct : Value} (a : PySem.W.findIn K (.ref C) m = some (some (.ref f))) (i : PySem.W.isFn K (.ref f) = true)
    (l : K.lookup f = some ⟨oc, od, .func (PySem.W.fnOf m qual (xS st) (xt st) (zi st) .none kV doc pm an cdv ct), osl⟩) (c : PySem.W.codeIn K cdv qual = true) (k : PySem.W.keepIn K (.ref f) = true) : xZ K C m qual st := ⟨_, _, ⟨a, i, k⟩, ⟨_, _, _, _, _, _, _, _, _, rfl, l, c⟩, k⟩
structure zdu (K : PySem.W.Frag) (x : Str) (C : Addr) : Prop where
  nm : PySem.W.nsIn K mainGlobals x = some (some (.ref C))
  cl : Cls K C
  mks : PySem.W.makesIn K C = true
  kp : PySem.W.keepIn K (.ref C) = true
theorem zl9 {K : PySem.W.Frag} {x : Str} {C : Addr} (nm : PySem.W.nsIn K mainGlobals x = some (some (.ref C))) (pg : PySem.W.plainGet K C Str.empty = true) (hd : PySem.W.hasDictIn K C = true) (po : PySem.W.plainOver K C = true)
    (sa : PySem.W.findIn K (.ref C) "__setattr__" = some (some (.builtin "object.__setattr__"))) (mk : PySem.W.makesIn K C = true) (kp : PySem.W.keepIn K (.ref C) = true) : zdu K x C := ⟨nm, ⟨pg, hd, po, sa⟩, mk, kp⟩
structure yX (K : PySem.W.Frag) (x : Str) (i : Int) : Prop where
  ex : ∃ t, PySem.W.nsIn K mainGlobals x = some (some (.int i t))
theorem zl8 {K : PySem.W.Frag} {x : Str} {i : Int} {t : Tok} (a : PySem.W.nsIn K mainGlobals x = some (some (.int i t))) : yX K x i := ⟨t, a⟩
inductive zj (K : PySem.W.Frag) : List Value -> List (Int × Int) -> Prop
  | nil : zj K [] []
  | cons {b : Addr} {bs : List Value} {x y : Int} {ps : List (Int × Int)} {od : Option Addr} {tx ty : Tok} {n : Nat} {sl : Array (Option Value)} (l : K.lookup b = some ⟨.type "tuple", od, .seq #[.int x tx, .int y ty] n, sl⟩) (r : zj K bs ps) : zj K (.ref b :: bs) ((x, y) :: ps)
theorem zj.refs {K : PySem.W.Frag} {vs : List Value} {ps : List (Int × Int)} (h : zj K vs ps) : ∃ as : List Addr, vs = as.map Value.ref /\ as.length = ps.length /\ ∀ (i : Nat) (b : Addr), as[i]? = some b -> ∃ x y : Int, ps[i]? = some (x, y) /\ ∀ H, SqT K H b [.int x, .int y] := by
  induction h with
  | nil => exact ⟨[], rfl, rfl, fun i b e => by simp at e⟩
  | @cons b bs x y ps od tx ty n sl l r ih =>
    obtain ⟨as, e1, e2, e3⟩ := ih
    refine ⟨b :: as, by rw [e1]; rfl, by rw [List.length_cons, List.length_cons, e2], fun i b' e => ?_⟩
    cases i with
    | zero =>
      have eb : b = b' := Option.some.inj e
      subst eb
      exact ⟨x, y, rfl, fun H => .inr ⟨_, _, n, l, rfl, rfl, (by show 2 <= sizeLine; decide), .cons ⟨tx, rfl⟩ (.cons ⟨ty, rfl⟩ .nil)⟩⟩
    | succ j => exact e3 j b' e
theorem zhR : Sn15.NEAR = [(0, 1), (1, 0), (1, 1), (-1, 1), (0, 2), (2, 0), (1, 2), (-1, 2), (2, 1), (-2, 1), (2, 2), (-2, 2), (0, 3), (3, 0), (1, 3), (-1, 3), (3, 1), (-3, 1), (2, 3), (-2, 3), (3, 2), (-3, 2), (0, 4), (4, 0), (1, 4), (-1, 4), (4, 1), (-4, 1), (3, 3), (-3, 3), (2, 4), (-2, 4), (4, 2), (-4, 2), (0, 5), (3, 4), (-3, 4), (4, 3), (-4, 3), (5, 0), (1, 5), (-1, 5), (5, 1), (-5, 1), (2, 5), (-2, 5), (5, 2), (-5, 2), (4, 4), (-4, 4), (3, 5), (-3, 5), (5, 3), (-5, 3), (0, 6), (6, 0), (1, 6), (-1, 6), (6, 1), (-6, 1), (2, 6), (-2, 6), (6, 2), (-6, 2), (4, 5), (-4, 5), (5, 4), (-5, 4), (3, 6), (-3, 6), (6, 3), (-6, 3), (0, 7), (7, 0), (1, 7), (-1, 7), (5, 5), (-5, 5), (7, 1), (-7, 1), (4, 6), (-4, 6), (6, 4), (-6, 4), (2, 7), (-2, 7), (7, 2), (-7, 2), (3, 7), (-3, 7), (7, 3), (-7, 3), (5, 6), (-5, 6), (6, 5), (-6, 5), (8, 0), (4, 7), (-4, 7), (7, 4), (-7, 4), (8, 1), (8, 2), (6, 6), (-6, 6), (8, 3), (5, 7), (-5, 7), (7, 5), (-7, 5), (8, 4), (6, 7), (-6, 7), (7, 6), (-7, 6), (8, 5), (7, 7), (-7, 7), (8, 6), (8, 7)] := rfl
theorem vj : ∀ as : List Addr, yx (as.map V.ref) (as.map Value.ref)
  | [] => .nil
  | a :: r => .cons rfl (vj r)
section
variable {P : Program} {w : World} {K : PySem.W.Frag} {mg : Str -> Option Value} {base h : Heap} {x m qual : Str} {st : Stmt} {ps : List Str} {k : Nat} {sp : Sp} {C : Addr}
theorem yX.glob {i : Int} (N : yX K x i) (X : K.In h) (G : h.Ns mainGlobals mg) : ∃ u, mg x = some u /\ yq (.int i) u := by
  obtain ⟨t, a⟩ := N.ex
  exact ⟨_, PySem.W.mg_of X G a, t, rfl⟩
theorem xn.ok (F : xn K x st) (X : K.In h) (G : h.Ns mainGlobals mg) (hb : ∀ (kV doc pm : Value) (an : Option Addr) (cdv ct : Value) (us : List Value), us.length = ps.length -> bindArgs (PySem.W.fnOf x x (xS st) (xt st) (zi st) .none kV doc pm an cdv ct) ⟨us, []⟩ = pure (ps.zip us))
    (ok : ∀ {f : Addr} {fd : FuncData}, Fun K x x st f fd -> z0 P w K mg base (CXe P w) k f fd ps sp) : zB P w K mg base k x ps sp := by
  obtain ⟨f, fd, a, F⟩ := F.ex
  exact ⟨f, fd, ok F, PySem.W.mg_of X G a, F.kp, F.binds hb⟩
theorem xZ.ok (F : xZ K C m qual st) (hb : ∀ (kV doc pm : Value) (an : Option Addr) (cdv ct : Value) (us : List Value), us.length = ps.length -> bindArgs (PySem.W.fnOf m qual (xS st) (xt st) (zi st) .none kV doc pm an cdv ct) ⟨us, []⟩ = pure (ps.zip us))
    (ok : ∀ {f : Addr} {fd : FuncData}, Fun K m qual st f fd -> z0 P w K mg base (CXe P w) k f fd ps sp) : zD P w K mg base k C m ps sp := by
  obtain ⟨f, fd, M, F⟩ := F.ex
  exact ⟨f, fd, ok F, M, F.binds hb⟩
theorem xZ.make (F : xZ K C "__init__" qual st) (cl : zdu K x C) (X : K.In h) (G : h.Ns mainGlobals mg) (hb : ∀ (kV doc pm : Value) (an : Option Addr) (cdv ct : Value) (us : List Value), us.length = ps.length -> bindArgs (PySem.W.fnOf "__init__" qual (xS st) (xt st) (zi st) .none kV doc pm an cdv ct) ⟨us, []⟩ = pure (ps.zip us))
    (ok : ∀ {f : Addr} {fd : FuncData}, Fun K "__init__" qual st f fd -> z0 P w K mg base (CXe P w) k f fd ps sp) : yp P w K mg base k C x ps sp := by
  obtain ⟨f, fd, M, F⟩ := F.ex
  exact ⟨⟨f, fd, ok F, ⟨cl.mks, M.at_, M.fn, cl.kp⟩, F.binds hb⟩, PySem.W.mg_of X G cl.nm⟩
end
structure zaZ (K : PySem.W.Frag) (x : Str) (st : Stmt) (f : Addr) : Prop where
  ex : ∃ fd, Fun K x x st f fd
theorem zm6 {K : PySem.W.Frag} {x : Str} {st : Stmt} {f : Addr} {oc : Value} {od an : Option Addr} {osl : Array (Option Value)} {kV doc pm cdv ct : Value}
    (l : K.lookup f = some ⟨oc, od, .func (PySem.W.fnOf x x (xS st) (xt st) (zi st) .none kV doc pm an cdv ct), osl⟩) (c : PySem.W.codeIn K cdv x = true) (k : PySem.W.keepIn K (.ref f) = true) : zaZ K x st f := ⟨_, ⟨_, _, _, _, _, _, _, _, _, rfl, l, c⟩, k⟩
theorem zaZ.ok {P : Program} {w : World} {K : PySem.W.Frag} {mg : Str -> Option Value} {base : Heap} {x : Str} {st : Stmt} {ps : List Str} {k : Nat} {sp : Sp} {f : Addr} (F : zaZ K x st f) (hb : ∀ (kV doc pm : Value) (an : Option Addr) (cdv ct : Value) (us : List Value), us.length = ps.length -> bindArgs (PySem.W.fnOf x x (xS st) (xt st) (zi st) .none kV doc pm an cdv ct) ⟨us, []⟩ = pure (ps.zip us))
    (ok : ∀ {fd : FuncData}, Fun K x x st f fd -> z0 P w K mg base (CXe P w) k f fd ps sp) : ∃ fd : FuncData, z0 P w K mg base (CXe P w) k f fd ps sp /\ PySem.W.keepIn K (.ref f) = true /\ qL K fd ps [] := by
  obtain ⟨fd, F⟩ := F.ex
  exact ⟨fd, ok F, F.kp, F.binds hb⟩
theorem zak {α : Type} {l : List α} (h : l.length = 1) : ∃ a, l = [a] := List.length_eq_one_iff.mp h
theorem jj {α : Type} {l : List α} (h : l.length = 2) : ∃ a b, l = [a, b] := by
  cases l with
  | nil => cases h
  | cons a r =>
    obtain ⟨b, rfl⟩ := zak (Nat.succ.inj h)
    exact ⟨_, _, rfl⟩
theorem wd {α : Type} {l : List α} (h : l.length = 3) : ∃ a b c, l = [a, b, c] := by
  cases l with
  | nil => cases h
  | cons a r =>
    obtain ⟨b, c, rfl⟩ := jj (Nat.succ.inj h)
    exact ⟨_, _, _, rfl⟩
theorem vB {α : Type} {l : List α} (h : l.length = 4) : ∃ a b c d, l = [a, b, c, d] := by
  cases l with
  | nil => cases h
  | cons a r =>
    obtain ⟨b, c, d, rfl⟩ := wd (Nat.succ.inj h)
    exact ⟨_, _, _, _, rfl⟩
theorem zmg {P : Program} {w : World} {K : PySem.W.Frag} {h : Heap} {mg : Str -> Option Value} {fa : Addr} {CN CT CB CV CC CS CG CR CO CP CK CE CD CF CH CA : Addr} {odO odA : Option Addr} {itsO itsA : Array Value} {zO zA : Nat} {slO slA : Array (Option Value)} {aO aA : Addr} {odM odS : Option Addr} {itsM itsS : Array Value} {zM zS : Nat} {slM slS : Array (Option Value)} {aMo aSh m0 m1 m2 m3 m4 m5 m6 m7 m8 m9 m10 m11 m12 m13 : Addr} (X : K.In h) (G : h.Ns mainGlobals mg) (hfa : mg "read" = some (.ref fa))
    (nN : PySem.W.nsIn K mainGlobals "NoSuchFile" = some (some (.ref CN))) (xN : PySem.W.excIn K CN zfK "Exception.__new__" = true) (nT : PySem.W.nsIn K mainGlobals "TooLarge" = some (some (.ref CT))) (xT : PySem.W.excIn K CT zfK "Exception.__new__" = true) (nR : PySem.W.nsIn K mainGlobals "TooLittleRoom" = some (some (.ref CR))) (xR : PySem.W.excIn K CR zfK "Exception.__new__" = true) (nO : PySem.W.nsIn K mainGlobals "OutOfRange" = some (some (.ref CO))) (xO : PySem.W.excIn K CO zfK "Exception.__new__" = true) (x11 : PySem.W.exmOne K (.ref CO) (.ref CO) = some true) (x21 : PySem.W.exmOne K (.ref CN) (.ref CO) = some false) (x22 : PySem.W.exmOne K (.ref CN) (.ref CN) = some true) (x31 : PySem.W.exmOne K (.ref CT) (.ref CO) = some false) (x32 : PySem.W.exmOne K (.ref CT) (.ref CN) = some false) (x33 : PySem.W.exmOne K (.ref CT) (.ref CT) = some true) (x41 : PySem.W.exmOne K (.ref CR) (.ref CO) = some false) (x42 : PySem.W.exmOne K (.ref CR) (.ref CN) = some false) (x43 : PySem.W.exmOne K (.ref CR) (.ref CT) = some false) (x44 : PySem.W.exmOne K (.ref CR) (.ref CR) = some true) (cCB : zdu K "Bits" CB) (cCV : zdu K "Canvas" CV) (cCC : zdu K "Code" CC) (cCS : zdu K "Squares" CS) (cCG : zdu K "Groups" CG) (cCP : zdu K "Predictions" CP) (cCK : zdu K "Colours" CK) (cCE : zdu K "Greens" CE) (cCD : zdu K "Table" CD) (cCF : zdu K "Transforms" CF) (cCH : zdu K "Head" CH) (cCA : zdu K "Contents" CA) (iE : PySem.W.findIn K (.ref CE) "__init__" = some (some (.builtin "object.__init__"))) (n0 : PySem.W.findIn K (.ref CB) "octets" = some none) (n1 : PySem.W.findIn K (.ref CB) "place" = some none) (n2 : PySem.W.findIn K (.ref CB) "end" = some none) (n3 : PySem.W.findIn K (.ref CV) "width" = some none) (n4 : PySem.W.findIn K (.ref CV) "size" = some none) (n5 : PySem.W.findIn K (.ref CV) "colours" = some none) (n6 : PySem.W.findIn K (.ref CV) "depth" = some none) (n7 : PySem.W.findIn K (.ref CV) "cache" = some none) (n8 : PySem.W.findIn K (.ref CC) "words" = some none) (n9 : PySem.W.findIn K (.ref CC) "sole" = some none) (n10 : PySem.W.findIn K (.ref CS) "shift" = some none) (n11 : PySem.W.findIn K (.ref CS) "across" = some none) (n12 : PySem.W.findIn K (.ref CS) "colours" = some none) (n13 : PySem.W.findIn K (.ref CG) "squares" = some none) (n14 : PySem.W.findIn K (.ref CG) "groups" = some none) (n15 : PySem.W.findIn K (.ref CP) "width" = some none) (n16 : PySem.W.findIn K (.ref CP) "squares" = some none) (n17 : PySem.W.findIn K (.ref CK) "width" = some none) (n18 : PySem.W.findIn K (.ref CK) "squares" = some none) (n19 : PySem.W.findIn K (.ref CD) "width" = some none) (n20 : PySem.W.findIn K (.ref CD) "shift" = some none) (n21 : PySem.W.findIn K (.ref CD) "colours" = some none) (n22 : PySem.W.findIn K (.ref CF) "width" = some none) (n23 : PySem.W.findIn K (.ref CF) "height" = some none) (n24 : PySem.W.findIn K (.ref CF) "kinds" = some none) (n25 : PySem.W.findIn K (.ref CF) "steps" = some none) (n26 : PySem.W.findIn K (.ref CH) "width" = some none) (n27 : PySem.W.findIn K (.ref CH) "height" = some none) (n28 : PySem.W.findIn K (.ref CH) "alphas_count" = some none) (n29 : PySem.W.findIn K (.ref CA) "head" = some none) (n30 : PySem.W.findIn K (.ref CA) "transforms" = some none) (n31 : PySem.W.findIn K (.ref CA) "colours" = some none) (blen : PySem.W.nsIn K mainGlobals "len" = some none) (brange : PySem.W.nsIn K mainGlobals "range" = some none) (bmax : PySem.W.nsIn K mainGlobals "max" = some none) (bmin : PySem.W.nsIn K mainGlobals "min" = some none) (bsum : PySem.W.nsIn K mainGlobals "sum" = some none) (benumerate : PySem.W.nsIn K mainGlobals "enumerate" = some none) (bord : PySem.W.nsIn K mainGlobals "ord" = some none) (babs : PySem.W.nsIn K mainGlobals "abs" = some none) (breversed : PySem.W.nsIn K mainGlobals "reversed" = some none) (kSPREAD : yX K "SPREAD" 506832829) (kLOW : yX K "LOW_32" 4294967295) (kLONGEST : yX K "LONGEST" 15) (kFIRST : yX K "FIRST" 0) (kRED : yX K "RED" 1) (kBLUE : yX K "BLUE" 2) (kALPHA : yX K "ALPHA" 3) (kDISTANCE : yX K "DISTANCE" 4) (kPRED : yX K "PREDICTIONS" 0) (kCOL : yX K "COLOURS" 1) (kGRE : yX K "GREENS" 2) (kTAB : yX K "TABLE" 3) (kMODE : yX K "GREATEST_MODE" 13) (kSIG : yX K "SIGNATURE" 47) (kNSF : yX K "NO_SUCH_FILE" (-3)) (kTOO : yX K "TOO_LARGE" (-4)) (kLAR : yX K "LARGEST" 1048576) (kM1 : yX K "ALPHA_AND_GREEN" 4278255360) (kM2 : yX K "RED_AND_BLUE" 16711935) (kBLACK : yX K "BLACK" 4278190080) (kM3 : yX K "ALL_BUT_HIGHEST" 2139062143) (kTLR : yX K "TOO_LITTLE_ROOM" (-1)) (kOOR : yX K "OUT_OF_RANGE" (-2)) (kGM : yX K "GREATEST_MOST" 4194304) (gO : PySem.W.nsIn K mainGlobals "LENGTH_SYMBOLS" = some (some (.ref aO))) (lO : K.lookup aO = some ⟨.type "tuple", odO, .seq itsO zO, slO⟩) (vO : yx (zm Sn15.ORDER) itsO.toList) (sO : itsO.size <= sizeLine) (gA : PySem.W.nsIn K mainGlobals "NEAR" = some (some (.ref aA))) (lA : K.lookup aA = some ⟨.type "tuple", odA, .seq itsA zA, slA⟩) (sA : itsA.size <= sizeLine) (pA : zj K itsA.toList Sn15.NEAR) (gSh : PySem.W.nsIn K mainGlobals "SHIFTS" = some (some (.ref aSh))) (lSh : K.lookup aSh = some ⟨.type "tuple", odS, .seq itsS zS, slS⟩) (vSh : yx (zm [24, 16, 8, 0]) itsS.toList) (sSh : itsS.size <= sizeLine) (gMo : PySem.W.nsIn K mainGlobals "MODES" = some (some (.ref aMo))) (lMo : K.lookup aMo = some ⟨.type "tuple", odM, .seq itsM zM, slM⟩) (vMo : itsM.toList = [.ref m0, .ref m1, .ref m2, .ref m3, .ref m4, .ref m5, .ref m6, .ref m7, .ref m8, .ref m9, .ref m10, .ref m11, .ref m12, .ref m13]) (sMo : itsM.size <= sizeLine) (fM0 : zaZ K "mode_0" zhm m0) (fM1 : zaZ K "mode_1" zgo m1) (fM2 : zaZ K "mode_2" zeD m2) (fM3 : zaZ K "mode_3" zgV m3) (fM4 : zaZ K "mode_4" zhq m4) (fM5 : zaZ K "mode_5" zeV m5) (fM6 : zaZ K "mode_6" zeP m6) (fM7 : zaZ K "mode_7" zfQ m7) (fM8 : zaZ K "mode_8" zg6 m8) (fM9 : zaZ K "mode_9" zgO m9) (fM10 : zaZ K "mode_10" zbW m10) (fM11 : zaZ K "mode_11" zbS m11) (fM12 : zaZ K "mode_12" zb7 m12) (fM13 : zaZ K "mode_13" zbV m13) (mBit : xZ K CB "bit" "Bits.bit" znj) (mNum : xZ K CB "number" "Bits.number" zcn) (mLeft : xZ K CB "left" "Bits.left" zjW) (mB : xZ K CB "__init__" "Bits.__init__" zfW) (mC : xZ K CC "__init__" "Code.__init__" zgg) (mNext : xZ K CC "next_symbol" "Code.next_symbol" zjL) (fCol : xn K "code_of_lengths" zl2) (mV : xZ K CV "__init__" "Canvas.__init__" zf9) (mPut : xZ K CV "put" "Canvas.put" znx) (mPutC : xZ K CV "put_cached" "Canvas.put_cached" zjU) (mRep : xZ K CV "repeat" "Canvas.repeat" zcp) (fVal : xn K "read_value" zeK) (fDist : xn K "distance_of" zj4) (fMost : xn K "read_most_symbols" zlE) (fRun : xn K "read_run" znN) (fCofL : xn K "read_code_of_lengths" zi5) (fLens : xn K "read_lengths" zk8) (fShort : xn K "read_short_code" zgn) (fCode : xn K "read_code" zjK) (mS : xZ K CS "__init__" "Squares.__init__" zg1) (mG : xZ K CG "__init__" "Groups.__init__" zfj) (fGrpNo : xn K "group_number" zf7) (fDivUp : xn K "divided_up" zfu) (mColAt : xZ K CS "colour_at" "Squares.colour_at" zfx) (mGrpAt : xZ K CG "group_at" "Groups.group_at" zgW) (fDepth : xn K "read_cache_depth" zeX) (fColour : xn K "read_colour" zbD) (fStep : xn K "read_step" zkb) (fColours : xn K "read_colours" wN) (fGroup : xn K "read_group" zg4) (fPlain : xn K "read_plain_picture" zft) (fSquares : xn K "read_squares" zad) (fGroups : xn K "read_groups" zaf) (fGrouped : xn K "read_grouped_picture" zal) (fAdded : xn K "added" zgM) (mP : xZ K CP "__init__" "Predictions.__init__" zgB) (mK : xZ K CK "__init__" "Colours.__init__" zfn) (mD : xZ K CD "__init__" "Table.__init__" zgd) (mPackW : xZ K CD "packed_width" "Table.packed_width" zgA) (fShiftFor : xn K "shift_for" kN) (fSums : xn K "running_sums" zku) (fModes : xn K "read_modes" zeY) (fTable : xn K "read_table" zfi) (mF : xZ K CF "__init__" "Transforms.__init__" zgc) (mTake : xZ K CF "take" "Transforms.take" zkf) (fTranss : xn K "read_transforms" zcz) (fLetters : xn K "letters_stand" j0) (fSizeAt : xn K "size_at" zbX) (fNames : xn K "names_stand" zeQ) (fFrame : xn K "bytes_of_bits" zfr) (mH : xZ K CH "__init__" "Head.__init__" zhb) (mA : xZ K CA "__init__" "Contents.__init__" zeR) (fHead : xn K "read_head" zks) (fCont : xn K "read_contents" zlA) (fHalfSum : xn K "half_sum" zau) (fDiff : xn K "difference" zkR) (fBrought : xn K "brought_in" wT) (fSign : xn K "with_sign" zk6) (fShare : xn K "share" zg7) (fWithF : xn K "with_factors" zeI) (fWithG : xn K "with_green" zgD) (fHalved : xn K "halved_toward_zero" zcr) (mUndK : xZ K CK "undone" "Colours.undone" zjP) (mUndE : xZ K CE "undone" "Greens.undone" ziH) (mUndRow : xZ K CP "undo_row" "Predictions.undo_row" zcg) (mUndP : xZ K CP "undone" "Predictions.undone" zjt) (mUnpk : xZ K CD "unpacked" "Table.unpacked" zlC) (mUndD : xZ K CD "undone" "Table.undone" zkL) (mUndF : xZ K CF "undone" "Transforms.undone" zjQ) (mOct : xZ K CH "octets_in_all" "Head.octets_in_all" znh) (fOcts : xn K "octets_of" zjJ) (fROct : xn K "read_octets" zjX) (fTop : xn K "read" zk1) :
    ∃ fd : FuncData, (∀ (s : Shared) (us : List Value), us.length = (["most", "data"] : List Str).length -> BindsTo s fd ⟨us, []⟩ ((["most", "data"] : List Str).zip us)) /\ ∀ base : Heap, K.In base -> base.Ns mainGlobals mg -> z0 P w K mg base (CXe P w) 15 fa fd ["most", "data"] (zdf K) := by
  obtain ⟨t, et⟩ : ∃ t : Ad, t = ⟨CN, CT, CB, CV, CC, CS, CG, CR, CO, CP, CK, CE, CD, CF, CH, CA⟩ := ⟨_, rfl⟩
  obtain rfl : CN = t.CN := by rw [et]
  obtain rfl : CT = t.CT := by rw [et]
  obtain rfl : CB = t.CB := by rw [et]
  obtain rfl : CV = t.CV := by rw [et]
  obtain rfl : CC = t.CC := by rw [et]
  obtain rfl : CS = t.CS := by rw [et]
  obtain rfl : CG = t.CG := by rw [et]
  obtain rfl : CR = t.CR := by rw [et]
  obtain rfl : CO = t.CO := by rw [et]
  obtain rfl : CP = t.CP := by rw [et]
  obtain rfl : CK = t.CK := by rw [et]
  obtain rfl : CE = t.CE := by rw [et]
  obtain rfl : CD = t.CD := by rw [et]
  obtain rfl : CF = t.CF := by rw [et]
  obtain rfl : CH = t.CH := by rw [et]
  obtain rfl : CA = t.CA := by rw [et]
  clear et
  obtain ⟨asA, eA, nA, qA⟩ := pA.refs
  have T : Tx K mg t := { xN := xN, gN := PySem.W.mg_of X G nN, xT := xT, gT := PySem.W.mg_of X G nT, cB := cCB.cl, cV := cCV.cl, cC := cCC.cl, cS := cCS.cl, cG := cCG.cl, nO := n0, nP := n1, nE := n2, vW := n3, vS := n4, vC := n5, vD := n6, vH := n7, nW := n8, nS := n9, sS := n10, sA := n11, sC := n12, gS := n13, gG := n14, len := PySem.W.mg_none_of X G blen, range := PySem.W.mg_none_of X G brange, max := PySem.W.mg_none_of X G bmax, min := PySem.W.mg_none_of X G bmin, sum := PySem.W.mg_none_of X G bsum, enum := PySem.W.mg_none_of X G benumerate, ord := PySem.W.mg_none_of X G bord, kSPREAD := kSPREAD.glob X G, kLOW := kLOW.glob X G, kLONGEST := kLONGEST.glob X G, kFIRST := kFIRST.glob X G, kRED := kRED.glob X G, kBLUE := kBLUE.glob X G, kALPHA := kALPHA.glob X G, kDISTANCE := kDISTANCE.glob X G, kORDER := ⟨aO, PySem.W.mg_of X G gO, fun H => .inr ⟨_, itsO, zO, lO, rfl, rfl, sO, vO⟩⟩, kNEAR := ⟨aA, asA, PySem.W.mg_of X G gA, fun H => .inr ⟨_, itsA, zA, lA, rfl, rfl, sA, by rw [eA]; exact vj asA⟩, nA, qA⟩ }
  have T2 : Tx2 K mg t := { kPRED := kPRED.glob X G, kCOL := kCOL.glob X G, kGRE := kGRE.glob X G, kTAB := kTAB.glob X G, kMODE := kMODE.glob X G, kSIG := kSIG.glob X G, kNSF := kNSF.glob X G, kTOO := kTOO.glob X G, kLAR := kLAR.glob X G, kM1 := kM1.glob X G, kM2 := kM2.glob X G, cP := cCP.cl, cK := cCK.cl, cE := cCE.cl, cD := cCD.cl, cF := cCF.cl, cH := cCH.cl, cA := cCA.cl, gE := PySem.W.mg_of X G cCE.nm, mE := cCE.mks, iE := iE, pE := cCE.kp, pW := n15, pS := n16, kW := n17, kS := n18, dW := n19, dS := n20, dC := n21, fW := n22, fH := n23, fK := n24, fS := n25, hW := n26, hH := n27, hA := n28, aH := n29, aT := n30, aC := n31 }
  have T3 : Tx3 K mg t := { gR := PySem.W.mg_of X G nR, xR := xR, gO := PySem.W.mg_of X G nO, xO := xO, abs := PySem.W.mg_none_of X G babs, rev := PySem.W.mg_none_of X G breversed, kBLACK := kBLACK.glob X G, kM3 := kM3.glob X G, kTLR := kTLR.glob X G, kOOR := kOOR.glob X G, kGM := kGM.glob X G, kSH := ⟨aSh, PySem.W.mg_of X G gSh, fun H => .inr ⟨_, itsS, zS, lSh, rfl, rfl, sSh, vSh⟩⟩ }
  obtain ⟨f, fd, a, F⟩ := fTop.ex
  have e := hfa.symm.trans (PySem.W.mg_of X G a)
  cases e
  refine ⟨fd, fun s us hu => ?_, fun base _ _ => ?_⟩
  . obtain ⟨oc, od, kV, doc, pm, an, cdv, ct, osl, rfl, lk, hcd⟩ := F.ex
    match us, hu with
    | [_, _], _ => exact .of_eq rfl
  . have gBit : zD P w K mg base 1 t.CB "bit" ["self"] (vt t) := mBit.ok (fun _ _ _ _ _ _ us hl => by obtain ⟨a, rfl⟩ := zak hl; rfl) fun F => zmp F T
    have gNum : zD P w K mg base 2 t.CB "number" ["self", "width"] (yK t) := mNum.ok (fun _ _ _ _ _ _ us hl => by obtain ⟨a, b, rfl⟩ := jj hl; rfl) fun F => zgI F T gBit
    have gLeft : zD P w K mg base 1 t.CB "left" ["self"] (zeE t) := mLeft.ok (fun _ _ _ _ _ _ us hl => by obtain ⟨a, rfl⟩ := zak hl; rfl) fun F => zlz F T
    have gB : yp P w K mg base 1 t.CB "Bits" ["self", "octets"] (zb4 t) := mB.make cCB X G (fun _ _ _ _ _ _ us hl => by obtain ⟨a, b, rfl⟩ := jj hl; rfl) fun F => zhB F T
    have gC : yp P w K mg base 1 t.CC "Code" ["self", "words", "sole"] (zab t) := mC.make cCC X G (fun _ _ _ _ _ _ us hl => by obtain ⟨a, b, c, rfl⟩ := wd hl; rfl) fun F => zhN F T
    have gNext : zD P w K mg base 2 t.CC "next_symbol" ["self", "bits"] (zbA t) := mNext.ok (fun _ _ _ _ _ _ us hl => by obtain ⟨a, b, rfl⟩ := jj hl; rfl) fun F => zlc F T gBit
    have gCol : zB P w K mg base 3 "code_of_lengths" ["lengths"] (ziN t) := fCol.ok X G (fun _ _ _ _ _ _ us hl => by obtain ⟨a, rfl⟩ := zak hl; rfl) fun F => zl7 F T gC
    have gV : yp P w K mg base 1 t.CV "Canvas" ["self", "width", "height", "depth"] (wG t) := mV.make cCV X G (fun _ _ _ _ _ _ us hl => by obtain ⟨a, b, c, d, rfl⟩ := vB hl; rfl) fun F => zhE F T
    have gPut : zD P w K mg base 1 t.CV "put" ["self", "colour"] (zgj t) := mPut.ok (fun _ _ _ _ _ _ us hl => by obtain ⟨a, b, rfl⟩ := jj hl; rfl) fun F => zlX F T
    have gPutC : zD P w K mg base 2 t.CV "put_cached" ["self", "slot"] (zgf t) := mPutC.ok (fun _ _ _ _ _ _ us hl => by obtain ⟨a, b, rfl⟩ := jj hl; rfl) fun F => zll F T gPut
    have gRep : zD P w K mg base 2 t.CV "repeat" ["self", "length", "distance"] (zar t) := mRep.ok (fun _ _ _ _ _ _ us hl => by obtain ⟨a, b, c, rfl⟩ := wd hl; rfl) fun F => zff F T gPut
    have gVal : zB P w K mg base 3 "read_value" ["bits", "symbol"] (zb6 t) := fVal.ok X G (fun _ _ _ _ _ _ us hl => by obtain ⟨a, b, rfl⟩ := jj hl; rfl) fun F => zh8 F T gNum
    have gDist : zB P w K mg base 1 "distance_of" ["value", "width"] zfy := fDist.ok X G (fun _ _ _ _ _ _ us hl => by obtain ⟨a, b, rfl⟩ := jj hl; rfl) fun F => zkG F T
    have gMost : zB P w K mg base 3 "read_most_symbols" ["bits", "size"] (ze3 t) := fMost.ok X G (fun _ _ _ _ _ _ us hl => by obtain ⟨a, b, rfl⟩ := jj hl; rfl) fun F => zj3 F T gBit gNum
    have gRun : zB P w K mg base 3 "read_run" ["bits", "symbol", "last"] (zj8 t) := fRun.ok X G (fun _ _ _ _ _ _ us hl => by obtain ⟨a, b, c, rfl⟩ := wd hl; rfl) fun F => zlW F T gNum
    have gCofL : zB P w K mg base 4 "read_code_of_lengths" ["bits"] (zfN t) := fCofL.ok X G (fun _ _ _ _ _ _ us hl => by obtain ⟨a, rfl⟩ := zak hl; rfl) fun F => zjv F T gNum gCol
    have gLens : zB P w K mg base 5 "read_lengths" ["bits", "size"] (zgz t) := fLens.ok X G (fun _ _ _ _ _ _ us hl => by obtain ⟨a, b, rfl⟩ := jj hl; rfl) fun F => zkH F T gNext gCofL gMost gRun
    have gShort : zB P w K mg base 3 "read_short_code" ["bits", "size"] (zcJ t) := fShort.ok X G (fun _ _ _ _ _ _ us hl => by obtain ⟨a, b, rfl⟩ := jj hl; rfl) fun F => zhG F T gBit gNum gC
    have gCode : zB P w K mg base 6 "read_code" ["bits", "size"] (zg9 t) := fCode.ok X G (fun _ _ _ _ _ _ us hl => by obtain ⟨a, b, rfl⟩ := jj hl; rfl) fun F => zkB F T gBit gShort gLens gCol
    have gS : yp P w K mg base 1 t.CS "Squares" ["self", "shift", "across", "colours"] (zbJ t) := mS.make cCS X G (fun _ _ _ _ _ _ us hl => by obtain ⟨a, b, c, d, rfl⟩ := vB hl; rfl) fun F => zh9 F T
    have gG : yp P w K mg base 1 t.CG "Groups" ["self", "squares", "groups"] (wU t) := mG.make cCG X G (fun _ _ _ _ _ _ us hl => by obtain ⟨a, b, c, rfl⟩ := wd hl; rfl) fun F => ziE F T
    have gGrpNo : zB P w K mg base 1 "group_number" ["colour"] zaq := fGrpNo.ok X G (fun _ _ _ _ _ _ us hl => by obtain ⟨a, rfl⟩ := zak hl; rfl) fun F => zhw F
    have gDivUp : zB P w K mg base 1 "divided_up" ["number", "shift"] wB := fDivUp.ok X G (fun _ _ _ _ _ _ us hl => by obtain ⟨a, b, rfl⟩ := jj hl; rfl) fun F => zh5 F
    have gColAt : zD P w K mg base 1 t.CS "colour_at" ["self", "x", "y"] (ve t) := mColAt.ok (fun _ _ _ _ _ _ us hl => by obtain ⟨a, b, c, rfl⟩ := wd hl; rfl) fun F => zhy F T
    have gGrpAt : zD P w K mg base 2 t.CG "group_at" ["self", "x", "y"] (zcG t) := mGrpAt.ok (fun _ _ _ _ _ _ us hl => by obtain ⟨a, b, c, rfl⟩ := wd hl; rfl) fun F => zhF F T gGrpNo gColAt
    have gDepth : zB P w K mg base 3 "read_cache_depth" ["bits"] (wX t) := fDepth.ok X G (fun _ _ _ _ _ _ us hl => by obtain ⟨a, rfl⟩ := zak hl; rfl) fun F => zh3 F T gBit gNum
    have gColour : zB P w K mg base 3 "read_colour" ["bits", "green", "group"] (zas t) := fColour.ok X G (fun _ _ _ _ _ _ us hl => by obtain ⟨a, b, c, rfl⟩ := wd hl; rfl) fun F => ze6 F T gNext
    have gStep : zB P w K mg base 4 "read_step" ["bits", "canvas", "group"] (zeO t) := fStep.ok X G (fun _ _ _ _ _ _ us hl => by obtain ⟨a, b, c, rfl⟩ := wd hl; rfl) fun F => zjC F T gNext gPut gPutC gRep gVal gDist gColour
    have gColours : zB P w K mg base 5 "read_colours" ["bits", "canvas", "groups"] (x8 t) := fColours.ok X G (fun _ _ _ _ _ _ us hl => by obtain ⟨a, b, c, rfl⟩ := wd hl; rfl) fun F => zdR F T gGrpAt gStep
    have gGroup : zB P w K mg base 7 "read_group" ["bits", "depth"] (zaj t) := fGroup.ok X G (fun _ _ _ _ _ _ us hl => by obtain ⟨a, b, rfl⟩ := jj hl; rfl) fun F => zhu F T gCode
    have gPlain : zB P w K mg base 8 "read_plain_picture" ["bits", "width", "height"] (wZ t) := fPlain.ok X G (fun _ _ _ _ _ _ us hl => by obtain ⟨a, b, c, rfl⟩ := wd hl; rfl) fun F => ziI F T gDepth gGroup gG gV gColours
    have gSquares : zB P w K mg base 9 "read_squares" ["bits", "width", "height"] (qk t) := fSquares.ok X G (fun _ _ _ _ _ _ us hl => by obtain ⟨a, b, c, rfl⟩ := wd hl; rfl) fun F => zei F T gNum gDivUp gPlain gS
    have gGroups : zB P w K mg base 10 "read_groups" ["bits", "width", "height", "depth"] (w8 t) := fGroups.ok X G (fun _ _ _ _ _ _ us hl => by obtain ⟨a, b, c, d, rfl⟩ := vB hl; rfl) fun F => zgq F T gBit gGroup gG gSquares gGrpNo
    have gGrouped : zB P w K mg base 11 "read_grouped_picture" ["bits", "width", "height"] (vp t) := fGrouped.ok X G (fun _ _ _ _ _ _ us hl => by obtain ⟨a, b, c, rfl⟩ := wd hl; rfl) fun F => zdT F T gDepth gGroups gV gColours
    have gAdded : zB P w K mg base 1 "added" ["one", "other"] jF := fAdded.ok X G (fun _ _ _ _ _ _ us hl => by obtain ⟨a, b, rfl⟩ := jj hl; rfl) fun F => ziT F T2
    have gP : yp P w K mg base 1 t.CP "Predictions" ["self", "width", "squares"] (qx t.CP) := mP.make cCP X G (fun _ _ _ _ _ _ us hl => by obtain ⟨a, b, c, rfl⟩ := wd hl; rfl) fun F => zhP F T2
    have gK : yp P w K mg base 1 t.CK "Colours" ["self", "width", "squares"] (qx t.CK) := mK.make cCK X G (fun _ _ _ _ _ _ us hl => by obtain ⟨a, b, c, rfl⟩ := wd hl; rfl) fun F => ziY F T2
    have gD : yp P w K mg base 1 t.CD "Table" ["self", "width", "shift", "colours"] (zcx t) := mD.make cCD X G (fun _ _ _ _ _ _ us hl => by obtain ⟨a, b, c, d, rfl⟩ := vB hl; rfl) fun F => zhC F T T2
    have gPackW : zD P w K mg base 2 t.CD "packed_width" ["self"] (wM t) := mPackW.ok (fun _ _ _ _ _ _ us hl => by obtain ⟨a, rfl⟩ := zak hl; rfl) fun F => zhv F T2 gDivUp
    have gShiftFor : zB P w K mg base 1 "shift_for" ["size"] jC := fShiftFor.ok X G (fun _ _ _ _ _ _ us hl => by obtain ⟨a, rfl⟩ := zak hl; rfl) fun F => zcy F
    have gSums : zB P w K mg base 2 "running_sums" ["colours"] zf5 := fSums.ok X G (fun _ _ _ _ _ _ us hl => by obtain ⟨a, rfl⟩ := zak hl; rfl) fun F => zkn F gAdded
    have gModes : zB P w K mg base 10 "read_modes" ["bits", "width", "height"] (zch t) := fModes.ok X G (fun _ _ _ _ _ _ us hl => by obtain ⟨a, b, c, rfl⟩ := wd hl; rfl) fun F => zhz F T T2 gSquares
    have gTable : zB P w K mg base 9 "read_table" ["bits", "width"] (zbM t) := fTable.ok X G (fun _ _ _ _ _ _ us hl => by obtain ⟨a, b, rfl⟩ := jj hl; rfl) fun F => ziz F T gNum gPlain gShiftFor gSums gD
    have gF : yp P w K mg base 1 t.CF "Transforms" ["self", "width", "height"] (zcs t) := mF.make cCF X G (fun _ _ _ _ _ _ us hl => by obtain ⟨a, b, c, rfl⟩ := wd hl; rfl) fun F => zin F T2
    have gTake : zD P w K mg base 11 t.CF "take" ["self", "bits", "kind"] (zfq t) := mTake.ok (fun _ _ _ _ _ _ us hl => by obtain ⟨a, b, c, rfl⟩ := wd hl; rfl) fun F => zkO F T T2 gModes gSquares gTable gPackW gP gK
    have gTranss : zB P w K mg base 12 "read_transforms" ["bits", "width", "height"] (zav t) := fTranss.ok X G (fun _ _ _ _ _ _ us hl => by obtain ⟨a, b, c, rfl⟩ := wd hl; rfl) fun F => zf3 F T T2 gBit gNum gTake gF
    have gLetters : zB P w K mg base 1 "letters_stand" ["data", "place", "letters"] (vf K) := fLetters.ok X G (fun _ _ _ _ _ _ us hl => by obtain ⟨a, b, c, rfl⟩ := wd hl; rfl) fun F => zdI F T
    have gSizeAt : zB P w K mg base 1 "size_at" ["data", "place"] (zat K) := fSizeAt.ok X G (fun _ _ _ _ _ _ us hl => by obtain ⟨a, b, rfl⟩ := jj hl; rfl) fun F => zg0 F
    have gNames : zB P w K mg base 2 "names_stand" ["data"] (zce K) := fNames.ok X G (fun _ _ _ _ _ _ us hl => by obtain ⟨a, rfl⟩ := zak hl; rfl) fun F => ziQ F gLetters
    have gFrame : zB P w K mg base 3 "bytes_of_bits" ["data"] (zb1 K t) := fFrame.ok X G (fun _ _ _ _ _ _ us hl => by obtain ⟨a, rfl⟩ := zak hl; rfl) fun F => zhI F T T2 gNames gSizeAt
    have gH : yp P w K mg base 1 t.CH "Head" ["self", "width", "height", "alphas_count"] (zct t) := mH.make cCH X G (fun _ _ _ _ _ _ us hl => by obtain ⟨a, b, c, d, rfl⟩ := vB hl; rfl) fun F => zhU F T2
    have gA : yp P w K mg base 1 t.CA "Contents" ["self", "head", "transforms", "colours"] (zbK t) := mA.make cCA X G (fun _ _ _ _ _ _ us hl => by obtain ⟨a, b, c, d, rfl⟩ := vB hl; rfl) fun F => zh0 F T2
    have gHead : zB P w K mg base 3 "read_head" ["bits"] (zfJ t) := fHead.ok X G (fun _ _ _ _ _ _ us hl => by obtain ⟨a, rfl⟩ := zak hl; rfl) fun F => zln F T T2 gBit gNum gH
    have gCont : zB P w K mg base 13 "read_contents" ["data"] (ze0 K t) := fCont.ok X G (fun _ _ _ _ _ _ us hl => by obtain ⟨a, rfl⟩ := zak hl; rfl) fun F => zka F T T2 gFrame gB gHead gTranss gGrouped gLeft gA
    have gHalfSum : zB P w K mg base 1 "half_sum" ["one", "other"] yO := fHalfSum.ok X G (fun _ _ _ _ _ _ us hl => by obtain ⟨a, b, rfl⟩ := jj hl; rfl) fun F => zdZ F T3
    have gDiff : zB P w K mg base 1 "difference" ["one", "other"] zfF := fDiff.ok X G (fun _ _ _ _ _ _ us hl => by obtain ⟨a, b, rfl⟩ := jj hl; rfl) fun F => zlk F T3
    have gBrought : zB P w K mg base 1 "brought_in" ["part"] jo := fBrought.ok X G (fun _ _ _ _ _ _ us hl => by obtain ⟨a, rfl⟩ := zak hl; rfl) fun F => zdK F
    have gSign : zB P w K mg base 1 "with_sign" ["octet"] zgL := fSign.ok X G (fun _ _ _ _ _ _ us hl => by obtain ⟨a, rfl⟩ := zak hl; rfl) fun F => zk5 F
    have gShare : zB P w K mg base 2 "share" ["factor", "part"] zcl := fShare.ok X G (fun _ _ _ _ _ _ us hl => by obtain ⟨a, b, rfl⟩ := jj hl; rfl) fun F => zid F gSign
    have gWithF : zB P w K mg base 3 "with_factors" ["colour", "factors"] zcq := fWithF.ok X G (fun _ _ _ _ _ _ us hl => by obtain ⟨a, b, rfl⟩ := jj hl; rfl) fun F => zhS F T2 gShare
    have gWithG : zB P w K mg base 2 "with_green" ["colour"] zcB := fWithG.ok X G (fun _ _ _ _ _ _ us hl => by obtain ⟨a, rfl⟩ := zak hl; rfl) fun F => ziM F gAdded
    have gHalved : zB P w K mg base 1 "halved_toward_zero" ["number"] wy := fHalved.ok X G (fun _ _ _ _ _ _ us hl => by obtain ⟨a, rfl⟩ := zak hl; rfl) fun F => zfp F
    have gModesAll : zcK P w K mg base := ⟨aMo, [m0, m1, m2, m3, m4, m5, m6, m7, m8, m9, m10, m11, m12, m13], PySem.W.mg_of X G gMo, fun H => .inr ⟨_, itsM, zM, lMo, rfl, rfl, sMo, by rw [vMo]; exact vj [m0, m1, m2, m3, m4, m5, m6, m7, m8, m9, m10, m11, m12, m13]⟩, rfl, fun i f e => by
      match i, e with
      | 0, e =>
        have q : m0 = f := Option.some.inj e
        subst q
        exact fM0.ok (fun _ _ _ _ _ _ us hl => by obtain ⟨a, b, c, d, rfl⟩ := vB hl; rfl) fun F => zi1 F T3
      | 1, e =>
        have q : m1 = f := Option.some.inj e
        subst q
        exact fM1.ok (fun _ _ _ _ _ _ us hl => by obtain ⟨a, b, c, d, rfl⟩ := vB hl; rfl) fun F => ziv F
      | 2, e =>
        have q : m2 = f := Option.some.inj e
        subst q
        exact fM2.ok (fun _ _ _ _ _ _ us hl => by obtain ⟨a, b, c, d, rfl⟩ := vB hl; rfl) fun F => zhK F
      | 3, e =>
        have q : m3 = f := Option.some.inj e
        subst q
        exact fM3.ok (fun _ _ _ _ _ _ us hl => by obtain ⟨a, b, c, d, rfl⟩ := vB hl; rfl) fun F => zhV F
      | 4, e =>
        have q : m4 = f := Option.some.inj e
        subst q
        exact fM4.ok (fun _ _ _ _ _ _ us hl => by obtain ⟨a, b, c, d, rfl⟩ := vB hl; rfl) fun F => ziJ F
      | 5, e =>
        have q : m5 = f := Option.some.inj e
        subst q
        exact fM5.ok (fun _ _ _ _ _ _ us hl => by obtain ⟨a, b, c, d, rfl⟩ := vB hl; rfl) fun F => zim F gHalfSum
      | 6, e =>
        have q : m6 = f := Option.some.inj e
        subst q
        exact fM6.ok (fun _ _ _ _ _ _ us hl => by obtain ⟨a, b, c, d, rfl⟩ := vB hl; rfl) fun F => zia F gHalfSum
      | 7, e =>
        have q : m7 = f := Option.some.inj e
        subst q
        exact fM7.ok (fun _ _ _ _ _ _ us hl => by obtain ⟨a, b, c, d, rfl⟩ := vB hl; rfl) fun F => zh4 F gHalfSum
      | 8, e =>
        have q : m8 = f := Option.some.inj e
        subst q
        exact fM8.ok (fun _ _ _ _ _ _ us hl => by obtain ⟨a, b, c, d, rfl⟩ := vB hl; rfl) fun F => ziG F gHalfSum
      | 9, e =>
        have q : m9 = f := Option.some.inj e
        subst q
        exact fM9.ok (fun _ _ _ _ _ _ us hl => by obtain ⟨a, b, c, d, rfl⟩ := vB hl; rfl) fun F => zi0 F gHalfSum
      | 10, e =>
        have q : m10 = f := Option.some.inj e
        subst q
        exact fM10.ok (fun _ _ _ _ _ _ us hl => by obtain ⟨a, b, c, d, rfl⟩ := vB hl; rfl) fun F => zf6 F gHalfSum
      | 11, e =>
        have q : m11 = f := Option.some.inj e
        subst q
        exact fM11.ok (fun _ _ _ _ _ _ us hl => by obtain ⟨a, b, c, d, rfl⟩ := vB hl; rfl) fun F => zgp F gDiff
      | 12, e =>
        have q : m12 = f := Option.some.inj e
        subst q
        exact fM12.ok (fun _ _ _ _ _ _ us hl => by obtain ⟨a, b, c, d, rfl⟩ := vB hl; rfl) fun F => zfD F T3 gBrought
      | 13, e =>
        have q : m13 = f := Option.some.inj e
        subst q
        exact fM13.ok (fun _ _ _ _ _ _ us hl => by obtain ⟨a, b, c, d, rfl⟩ := vB hl; rfl) fun F => zgH F T3 gHalfSum gBrought gHalved
      | j + 14, e => simp at e⟩
    have gUndK : zD P w K mg base 4 t.CK "undone" ["self", "colours"] (zgt t) := mUndK.ok (fun _ _ _ _ _ _ us hl => by obtain ⟨a, b, rfl⟩ := jj hl; rfl) fun F => zkg F T T2 gWithF gColAt
    have gUndE : zD P w K mg base 3 t.CE "undone" ["self", "colours"] (zfS t) := mUndE.ok (fun _ _ _ _ _ _ us hl => by obtain ⟨a, b, rfl⟩ := jj hl; rfl) fun F => zkI F gWithG
    have gUndRow : zD P w K mg base 3 t.CP "undo_row" ["self", "colours", "done", "y"] (wW t) := mUndRow.ok (fun _ _ _ _ _ _ us hl => by obtain ⟨a, b, c, d, rfl⟩ := vB hl; rfl) fun F => zfO F T T2 gAdded gColAt gModesAll
    have gUndP : zD P w K mg base 4 t.CP "undone" ["self", "colours"] (zfh t) := mUndP.ok (fun _ _ _ _ _ _ us hl => by obtain ⟨a, b, rfl⟩ := jj hl; rfl) fun F => zju F T T2 T3 gAdded gUndRow
    have gUnpk : zD P w K mg base 1 t.CD "unpacked" ["self", "row"] (zgr t) := mUnpk.ok (fun _ _ _ _ _ _ us hl => by obtain ⟨a, b, rfl⟩ := jj hl; rfl) fun F => zjG F T T2
    have gUndD : zD P w K mg base 3 t.CD "undone" ["self", "colours"] (zgx t) := mUndD.ok (fun _ _ _ _ _ _ us hl => by obtain ⟨a, b, rfl⟩ := jj hl; rfl) fun F => zlj F T T2 gPackW gUnpk
    have gUndF : zD P w K mg base 5 t.CF "undone" ["self", "colours"] (zge t) := mUndF.ok (fun _ _ _ _ _ _ us hl => by obtain ⟨a, b, rfl⟩ := jj hl; rfl) fun F => zkW F T2 T3 gUndP gUndK gUndE gUndD
    have gOct : zD P w K mg base 1 t.CH "octets_in_all" ["self"] (zkw t) := mOct.ok (fun _ _ _ _ _ _ us hl => by obtain ⟨a, rfl⟩ := zak hl; rfl) fun F => zmZ F T2
    have gOcts : zB P w K mg base 1 "octets_of" ["colours", "alphas_count"] zeJ := fOcts.ok X G (fun _ _ _ _ _ _ us hl => by obtain ⟨a, b, rfl⟩ := jj hl; rfl) fun F => zkS F
    have gROct : zB P w K mg base 14 "read_octets" ["most", "data"] (zho K t) := fROct.ok X G (fun _ _ _ _ _ _ us hl => by obtain ⟨a, b, rfl⟩ := jj hl; rfl) fun F => zkZ F T2 T3 gCont gOct gUndF gOcts
    exact zjw F T T2 T3 gROct x11 x21 x22 x31 x32 x33 x41 x42 x43 x44
end Lk
end
section
namespace Lk
open PySem PySem.Spec PyProof.Rows L2
open PySem.W (Codec OpenSpec)
theorem zcH {r : OpenSpec} {k : Nat} {q : Program} {loose : List Str} {XP : (Str -> Option Value) -> Heap -> Prop} {YP : World -> Heap -> Prop} {d : DefRec} {K : Params -> PySem.W.Frag} {CX : World -> CXT} {ps : List Str} {sp : PySem.W.Frag -> Sp}
    (wl : r.wellSaid = true) (nd : d.params.defaults = []) (ln : r.args.length = ps.length) (ro : yC k callerA) (hK : ∀ (w : World) (h : Heap), YP w h -> (K w.params).In h)
    (F : ∀ (w : World) (mg : Str -> Option Value) (fa : Addr) (h : Heap), YP w h -> (K w.params).In h -> h.Ns mainGlobals mg -> mg d.name = some (.ref fa) -> ∃ fd : FuncData, (∀ (s : Shared) (us : List Value), us.length = ps.length -> BindsTo s fd ⟨us, []⟩ (ps.zip us)) /\ ∀ base : Heap, (K w.params).In base -> base.Ns mainGlobals mg -> z0 r.prog w (K w.params) mg base (CX w) k fa fd ps (sp (K w.params)))
    (S : ∀ (K : PySem.W.Frag) (H : Hp) (xs : List V) (a : Codec.denoteAll r.args), zeq H -> Codec.withinAll r.args a = true -> Codec.app r.args r.asked a = true -> jB K H xs (Codec.encAll r.args a) -> sp K xs H (fun v H' => Dw K H' v (r.ret.enc (Codec.app r.args r.f a))) fun _ _ _ => False)
    (C : ∀ (w : World) (H : Hp) (s : Shared) (e : Value) (s' : Shared), CX w [] H s (fun _ _ _ => False) e s' -> False) : PySem.W.WalkOS q loose XP YP r d [] (fun f vs => PySem.call f vs) :=
  zgN (sp := fun w => sp (K w.params)) wl nd ln ro hK F (fun w => S (K w.params)) C
theorem kU : ∀ l : List Int, (∀ z ∈ l, 0 <= z) -> l.map V.int = zm (l.map Int.toNat)
  | [], _ => rfl
  | z :: l, h => by
    have ih := kU l fun y hy => h y (List.mem_cons_of_mem _ hy)
    have hz := h z (List.mem_cons_self ..)
    show V.int z :: l.map V.int = V.int ((z.toNat : Nat) : Int) :: zm (l.map Int.toNat)
    rw [ih, Int.toNat_of_nonneg hz]
theorem zlg (K : PySem.W.Frag) (H : Hp) (xs : List V) (a : Codec.denoteAll PySem.Challenge.rw_losslook_s02_read.args) (hO : zeq H) (hwi : Codec.withinAll PySem.Challenge.rw_losslook_s02_read.args a = true) (hask : Codec.app PySem.Challenge.rw_losslook_s02_read.args PySem.Challenge.rw_losslook_s02_read.asked a = true)
    (hx : jB K H xs (Codec.encAll PySem.Challenge.rw_losslook_s02_read.args a)) :
    zdf K xs H (fun v H' => Dw K H' v (PySem.Challenge.rw_losslook_s02_read.ret.enc (Codec.app PySem.Challenge.rw_losslook_s02_read.args PySem.Challenge.rw_losslook_s02_read.f a))) fun _ _ _ => False := by
  cases hx with
  | cons h1 h2 =>
    cases h2 with
    | cons h3 h4 =>
      cases h4
      cases h1
      cases h3 with
      | lst hs ha =>
        have e := zfP a.2.1 _ ha
        subst e
        have q : (Codec.inInt (-2147483648) 2147483647 a.1 && ((Codec.inLen 0 100000 a.2.1 && a.2.1.all (Codec.inInt 0 255)) && true)) = true := hwi
        rw [Bool.and_eq_true, Bool.and_eq_true, Bool.and_eq_true] at q
        have hb : ∀ z : Int, z ∈ (show List Int from a.2.1) -> (0 : Int) <= z /\ z <= (255 : Int) := fun z hz => Codec.inInt_iff.mp (List.all_eq_true.mp q.2.1.2 z hz)
        have hl : a.2.1.length <= 100000 := (Codec.inNat_iff.mp q.2.1.1).2
        have e1 := kU a.2.1 fun z hz => (hb z hz).1
        rw [e1] at hs
        refine ⟨a.1, _, a.2.1.map Int.toNat, rfl, hs, ?_, ?_, ?_⟩
        . intro c hc
          obtain ⟨z, hz, rfl⟩ := List.mem_map.mp hc
          have h8 : (0 : Int) <= (z : Int) := (hb z hz).1
          have h9 : (z : Int) <= (255 : Int) := (hb z hz).2
          show Int.toNat z < 256
          revert h8 h9
          exact (fun (y : Int) (h8 : 0 <= y) (h9 : y <= 255) => (by omega : y.toNat < 256)) z
        . rw [List.length_map]
          exact hl
        . intro la H' hla
          rw [<- zhJ a.1 a.2.1 hl] at hla
          exact .lst (SqL.of hla) (zgi _)
end Lk
end
namespace PySem.W.Fast
def tw12088020520810822610:=0
def tw12913032288526644925:=0
def tw1627363661519868056:=0
def tw15685584468811799743:=0
def tw310501264620143723:=0
def tw16053330420565982837:=0
def tw1448922234453483566:=0
def tw8345209963369415066:=0
def tw16456395270901414817:=0
def tw10381835785383395179:=0
def tw16656391620808782363:=0
def tw17406559386928257915:=0
def tw4432671390759454071:=0
def tw16404970924851922500:=0
def tw1177816843637092310:=0
def tw10665638444484209013:=0
def tw1226871354281294623:=0
def tw13287447906579517564:=0
def tw16377937558008884178:=0
def tw1350289147856558418:=0
def tw17513147245764686129:=0
def tw12811497759672562332:=0
def tw3254549241967737311:=0
def tw3927036199872618504:=0
def tw15140901679236680124:=0
def tw5406511380300001871:=0
def tw7509757156909941335:=0
def tw17644412750029679993:=0
def tw8793370143155950180:=0
def tw5790522133159308567:=0
def tw7028949520622952622:=0
def tw6020240070632439643:=0
def tw5348864818360895698:=0
def tw17921639538718090322:=0
def tw12438863084991151321:=0
def tw11765456922049476518:=0
def tw4175521600654221095:=0
def tw13456758190164592211:=0
def tw12561439519825698354:=0
def tw6560238701772613702:=0
def tw3008356185890637712:=0
def tw2471632538295026005:=0
def tw8216782920132537472:=0
def tw12973245648591952174:=0
def tw4390391714106176574:=0
def tw9795424137387879794:=0
def tw827468182445290787:=0
def tw9716838209143938516:=0
def tw11453051884764621207:=0
def tw5088688381811059695:=0
def tw7837513000802599533:=0
def tw9865780579331498457:=0
def tw6622473429714497845:=0
def tw11479166879425847002:=0
def tw4405034185471918268:=0
def tw1445095123711245187:=0
def tw8643371339152083388:=0
def tw10240752857941375143:=0
def tw10041862773634673912:=0
def tw8252964705882369477:=0
def tw12487304161765029920:=0
def tw6631795596258523429:=0
def tw16840928013972021285:=0
def tw7796299080312260330:=0
def tw10178910756011266167:=0
def tw16661264582857565804:=0
def tw14117084450489317271:=0
def tw1878764682130865730:=0
def tw17465201645950193529:=0
def tw12293544790489868252:=0
def tw12916997323649911876:=0
def tw8884895199715659609:=0
def tw16084817658673477309:=0
def tw3969751882099566166:=0
def tw11607680083082232484:=0
def tw6198627245093269043:=0
def tw13101054165745417628:=0
def tw3183081492665154399:=0
def tw4950462804009411192:=0
def tw14084471736178067431:=0
def tw158499115185557949:=0
def tw5079747077327713465:=0
def tw10641621507372905940:=0
def tw2003912924903389308:=0
def tw6212807418026874167:=0
def tw4279628765498523415:=0
def tw15816569654013512307:=0
def tw172295664839685850:=0
def tw8427865229470390683:=0
def tw14942626280820026579:=0
def tw9668215037111011095:=0
def tw935932777683708872:=0
def tw14006430380883295327:=0
def tw77160915816083444:=0
def tw506059929188527327:=0
def tw7946432516913832966:=0
def tw15777529362020624025:=0
def tw2158703058743877513:=0
def tw11998164575134398643:=0
def tw1952101662230872600:=0
def tw17762677821027578599:=0
def tw15847060679195661304:=0
def tw17309823362173465704:=0
def tw15502757367338336945:=0
def tw16231986770536124562:=0
def tw3529477170217090947:=0
def tw9211943638566178760:=0
def tw6218248677181609452:=0
def tw11779358579621770638:=0
def tw14683528302000796326:=0
def tw3737511606499586369:=0
def tw5349562043225155177:=0
def tw4399076424683501203:=0
def tw339016579351957897:=0
def tw10429614575307372140:=0
def tw13961203327280996157:=0
def tw2669624567431691976:=0
def tw6111796625035155515:=0
def tw12206061284797747916:=0
def tw12496320586424253731:=0
def tw2675205769208055749:=0
def tw11209669088631903798:=0
def tw15697593282090531031:=0
def tw13797529119787439672:=0
def tw5124476896409136823:=0
def tw8145693507404660188:=0
def tw10345512820469714170:=0
def tw2899608547183763557:=0
def tw1723702750772802510:=0
def tw17609931273580627057:=0
def tw7383789681578749403:=0
def tw12064515361547108410:=0
def tw11214670820661115073:=0
def tw14677285937747669075:=0
def tw15970329480356733022:=0
def tw8784048777576559203:=0
def tw3830302302511823159:=0
def tw2215419141655123066:=0
def tw16346387610320772143:=0
def tw10970818123269662909:=0
def tw10280143383926691705:=0
def tw17990103866938336570:=0
def tw765438426735225785:=0
def tw4409018478416077617:=0
def tw13134187177532623291:=0
def tw13671051804175319512:=0
def tw6821959648867154289:=0
def tw18044079165672365917:=0
def tw2444637110047641284:=0
def tw14580411745038368680:=0
def tw11997355759875806140:=0
def tw11009056092725109528:=0
def tw9701388230185800079:=0
def tw5375788349191479430:=0
def tw10551095357739927077:=0
def tw8772371128367678479:=0
def tw1617705401178692879:=0
def tw9986888289259813627:=0
def tw3399966480203401526:=0
def tw5083505105013793110:=0
def tw3225386282875895508:=0
def tw6533025898877822789:=0
def tw2186835181265579158:=0
def tw14606858502789746815:=0
def tw17586019471127262430:=0
def tw2278796382787726437:=0
def tw9209629548720316637:=0
def tw10834223744386272804:=0
def tw12122212433460980232:=0
def tw10414516936261786696:=0
def tw7089159662131747258:=0
def tw3069234042456194685:=0
def tw10051779344447282000:=0
def tw8265416618180949573:=0
def tw13842473063533321989:=0
def tw7806940215460119755:=0
def tw15602336672239135826:=0
def tw7960782830644412198:=0
def tw3271342010689993383:=0
def tw2580716510425930317:=0
def tw11010141766880066816:=0
def tw12996296440655315798:=0
def tw10604819012412883026:=0
def tw10771634772466698635:=0
def tw17210027979339975879:=0
def tw7070325841669451592:=0
def tw15009037382452423598:=0
def tw17881552257200404561:=0
def tw8963843286281134809:=0
def tw735845861050654912:=0
def tw16250609884977988215:=0
def tw7043857267984155594:=0
def tw9287511573600940331:=0
def tw2965258462904771428:=0
def tw17031333348693817659:=0
def tw5795936998649764509:=0
def tw1264954524236052910:=0
def tw8985427131754301912:=0
def tw13768561320991587974:=0
def tw13566563494295976019:=0
def tw13175668669115662374:=0
def tw13238083162972299696:=0
def tw3087056526128028973:=0
def tw17946555050966302871:=0
def tw10980135501553647640:=0
def tw2112445080288126879:=0
def tw6595556102131149345:=0
def tw9045925487692970354:=0
def tw16520567442250405956:=0
def tw10407970947042501719:=0
def tw18150919243875795465:=0
def tw18134416717651475606:=0
def tw5839314299286239514:=0
def tw11696184811254130281:=0
def tw815838952163726608:=0
def tw15162658899608217270:=0
def tw4830848873699020603:=0
def tw7885374200195781608:=0
def tw13975451368959831805:=0
def tw14780994913121886632:=0
def tw4925735456014126966:=0
def tw3862174001285568806:=0
def tw6208809471234820599:=0
def tw14180867606789733075:=0
def tw5605015434372677914:=0
def tw15206042174676205935:=0
def tw6491633342143023200:=0
def tw9767894095709137190:=0
def tw11639427032155366202:=0
def tw11594426345341348953:=0
def tw17532539455242307769:=0
def tw6969550890186357614:=0
def tw5394900104175078809:=0
def tw16744483644340150258:=0
def tw8199527149150333626:=0
def tw15615831794847478288:=0
def tw5615931593144912841:=0
def tw10836314464356569515:=0
def tw18007842224665820588:=0
def tw18418936524156457531:=0
def tw13681451461277446333:=0
def tw484745195606643461:=0
def tw10522659429034976882:=0
def tw2163025571121768640:=0
def tw4354046805098327539:=0
def tw13294903472934046699:=0
def tw1781054666092324748:=0
def tw9147441278333564702:=0
def tw11664794649928437659:=0
def tw12320253003108827103:=0
def tw12442098143942617100:=0
def tw16300979663950904024:=0
def tw3741438828953809371:=0
def tw15723120122072850380:=0
def tw4709925160554325114:=0
def tw3545038757097979684:=0
def tw6480326656840460276:=0
def tw6159623127995687294:=0
def tw17138948663217618757:=0
def tw9516126732127350779:=0
def tw3504314749942183414:=0
def tw16174752264040229566:=0
def tw873641550301076455:=0
def tw11736418021252970340:=0
def tw7188955960195116747:=0
def tw5818247706119550701:=0
def tw5522559817527631745:=0
def tw14218719752703970553:=0
def tw9416550918747449208:=0
def tw6762290682189084958:=0
def tw1791397915322852744:=0
def tw12983390354692090767:=0
def tw8023378821995267027:=0
def tw16833400311521317583:=0
def tw389772818279871649:=0
def tw1192938520501155046:=0
def tw11252278756117938471:=0
def tw7295658049446666645:=0
def tw1836923255990153157:=0
def tw16150201222959495717:=0
def tw13186305171427922818:=0
def tw9441537689121905973:=0
def tw11706929554690205983:=0
def tw13112326380580922957:=0
def tw1763839366752442507:=0
def tw13014436505810382363:=0
def tw11866896491967091462:=0
def tw9487659143010968661:=0
def tw3664427175601763923:=0
def tw6018184967960890626:=0
def tw11983818995644568810:=0
def tw8712471007501515028:=0
def tw8071701861552577030:=0
def tw13364483327591662370:=0
def tw12947231900577634223:=0
def tw17201502201260876436:=0
def tw16154300484813353783:=0
def tw17326397851784962383:=0
def tw435426561233572844:=0
def tw10475331614960356301:=0
def tw3515838244445958740:=0
def tw16402597134598511634:=0
def tw3883436491115454868:=0
def tw12455415112794317066:=0
def tw6377811522740002683:=0
def tw11253851587836980298:=0
def tw10766606803466125298:=0
def tw15648056535708216304:=0
def tw8356242383617087505:=0
def tw1048788280367682017:=0
def tw10234296629896967580:=0
def tw14230402139940792808:=0
def tw8406834939247087019:=0
def tw4258015776278741678:=0
def tw5800993411581350392:=0
def tw12274406241375265619:=0
def tw6138134978649019625:=0
def tw766162042879249234:=0
def tw17532432181411331611:=0
def tw9875305861808936027:=0
def tw4384447930310182925:=0
def tw6504407150806656999:=0
def tw6082947553016172000:=0
def tw13657767028950192207:=0
def tw13383919060176201690:=0
def tw4600962576246558841:=0
def tw13922488531211429707:=0
def tw2817501634202048409:=0
def tw1056547698065542840:=0
def tw3567034836684992897:=0
def tw5960247271932224484:=0
def tw197291901913234720:=0
def tw649997419907773931:=0
def tw16182593786071674268:=0
def tw13847664576721170260:=0
def tw13898424797682178463:=0
def tw9283099480374812062:=0
def tw8019730035494913018:=0
def tw897385753681048859:=0
def tw12762441107000342108:=0
def tw7837258041263955213:=0
def tw15898937829576245365:=0
def tw10649260653631009766:=0
def tw2789054616235712678:=0
def tw12773157172697671336:=0
def tw6142203467403015017:=0
def tw12436552335074217588:=0
def tw7403149745685795212:=0
def tw11871487663735032836:=0
def tw593366445298687265:=0
def tw16163851710139829557:=0
def tw10037038148598090373:=0
def tw426951417492993598:=0
def tw12957551806220635367:=0
def tw13404429629825589802:=0
def tw2888750189345943740:=0
def tw13057926696421274884:=0
def tw4968697327298894235:=0
def tw1148057625320552955:=0
def tw3783000855715146720:=0
def tw12450786034906670069:=0
def tw1495560943334454332:=0
def tw11180702956173730019:=0
def tw3033404064245342289:=0
def tw17946741933172407161:=0
def tw10043213127917855981:=0
def tw8273980634827457134:=0
def tw12020964079063915899:=0
def tw11297794886692743440:=0
def tw9054396187485819746:=0
def tw15480384127062514142:=0
def tw141711033872780459:=0
def tw13520440140067730305:=0
def tw14749289888328657146:=0
def tw11580538853996888687:=0
def tw3635332832734602264:=0
def tw10749783818085212971:=0
def tw16249240448770326898:=0
def tw75251176444353242:=0
def tw1780599853064246248:=0
def tw17103180051603288502:=0
def tw6385127473576821981:=0
def tw13315300095180126246:=0
def tw16005760947174856128:=0
def tw11933133319429545803:=0
def tw17379747429138574442:=0
def tw1833744957581948645:=0
def tw12716042598344807625:=0
def tw11023699216566413644:=0
def tw894710254478245225:=0
def tw10197810733445840561:=0
def tw12752103149247788510:=0
def tw11296227673822006552:=0
def tw15841887676050908340:=0
def tw5451372375596232868:=0
def tw10695857698211208352:=0
def tw8965589845140056119:=0
def tw11915758047392445552:=0
def tw9794335279513972440:=0
def tw16144842437438774269:=0
def tw2059406395935487005:=0
def tw13419473182895618029:=0
def tw17452668057119072731:=0
def tw16108709287308853631:=0
def tw13565883578038353958:=0
def tw10451727287793148878:=0
def tw11133176445065212340:=0
def tw919713946778406292:=0
def tw5669279795194921117:=0
def tw14173952597216408958:=0
def tw12847640842738584083:=0
def tw11989968829312516230:=0
def tw1041763715641707911:=0
def tw1799815988031961100:=0
def tw11879456492528068687:=0
def tw2704611805993722124:=0
def tw15362122049453238919:=0
def tw18272093560637339354:=0
def tw11696091164185198506:=0
def tw1703858455584909318:=0
def tw9738713932867668615:=0
def tw6220551377624509289:=0
def tw14836847717215541839:=0
def tw18162695494006666191:=0
def tw12482745414564238151:=0
def tw16679139579233407945:=0
def tw811507219719903534:=0
def tw8022442790785199373:=0
def tw9093491044446145047:=0
def tw16767109431728535263:=0
def tw17331029811636239847:=0
def tw3221823203500537128:=0
def tw16140258007226205969:=0
def tw17702346647123591902:=0
def tw11643881152425897992:=0
def tw1675639818737824867:=0
def tw12644264339750233797:=0
def tw17103096878713704065:=0
def tw843519226152362994:=0
def tw2907583919906146507:=0
def tw423565140077987815:=0
def tw6587435804041911218:=0
def tw16141153825300195067:=0
def tw7189929810559296812:=0
def tw17063302020449140271:=0
def tw4460879216444824416:=0
def tw5345766110846069293:=0
def tw12061489111300858615:=0
def tw8135687637470837590:=0
def tw9730865807027100133:=0
def tw14651164174067191794:=0
def tw11374365233719334097:=0
def tw13391043330932265664:=0
def tw17392873627953778056:=0
def tw5886454381616112873:=0
def tw8424416907595474611:=0
def tw9245899188839180214:=0
def tw11303704362702012553:=0
def tw524230446640357962:=0
def tw3920224213324450309:=0
def tw18008339591450328448:=0
def tw6521738687730859480:=0
def tw15391848625033906086:=0
def tw14335604657968008781:=0
def tw11620420352558889693:=0
def tw15416200428090211452:=0
def tw2153329290039646529:=0
def tw14039681638955348933:=0
def tw16506212821502903513:=0
def tw8144577733258360935:=0
def tw13314573690937776037:=0
def tw13756471463004000623:=0
def tw14743047728468755553:=0
def tw5526801611291917298:=0
def tw12988913964045328030:=0
def tw2116483137229543295:=0
def tw4847856830077649201:=0
def tw12023109854181426221:=0
def tw10898157434726721566:=0
def tw13050896593454567751:=0
def tw12442310399485681820:=0
def tw16297084409035701280:=0
def tw283309858608486972:=0
def tw9503205271908721448:=0
def tw15069591581404556149:=0
def tw13722895926974346717:=0
def tw8868602278925087820:=0
def tw1594041698205459124:=0
def tw2425306520423086040:=0
def tw15862281223078398411:=0
def tw6677811792329710322:=0
def tw6495094867030098844:=0
def tw2598973251546801826:=0
def tw14474855105347773431:=0
def tw14838853616284437872:=0
def tw11589882659948420361:=0
def tw9220757366528127098:=0
def tw2431974267561299105:=0
def tw13760783442550544900:=0
def tw4435051205772264821:=0
def tw12991112938179648520:=0
def tw10099153379023225602:=0
def tw13858581066298256795:=0
def tw14544007325794663491:=0
def tw2619036834841193416:=0
def tw2076663421119049697:=0
def tw11305166165667899750:=0
def tw2137380654147494797:=0
def tw7219245190466758428:=0
def tw16888339733984643132:=0
def tw3135439370658881753:=0
def tw13673234566903281162:=0
def tw8158621710682779428:=0
def tw115190611441691506:=0
def tw7229989297676066536:=0
def tw4577259317369283021:=0
def tw13968257007026468094:=0
def tw7714084094513595369:=0
def tw17477684501162628910:=0
def tw11602069095132264944:=0
def tw8320795160486991749:=0
def tw7177527132090130651:=0
def tw12259810588299713343:=0
def tw7528450482408373595:=0
def tw3294772282508856952:=0
def tw10031502006617815931:=0
def tw14803503468212436511:=0
def tw10536343272921616141:=0
def tw5138573120945303506:=0
def tw16717452674292421134:=0
def tw5282112036729028715:=0
def tw8895722679845166304:=0
def tw18445812285191429351:=0
def tw14953735544872444271:=0
def tw4431361155580637975:=0
def tw11985055213658316719:=0
def tw5346634194676336929:=0
def tw5807242587618331569:=0
def tw17767988358518796774:=0
def tw16083762510940107910:=0
def tw8906269860742389199:=0
def tw18257284244954707638:=0
def tw5395401559555804705:=0
def tw9694752784268168806:=0
def tw1397525451495438088:=0
def tw9318733707718555985:=0
def tw1289110696823489633:=0
def tw5846726322077284272:=0
def tw13559843486320613062:=0
def tw16622180971507297965:=0
def tw4613728975590559947:=0
def tw2840966972531625374:=0
def tw8896486918437025089:=0
def tw11805508688570421136:=0
def tw2010880615331880523:=0
def tw16883613505159258703:=0
def tw5759980821457761186:=0
def tw8720841325294162011:=0
def tw1369596415481190020:=0
def tw7585106515627552236:=0
def tw12475588144221897167:=0
def tw10156702966322727875:=0
def tw9595926421187778775:=0
def tw2981052356575418454:=0
def tw13367170910113956858:=0
def tw11205760322000318951:=0
def tw3252087433834215865:=0
def tw1810731932547329418:=0
def tw6943397943776313446:=0
def tw15327616977426454340:=0
def tw13713902142811485625:=0
def tw10150156066865731877:=0
def tw1914162137010992087:=0
def tw6892117161766422033:=0
def tw687322282949432298:=0
def tw1476711815419606718:=0
def tw10321591562090503238:=0
def tw11492716345066792660:=0
def tw8380033654776602620:=0
def tw15781749670249266627:=0
def tw6081578166353245242:=0
def tw10406080026431067745:=0
def tw16210471875770723677:=0
def tw12487080092181051525:=0
def tw8172420479279391656:=0
def tw9635628168679627358:=0
def tw14862814545699665030:=0
def tw10583564937347807675:=0
def tw17737934504586354877:=0
def tw10841592571651450857:=0
def tw5159448808832636400:=0
def tw17090493405191468110:=0
def tw9152461042563844966:=0
def tw8144754454358981075:=0
def tw14310522869841022411:=0
def tw9437256249194379978:=0
def tw1561465016358198731:=0
def tw3990562066494023377:=0
def tw4620647203683210376:=0
def tw7872255681120896457:=0
def tw3571364119590673965:=0
def tw6083016628120195713:=0
def tw9036418640318986443:=0
def tw2689405627926603423:=0
def tw16103837832212835179:=0
def tw15952703984536036713:=0
def tw3455072410144241799:=0
def tw14647580310425856262:=0
def tw4510664462004221661:=0
def tw2960354886541737476:=0
def tw10383048236627845116:=0
def tw10506277713748071278:=0
def tw12201036337684178817:=0
def tw1304963467406052826:=0
def tw15174963190681189906:=0
def tw722856407082424446:=0
def tw13577671034699164422:=0
def tw3413575220682114023:=0
def tw13588621792707821637:=0
def tw6400286989193618327:=0
def tw9217860154760706352:=0
def tw16648912463435737535:=0
def tw8102484953675768623:=0
def tw12482192960514809039:=0
def tw8005602028107667070:=0
def tw11280443007789397804:=0
def tw2812412161544661119:=0
def tw14858022252661701334:=0
def tw6079559196005104450:=0
def tw7805981095681269921:=0
def tw16824945211087114647:=0
def tw1420222596131158238:=0
def tw17641737984318697993:=0
def tw12930577589573446919:=0
def tw15319795671771315145:=0
def tw4830580534846741611:=0
def tw1107038695367974843:=0
def tw13509326275548575082:=0
def tw13983738736591003187:=0
def tw2221173320335023272:=0
def tw15963214181728711812:=0
def tw11670118588679230702:=0
def tw12365474335908220082:=0
def tw6845617380481438207:=0
def tw16741796702212194384:=0
def tw4353050265973428246:=0
def tw1875079011983590020:=0
def tw12621373282562861944:=0
def tw5193120422900076425:=0
def tw6539393261162497985:=0
def tw10235826040264679513:=0
def tw8587723760231320097:=0
def tw2925142657243933387:=0
def tw1375088885565050262:=0
def tw1984252588678472875:=0
def tw7177198406208324206:=0
def tw5249011204381432708:=0
def tw11027821122558250715:=0
def tw13202140929431410287:=0
def tw16392083651446020486:=0
def tw13729205106937706238:=0
def tw3087419378866792466:=0
def tw80279010117037875:=0
def tw8759572697988455358:=0
def tw10336259515832323315:=0
def tw8786335918998084910:=0
def tw2342809654111656025:=0
def tw17835810300333897736:=0
def tw16144963778346243293:=0
def tw7973884513097188427:=0
def tw13830261220291708678:=0
def tw11363231077253367689:=0
def tw11029181954706162880:=0
def tw3753312531693729075:=0
def tw14160334717683981411:=0
def tw12506289140700218196:=0
def tw14954462717767748018:=0
def tw4606023965703798633:=0
def tw2397165614855872711:=0
def tw12455953113616664553:=0
def tw9967956892657660190:=0
def tw12631642469643084801:=0
def tw18154257978332082131:=0
def tw12953733251215399322:=0
def tw17988887959981860737:=0
def tw7953997389994599897:=0
def tw10049749772572661376:=0
def tw13271503093974439644:=0
def tw6236446854309599416:=0
def tw1366089778966380056:=0
def tw4938719130210700417:=0
def tw1696950639863239707:=0
def tw9908251223934851015:=0
def tw3912386118530798525:=0
def tw18086364972852030423:=0
def tw4812675021691400352:=0
def tw5581758846618424510:=0
def tw10113159043376996260:=0
def tw13373239946455582158:=0
def tw11065101002683725990:=0
def tw3226279696029649183:=0
def tw6758378286065094460:=0
def tw11301204746822029232:=0
def tw17026029200657282679:=0
def tw17512897049286520109:=0
def tw11479557783615945596:=0
def tw8862376983151993523:=0
def tw12318431763120813883:=0
def tw12668154473161040478:=0
def tw3527201612626259932:=0
def tw10031544261743719343:=0
def tw4628990711894676361:=0
def tw14637578972982768580:=0
def tw12800618156613403625:=0
def tw6718289957517538657:=0
def tw7473719472287644087:=0
def tw15491021686463446129:=0
def tw13813830950894752387:=0
def tw12933651638001198790:=0
def tw10964578294585643546:=0
def tw15427024272489146517:=0
def tw16473588677027075542:=0
def tw4862862944239757744:=0
def tw11249566801645984569:=0
def tw14900166996354399214:=0
def tw14814308377664394787:=0
def tw471367074281318704:=0
def tw6591625809613426143:=0
def tw5133291902224792518:=0
def tw4383130974496074842:=0
def tw17239169901431005078:=0
def tw13189918221527572607:=0
def tw17253142059589486788:=0
def tw4783996105480440763:=0
def tw14784179825629735505:=0
def tw8277283239757178396:=0
def tw14749406632627978459:=0
def tw15519417911814317576:=0
def tw14469752147106626356:=0
def tw12221802897615928195:=0
def tw5566565572823392526:=0
def tw14829812611631723020:=0
def tw13052756856377412404:=0
def tw14217867935072233805:=0
def tw7644639115349670301:=0
def tw7805909584212092512:=0
def tw5132119676790569385:=0
def tw3131904223000731208:=0
def tw4028985769688569427:=0
def tw10130688553935222096:=0
def tw2234202526320089117:=0
def tw6483665646417382530:=0
def tw412424430309911649:=0
def tw4560229299471649888:=0
def tw8761308803073687982:=0
def tw8319674841165286438:=0
def tw768432610749007448:=0
def tw3291023131006335866:=0
def tw11446895796470088131:=0
def tw10939920855601291039:=0
def tw13015222561690482057:=0
def tw810444963405195181:=0
def tw6058962444564567008:=0
def tw15422157889117744826:=0
def tw12917508112506214923:=0
def tw2062937742460786883:=0
def tw5451993768488545079:=0
def tw17914157518459689091:=0
def tw12247149628932836321:=0
def tw453644800153689800:=0
def tw3867716132753700981:=0
def tw5770662838052829570:=0
def tw15086190343294503098:=0
def tw6428760746050268941:=0
def tw7122104340525085991:=0
def tw13027639618319872537:=0
def tw9593241785138521149:=0
def tw12250710641054351728:=0
def tw8413458127243533140:=0
def tw392460824743283350:=0
def tw9073884827659068865:=0
def tw12505258507590493370:=0
def tw1989940836930223484:=0
def tw14397351512236515298:=0
def tw12414240241559129752:=0
def tw16006795263440316567:=0
def tw11940154353734653348:=0
def tw17455062199215471440:=0
def tw6542137175939433470:=0
def tw10526301092294834072:=0
def tw7021550995881649741:=0
def tw9619906623335538617:=0
def tw9386970345890840310:=0
def tw9111602025683620280:=0
def tw13783397368171125988:=0
def tw211649698054040039:=0
def tw15106139565427643596:=0
def tw6595239757248720902:=0
def tw11441205573066095953:=0
def tw17990656245582709921:=0
def tw14111455108089672020:=0
def tw7178062659533000070:=0
def tw14889567698669312050:=0
def tw4226577343814666710:=0
def tw9077061615423535143:=0
def tw8273924283502427226:=0
def tw9039420129169505709:=0
def tw2608017331924680447:=0
def tw6227074599291284683:=0
def tw12288188448867358568:=0
def tw8352217831717861024:=0
def tw7143239623031622197:=0
def tw15321393112585142862:=0
def tw404378026599372698:=0
def tw227322293462840939:=0
def tw10676487551844084851:=0
def tw6284501441584938375:=0
def tw66899135106142336:=0
def tw6299377437796046832:=0
def tw16587951163530006375:=0
def tw11916263035633296821:=0
def tw4348390286460226025:=0
def tw8161494040094240285:=0
def tw2268485427955266213:=0
def tw3878571384018953537:=0
def tw13486173745264778139:=0
def tw8141746090298768782:=0
def tw1928812474397623444:=0
def tw10123754478527861302:=0
def tw3097820592686662973:=0
def tw16442460703509898886:=0
def tw6684370531896730537:=0
def tw10337014818136714915:=0
def tw2280616169416773739:=0
def tw16000127843736941631:=0
def tw2838729755130628978:=0
def tw12950022619881502576:=0
def tw2271264816416535090:=0
def tw10683400571614501884:=0
def tw14470902812041572148:=0
def tw734765994639670534:=0
def tw3393235942504801408:=0
def tw16007424587506736536:=0
def tw7054242409075503411:=0
def tw2962680565719334034:=0
def tw16026465260852106960:=0
def tw11364210722306892669:=0
def tw2865472720915140442:=0
def tw6024032552061526241:=0
def tw11337989309791825092:=0
def tw7464998287758638946:=0
def tw7728166588957022216:=0
def tw9562611217349276103:=0
def tw11594702907837578108:=0
def tw17570409448101819752:=0
def tw13808583092457563213:=0
def tw17584231608094934630:=0
def tw6326196289814169747:=0
def tw18055296613955684710:=0
def tw3397830460900155224:=0
def tw1042320902014865938:=0
def tw14294331560369893425:=0
def tw10579639868820071974:=0
def tw1219574186788268968:=0
def tw5541895085898168147:=0
def tw9257458695396469755:=0
def tw9611862128256655362:=0
def tw9782996467513749266:=0
def tw14378864619998766348:=0
def tw13053252286942500570:=0
def tw11705044176447448533:=0
def tw9584589976440447097:=0
def tw14973712678496466918:=0
def tw12886197778848509753:=0
def tw9287802746819965966:=0
def tw15909771874052992010:=0
def tw17246934022668045823:=0
def tw5379781665592522533:=0
def tw7296613078447385166:=0
def tw5413440791587167478:=0
def tw1980050201668100807:=0
def tw18008640350687148764:=0
def tw12101246079490538675:=0
def tw12380393610553864486:=0
def tw125987717250595497:=0
def tw16360163296244065028:=0
def tw3106853599874969817:=0
def tw2273975124816518188:=0
def tw404828794481052744:=0
def tw8711561058614716757:=0
def tw7286291989151438761:=0
def tw16641526108985993802:=0
def tw17681285698185286914:=0
def tw16907117334069472802:=0
def tw92262537565000680:=0
def tw16949637862885823396:=0
def tw15831209441051967160:=0
def tw16390217127664596545:=0
def tw3968417982053169197:=0
def tw11655464109272736770:=0
def tw9664768658753032742:=0
def tw9078316818171326033:=0
def tw14625439213857831621:=0
def tw7692375373125472067:=0
def tw8936094023671014417:=0
def tw5413066781627449946:=0
def tw14657853491147684815:=0
def tw6817448626284210900:=0
def tw7419995713686099357:=0
def tw7415428547759570534:=0
def tw14077158497033894039:=0
def tw7595015429770402969:=0
def tw9919342782023098003:=0
def tw7378402229070844078:=0
def tw13467889921836372569:=0
def tw2294553043703636923:=0
def tw1792584786051844254:=0
def tw14028715134738261942:=0
def tw10207428171066858351:=0
def tw3673526205362664447:=0
def tw2395648562205388898:=0
def tw13252029954604853708:=0
def tw607437628972654107:=0
def tw2807123541074846367:=0
def tw15482783720908354283:=0
def tw4323178633454679478:=0
def tw13850498981081380:=0
def tw697848757229665302:=0
def tw10497847824945408604:=0
def tw17605152499437787964:=0
def tw18042381494973643719:=0
def tw8189540215501083436:=0
def tw14554011458288112325:=0
def tw7993291675293127329:=0
def tw4095531382280720544:=0
def tw12012875695549447511:=0
def tw16169509845033206686:=0
def tw7039252420956216606:=0
def tw9086303589038500132:=0
def tw17570141551028102160:=0
def tw6398905257952253036:=0
def tw14381107322169995158:=0
def tw13311824344815800970:=0
def tw17020236774452026671:=0
def tw13963808324020941207:=0
def tw8920944791760887728:=0
def tw3685784383799141254:=0
def tw13934557564848572916:=0
def tw3095185840427786286:=0
def tw9596352058437966265:=0
def tw5152065501736078082:=0
def tw17738294240902187687:=0
def tw10456242092882246688:=0
def tw1242283721763352144:=0
def tw15155108650620246661:=0
def tw15795951317124480715:=0
def tw3621272801205542552:=0
def tw11757339456155447675:=0
def tw12810785753709847545:=0
def tw10226793237028279461:=0
def tw3978620151930790343:=0
def tw6338158978526664578:=0
def tw7566062102101287128:=0
def tw9061624301663567674:=0
def tw8421747558422372877:=0
def tw11502652911123399449:=0
def tw6728847203072154965:=0
def tw3181381003329646017:=0
def tw10759486387651805891:=0
def tw6645732864257276281:=0
def tw9376628226031223877:=0
def tw9816579176247069563:=0
def tw9325036353614645711:=0
def tw3646065216150157482:=0
def tw5639927423907066669:=0
def tw1496651737674131138:=0
def tw16831661032095011226:=0
def tw11838312087418465175:=0
def tw11928611570069825807:=0
def tw5217689632596347684:=0
def tw17867785762235455514:=0
def tw7294200279276996195:=0
def tw14460208412865000121:=0
def tw18277036771005269854:=0
end PySem.W.Fast
open PySem PySem.W PyProof.Rows
set_option maxRecDepth 100000 in
set_option maxHeartbeats 0 in
theorem PySem.Challenge.cw_losslook_s02_read_holds : PySem.Challenge.rw_losslook_s02_read.Holds := by
  w_on; k_headS; (case hw => exact ⟨[.int 0, .list []], by decide +kernel, by decide +kernel⟩)
  k_fillS
  refine Lk.zcH (r := PySem.Challenge.rw_losslook_s02_read) (k := 15) (CX := fun w => L2.CXe PySem.Challenge.rw_losslook_s02_read.prog w) (ps := ["most", "data"]) (sp := Lk.zdf) (by decide +kernel) rfl rfl ⟨rfl, by decide, by decide⟩ (fun w h Y => PySem.W.kIn_of Y) ?F Lk.zlg (fun _ _ _ _ _ ⟨_, _, _, _, _, _, z, _⟩ => z)
  case F =>
    intro w mg fa h Y KX G hmg
    refine' Lk.zmg KX G hmg ?nN ?xN ?nT ?xT ?nR ?xR ?nO ?xO ?x11 ?x21 ?x22 ?x31 ?x32 ?x33 ?x41 ?x42 ?x43 ?x44 ?cCB ?cCV ?cCC ?cCS ?cCG ?cCP ?cCK ?cCE ?cCD ?cCF ?cCH ?cCA ?iE ?n0 ?n1 ?n2 ?n3 ?n4 ?n5 ?n6 ?n7 ?n8 ?n9 ?n10 ?n11 ?n12 ?n13 ?n14 ?n15 ?n16 ?n17 ?n18 ?n19 ?n20 ?n21 ?n22 ?n23 ?n24 ?n25 ?n26 ?n27 ?n28 ?n29 ?n30 ?n31 ?blen ?brange ?bmax ?bmin ?bsum ?benumerate ?bord ?babs ?breversed ?kSPREAD ?kLOW ?kLONGEST ?kFIRST ?kRED ?kBLUE ?kALPHA ?kDISTANCE ?kPRED ?kCOL ?kGRE ?kTAB ?kMODE ?kSIG ?kNSF ?kTOO ?kLAR ?kM1 ?kM2 ?kBLACK ?kM3 ?kTLR ?kOOR ?kGM ?gO ?lO ?vO ?sO ?gA ?lA ?sA ?pA ?gSh ?lSh ?vSh ?sSh ?gMo ?lMo ?vMo ?sMo ?fM0 ?fM1 ?fM2 ?fM3 ?fM4 ?fM5 ?fM6 ?fM7 ?fM8 ?fM9 ?fM10 ?fM11 ?fM12 ?fM13 ?mBit ?mNum ?mLeft ?mB ?mC ?mNext ?fCol ?mV ?mPut ?mPutC ?mRep ?fVal ?fDist ?fMost ?fRun ?fCofL ?fLens ?fShort ?fCode ?mS ?mG ?fGrpNo ?fDivUp ?mColAt ?mGrpAt ?fDepth ?fColour ?fStep ?fColours ?fGroup ?fPlain ?fSquares ?fGroups ?fGrouped ?fAdded ?mP ?mK ?mD ?mPackW ?fShiftFor ?fSums ?fModes ?fTable ?mF ?mTake ?fTranss ?fLetters ?fSizeAt ?fNames ?fFrame ?mH ?mA ?fHead ?fCont ?fHalfSum ?fDiff ?fBrought ?fSign ?fShare ?fWithF ?fWithG ?fHalved ?mUndK ?mUndE ?mUndRow ?mUndP ?mUnpk ?mUndD ?mUndF ?mOct ?fOcts ?fROct ?fTop
    case nN => k_is
    case xN => k_exc
    case nT => k_is
    case xT => k_exc
    case nR => k_is
    case xR => k_exc
    case nO => k_is
    case xO => k_exc
    case x11 | x21 | x22 | x31 | x32 | x33 | x41 | x42 | x43 | x44 => kts_exm
    case cCB | cCV | cCC | cCS | cCG | cCP | cCK | cCE | cCD | cCF | cCH | cCA => (refine' Lk.zl9 ?nm ?pg ?hd ?po ?sa ?mk ?kp; case nm | pg | hd | po | sa | mk | kp => k_is)
    case iE | n0 | n1 | n2 | n3 | n4 | n5 | n6 | n7 | n8 | n9 | n10 | n11 | n12 | n13 | n14 | n15 | n16 | n17 | n18 | n19 | n20 | n21 | n22 | n23 | n24 | n25 | n26 | n27 | n28 | n29 | n30 | n31 | blen | brange | bmax | bmin | bsum | benumerate | bord | babs => k_is
    case breversed => k_is
    case kSPREAD | kLOW | kLONGEST | kFIRST | kRED | kBLUE | kALPHA | kDISTANCE | kPRED | kCOL | kGRE | kTAB | kMODE | kSIG | kNSF | kTOO | kLAR | kM1 | kM2 | kBLACK | kM3 | kTLR | kOOR | kGM => (refine' Lk.zl8 ?a; case a => k_is)
    case gO | lO => k_is
    case vO => exact .cons ⟨_, rfl⟩ (.cons ⟨_, rfl⟩ (.cons ⟨_, rfl⟩ (.cons ⟨_, rfl⟩ (.cons ⟨_, rfl⟩ (.cons ⟨_, rfl⟩ (.cons ⟨_, rfl⟩ (.cons ⟨_, rfl⟩ (.cons ⟨_, rfl⟩ (.cons ⟨_, rfl⟩ (.cons ⟨_, rfl⟩ (.cons ⟨_, rfl⟩ (.cons ⟨_, rfl⟩ (.cons ⟨_, rfl⟩ (.cons ⟨_, rfl⟩ (.cons ⟨_, rfl⟩ (.cons ⟨_, rfl⟩ (.cons ⟨_, rfl⟩ (.cons ⟨_, rfl⟩ (.nil)))))))))))))))))))
    case sO => (show 19 <= _; decide)
    case gA | lA => k_is
    case sA => (show 120 <= _; decide)
    case pA => (rw [Lk.zhR]; refine' Lk.zj.cons ?l0 ?r0; (case l0 => k_is); refine' Lk.zj.cons ?l1 ?r1; (case l1 => k_is); refine' Lk.zj.cons ?l2 ?r2; (case l2 => k_is); refine' Lk.zj.cons ?l3 ?r3; (case l3 => k_is); refine' Lk.zj.cons ?l4 ?r4; (case l4 => k_is); refine' Lk.zj.cons ?l5 ?r5; (case l5 => k_is); refine' Lk.zj.cons ?l6 ?r6; (case l6 => k_is); refine' Lk.zj.cons ?l7 ?r7; (case l7 => k_is); refine' Lk.zj.cons ?l8 ?r8; (case l8 => k_is); refine' Lk.zj.cons ?l9 ?r9; (case l9 => k_is); refine' Lk.zj.cons ?l10 ?r10; (case l10 => k_is); refine' Lk.zj.cons ?l11 ?r11; (case l11 => k_is); refine' Lk.zj.cons ?l12 ?r12; (case l12 => k_is); refine' Lk.zj.cons ?l13 ?r13; (case l13 => k_is); refine' Lk.zj.cons ?l14 ?r14; (case l14 => k_is); refine' Lk.zj.cons ?l15 ?r15; (case l15 => k_is); refine' Lk.zj.cons ?l16 ?r16; (case l16 => k_is); refine' Lk.zj.cons ?l17 ?r17; (case l17 => k_is); refine' Lk.zj.cons ?l18 ?r18; (case l18 => k_is); refine' Lk.zj.cons ?l19 ?r19; (case l19 => k_is); refine' Lk.zj.cons ?l20 ?r20; (case l20 => k_is); refine' Lk.zj.cons ?l21 ?r21; (case l21 => k_is); refine' Lk.zj.cons ?l22 ?r22; (case l22 => k_is); refine' Lk.zj.cons ?l23 ?r23; (case l23 => k_is); refine' Lk.zj.cons ?l24 ?r24; (case l24 => k_is); refine' Lk.zj.cons ?l25 ?r25; (case l25 => k_is); refine' Lk.zj.cons ?l26 ?r26; (case l26 => k_is); refine' Lk.zj.cons ?l27 ?r27; (case l27 => k_is); refine' Lk.zj.cons ?l28 ?r28; (case l28 => k_is); refine' Lk.zj.cons ?l29 ?r29; (case l29 => k_is); refine' Lk.zj.cons ?l30 ?r30; (case l30 => k_is); refine' Lk.zj.cons ?l31 ?r31; (case l31 => k_is); refine' Lk.zj.cons ?l32 ?r32; (case l32 => k_is); refine' Lk.zj.cons ?l33 ?r33; (case l33 => k_is); refine' Lk.zj.cons ?l34 ?r34; (case l34 => k_is); refine' Lk.zj.cons ?l35 ?r35; (case l35 => k_is); refine' Lk.zj.cons ?l36 ?r36; (case l36 => k_is); refine' Lk.zj.cons ?l37 ?r37; (case l37 => k_is); refine' Lk.zj.cons ?l38 ?r38; (case l38 => k_is); refine' Lk.zj.cons ?l39 ?r39; (case l39 => k_is); refine' Lk.zj.cons ?l40 ?r40; (case l40 => k_is); refine' Lk.zj.cons ?l41 ?r41; (case l41 => k_is); refine' Lk.zj.cons ?l42 ?r42; (case l42 => k_is); refine' Lk.zj.cons ?l43 ?r43; (case l43 => k_is); refine' Lk.zj.cons ?l44 ?r44; (case l44 => k_is); refine' Lk.zj.cons ?l45 ?r45; (case l45 => k_is); refine' Lk.zj.cons ?l46 ?r46; (case l46 => k_is); refine' Lk.zj.cons ?l47 ?r47; (case l47 => k_is); refine' Lk.zj.cons ?l48 ?r48; (case l48 => k_is); refine' Lk.zj.cons ?l49 ?r49; (case l49 => k_is); refine' Lk.zj.cons ?l50 ?r50; (case l50 => k_is); refine' Lk.zj.cons ?l51 ?r51; (case l51 => k_is); refine' Lk.zj.cons ?l52 ?r52; (case l52 => k_is); refine' Lk.zj.cons ?l53 ?r53; (case l53 => k_is); refine' Lk.zj.cons ?l54 ?r54; (case l54 => k_is); refine' Lk.zj.cons ?l55 ?r55; (case l55 => k_is); refine' Lk.zj.cons ?l56 ?r56; (case l56 => k_is); refine' Lk.zj.cons ?l57 ?r57; (case l57 => k_is); refine' Lk.zj.cons ?l58 ?r58; (case l58 => k_is); refine' Lk.zj.cons ?l59 ?r59; (case l59 => k_is); refine' Lk.zj.cons ?l60 ?r60; (case l60 => k_is); refine' Lk.zj.cons ?l61 ?r61; (case l61 => k_is); refine' Lk.zj.cons ?l62 ?r62; (case l62 => k_is); refine' Lk.zj.cons ?l63 ?r63; (case l63 => k_is); refine' Lk.zj.cons ?l64 ?r64; (case l64 => k_is); refine' Lk.zj.cons ?l65 ?r65; (case l65 => k_is); refine' Lk.zj.cons ?l66 ?r66; (case l66 => k_is); refine' Lk.zj.cons ?l67 ?r67; (case l67 => k_is); refine' Lk.zj.cons ?l68 ?r68; (case l68 => k_is); refine' Lk.zj.cons ?l69 ?r69; (case l69 => k_is); refine' Lk.zj.cons ?l70 ?r70; (case l70 => k_is); refine' Lk.zj.cons ?l71 ?r71; (case l71 => k_is); refine' Lk.zj.cons ?l72 ?r72; (case l72 => k_is); refine' Lk.zj.cons ?l73 ?r73; (case l73 => k_is); refine' Lk.zj.cons ?l74 ?r74; (case l74 => k_is); refine' Lk.zj.cons ?l75 ?r75; (case l75 => k_is); refine' Lk.zj.cons ?l76 ?r76; (case l76 => k_is); refine' Lk.zj.cons ?l77 ?r77; (case l77 => k_is); refine' Lk.zj.cons ?l78 ?r78; (case l78 => k_is); refine' Lk.zj.cons ?l79 ?r79; (case l79 => k_is); refine' Lk.zj.cons ?l80 ?r80; (case l80 => k_is); refine' Lk.zj.cons ?l81 ?r81; (case l81 => k_is); refine' Lk.zj.cons ?l82 ?r82; (case l82 => k_is); refine' Lk.zj.cons ?l83 ?r83; (case l83 => k_is); refine' Lk.zj.cons ?l84 ?r84; (case l84 => k_is); refine' Lk.zj.cons ?l85 ?r85; (case l85 => k_is); refine' Lk.zj.cons ?l86 ?r86; (case l86 => k_is); refine' Lk.zj.cons ?l87 ?r87; (case l87 => k_is); refine' Lk.zj.cons ?l88 ?r88; (case l88 => k_is); refine' Lk.zj.cons ?l89 ?r89; (case l89 => k_is); refine' Lk.zj.cons ?l90 ?r90; (case l90 => k_is); refine' Lk.zj.cons ?l91 ?r91; (case l91 => k_is); refine' Lk.zj.cons ?l92 ?r92; (case l92 => k_is); refine' Lk.zj.cons ?l93 ?r93; (case l93 => k_is); refine' Lk.zj.cons ?l94 ?r94; (case l94 => k_is); refine' Lk.zj.cons ?l95 ?r95; (case l95 => k_is); refine' Lk.zj.cons ?l96 ?r96; (case l96 => k_is); refine' Lk.zj.cons ?l97 ?r97; (case l97 => k_is); refine' Lk.zj.cons ?l98 ?r98; (case l98 => k_is); refine' Lk.zj.cons ?l99 ?r99; (case l99 => k_is); refine' Lk.zj.cons ?l100 ?r100; (case l100 => k_is); refine' Lk.zj.cons ?l101 ?r101; (case l101 => k_is); refine' Lk.zj.cons ?l102 ?r102; (case l102 => k_is); refine' Lk.zj.cons ?l103 ?r103; (case l103 => k_is); refine' Lk.zj.cons ?l104 ?r104; (case l104 => k_is); refine' Lk.zj.cons ?l105 ?r105; (case l105 => k_is); refine' Lk.zj.cons ?l106 ?r106; (case l106 => k_is); refine' Lk.zj.cons ?l107 ?r107; (case l107 => k_is); refine' Lk.zj.cons ?l108 ?r108; (case l108 => k_is); refine' Lk.zj.cons ?l109 ?r109; (case l109 => k_is); refine' Lk.zj.cons ?l110 ?r110; (case l110 => k_is); refine' Lk.zj.cons ?l111 ?r111; (case l111 => k_is); refine' Lk.zj.cons ?l112 ?r112; (case l112 => k_is); refine' Lk.zj.cons ?l113 ?r113; (case l113 => k_is); refine' Lk.zj.cons ?l114 ?r114; (case l114 => k_is); refine' Lk.zj.cons ?l115 ?r115; (case l115 => k_is); refine' Lk.zj.cons ?l116 ?r116; (case l116 => k_is); refine' Lk.zj.cons ?l117 ?r117; (case l117 => k_is); refine' Lk.zj.cons ?l118 ?r118; (case l118 => k_is); refine' Lk.zj.cons ?l119 ?r119; (case l119 => k_is); exact .nil)
    case gSh | lSh => k_is
    case vSh => exact .cons ⟨_, rfl⟩ (.cons ⟨_, rfl⟩ (.cons ⟨_, rfl⟩ (.cons ⟨_, rfl⟩ (.nil))))
    case sSh => (show 4 <= _; decide)
    case gMo | lMo => k_is
    case vMo => exact rfl
    case sMo => (show 14 <= _; decide)
    case fM0 | fM1 | fM2 | fM3 | fM4 | fM5 | fM6 | fM7 | fM8 | fM9 | fM10 | fM11 | fM12 | fM13 => (refine' Lk.zm6 ?l ?c ?k; case l | c | k => k_is)
    case mBit | mNum | mLeft | mB | mC | mNext => (refine' Lk.zaS ?a ?i ?l ?c ?k; case a | i | l | c | k => k_is)
    case fCol => (refine' Lk.za9 ?a ?l ?c ?k; case a | l | c | k => k_is)
    case mV | mPut | mPutC | mRep => (refine' Lk.zaS ?a ?i ?l ?c ?k; case a | i | l | c | k => k_is)
    case fVal | fDist | fMost | fRun | fCofL | fLens | fShort | fCode => (refine' Lk.za9 ?a ?l ?c ?k; case a | l | c | k => k_is)
    case mS | mG => (refine' Lk.zaS ?a ?i ?l ?c ?k; case a | i | l | c | k => k_is)
    case fGrpNo | fDivUp => (refine' Lk.za9 ?a ?l ?c ?k; case a | l | c | k => k_is)
    case mColAt | mGrpAt => (refine' Lk.zaS ?a ?i ?l ?c ?k; case a | i | l | c | k => k_is)
    case fDepth | fColour | fStep | fColours | fGroup | fPlain | fSquares | fGroups | fGrouped | fAdded => (refine' Lk.za9 ?a ?l ?c ?k; case a | l | c | k => k_is)
    case mP | mK | mD | mPackW => (refine' Lk.zaS ?a ?i ?l ?c ?k; case a | i | l | c | k => k_is)
    case fShiftFor | fSums | fModes | fTable => (refine' Lk.za9 ?a ?l ?c ?k; case a | l | c | k => k_is)
    case mF | mTake => (refine' Lk.zaS ?a ?i ?l ?c ?k; case a | i | l | c | k => k_is)
    case fTranss | fLetters | fSizeAt | fNames | fFrame => (refine' Lk.za9 ?a ?l ?c ?k; case a | l | c | k => k_is)
    case mH | mA => (refine' Lk.zaS ?a ?i ?l ?c ?k; case a | i | l | c | k => k_is)
    case fHead | fCont | fHalfSum | fDiff | fBrought | fSign | fShare | fWithF | fWithG | fHalved => (refine' Lk.za9 ?a ?l ?c ?k; case a | l | c | k => k_is)
    case mUndK | mUndE | mUndRow | mUndP | mUnpk | mUndD | mUndF | mOct => (refine' Lk.zaS ?a ?i ?l ?c ?k; case a | i | l | c | k => k_is)
    case fOcts | fROct | fTop => (refine' Lk.za9 ?a ?l ?c ?k; case a | l | c | k => k_is)
