import PyProof.Rows.All
import Wide.All
import OpenK.AllK
import Wide.FinOn
import PyProof.EqAt
import PyProof.EqKinds
import PyProof.TupleCall
import Open.SpecLaws
import KE.OsHead
import KE.OsGo
import KE.BitLaws
import KE.KTryMore
import KE.RegKTryMore
import KE.KEqDeep
import PySem.Challenge.RW_losslook_s01_look
set_option Elab.async false
set_option linter.all false
set_option maxRecDepth 100000
set_option maxHeartbeats 4000000
section
namespace Lk
open Sn15
theorem zF {α β : Type} (m : D α) (f : α -> D β) (bs : List Bool) : (m >>= f) bs = (m bs).bind fun x => f x.1 x.2 := by
  show (StateT.bind m f) bs = _
  unfold StateT.bind
  show (m bs >>= fun x => _) = _
  cases m bs <;> rfl
theorem zjn {α : Type} (a : α) (bs : List Bool) : (pure a : D α) bs = some (a, bs) := rfl
theorem zlr {α : Type} (bs : List Bool) : (bad : D α) bs = none := rfl
theorem zgO (b : Bool) (bs : List Bool) : need b bs = if b = true then some ((), bs) else none := by
  unfold need; split <;> rfl
theorem zG {α β γ : Type} (m : D α) (f : α -> D β) (g : β -> D γ) : ((m >>= f) >>= g) = (m >>= fun a => f a >>= g) := by
  funext bs
  simp only [zF]
  cases m bs <;> rfl
theorem zl {α β : Type} (a : α) (f : α -> D β) : ((pure a : D α) >>= f) = f a := by
  funext bs; rw [zF]; rfl
theorem zaM {α : Type} (m : D α) : (m >>= fun a => (pure a : D α)) = m := by
  funext bs; rw [zF]; cases m bs <;> rfl
theorem zcQ {α β : Type} (f : α -> D β) : ((bad : D α) >>= f) = bad := by
  funext bs; rw [zF]; rfl
theorem yb {β : Type} (f : Unit -> D β) : (need true >>= f) = f () := by
  funext bs; rw [zF]; rfl
theorem yy {β : Type} (f : Unit -> D β) : (need false >>= f) = bad := by
  funext bs; rw [zF]; rfl
theorem ki {α β : Type} (m : D α) : (m >>= fun _ => (bad : D β)) = bad := by
  funext bs; rw [zF]; cases m bs <;> rfl
theorem zdy {α : Type} {m m' : D α} (h : ∀ bs, m bs = m' bs) : m = m' := funext h
theorem zlM {α β : Type} (f : α -> β) (m : D α) (bs : List Bool) : (f <$> m) bs = (m bs).map fun x => (f x.1, x.2) := by
  show (StateT.map f m) bs = _
  unfold StateT.map
  show (m bs >>= fun x => _) = _
  cases m bs <;> rfl
def b2n (x : Bool) : Nat := if x = true then 1 else 0
theorem zgR (x : Bool) : b2n x < 2 := by cases x <;> decide
theorem zfY (n : Nat) : bits (n + 1) [] = none := rfl
theorem wY (n : Nat) (x : Bool) (r : List Bool) : bits (n + 1) (x :: r) = (bits n r).map fun y => (b2n x + 2 * y.1, y.2) := by
  show ((bits n) >>= fun v => (pure ((if x = true then 1 else 0) + 2 * v) : D Nat)) r = _
  rw [zF]
  cases bits n r <;> rfl
def val : List Bool -> Nat
  | [] => 0
  | x :: r => b2n x + 2 * val r
theorem qo : ∀ (n : Nat) (bs : List Bool), bits n bs = if n <= bs.length then some (val (bs.take n), bs.drop n) else none
  | 0, bs => by simp [val]; rfl
  | n + 1, [] => by rw [zfY]; simp
  | n + 1, x :: r => by
    rw [wY, qo n r]
    by_cases h : n <= r.length
    . rw [if_pos h, if_pos (by simpa using h)]; rfl
    . rw [if_neg h, if_neg (by simpa using h)]; rfl
theorem zcg : ∀ (l : List Bool) (x : Bool), val (l ++ [x]) = val l + b2n x * 2 ^ l.length
  | [], x => by simp [val]
  | y :: r, x => by
    have e := zcg r x
    simp only [List.cons_append, val, e, List.length_cons, Nat.pow_succ]
    rw [Nat.mul_add, <- Nat.add_assoc, Nat.mul_comm (2 ^ r.length) 2, <- Nat.mul_assoc, <- Nat.mul_assoc, Nat.mul_comm (b2n x) 2]
theorem zfh : ∀ (l : List Bool), val l < 2 ^ l.length
  | [] => by simp [val]
  | x :: r => by
    have := zfh r
    have := zgR x
    simp only [val, List.length_cons, Nat.pow_succ]
    omega
theorem ya {n : Nat} {bs bs' : List Bool} {v : Nat} (h : bits n bs = some (v, bs')) : v < 2 ^ n := by
  rw [qo] at h
  by_cases hn : n <= bs.length
  . rw [if_pos hn] at h
    cases h
    have := zfh (bs.take n)
    rwa [List.length_take, Nat.min_eq_left hn] at this
  . rw [if_neg hn] at h; cases h
theorem zj5 {n : Nat} {bs bs' : List Bool} {v : Nat} (h : bits n bs = some (v, bs')) : bs'.length + n = bs.length := by
  rw [qo] at h
  by_cases hn : n <= bs.length
  . rw [if_pos hn] at h
    cases h
    rw [List.length_drop]; omega
  . rw [if_neg hn] at h; cases h
theorem zkm : bits 0 = (pure 0 : D Nat) := rfl
theorem zhM : bits 1 [] = none := rfl
theorem zbL (x : Bool) (r : List Bool) : bits 1 (x :: r) = some (b2n x, r) := by
  rw [wY]; simp [zkm, zjn]
theorem xP : ∀ (b : List Nat), (bitsOf b).length = 8 * b.length
  | [] => rfl
  | c :: r => by
    have e := xP r
    unfold bitsOf at e ⊢
    rw [List.flatMap_cons, List.length_append, e]
    simp; omega
theorem kE : ∀ (b : List Nat) (i : Nat), (bitsOf b)[i]? = (b[i / 8]?).map fun c => c.testBit (i % 8)
  | [], i => by simp [bitsOf]
  | c :: r, i => by
    have e := kE r (i - 8)
    unfold bitsOf at e ⊢
    rw [List.flatMap_cons]
    by_cases h : i < 8
    . rw [List.getElem?_append_left (by simpa using h)]
      have : i / 8 = 0 := by omega
      rw [this, Nat.mod_eq_of_lt h]
      simp [h]
    . rw [List.getElem?_append_right (by simpa using h)]
      have h1 : i / 8 = (i - 8) / 8 + 1 := by omega
      have h2 : (i - 8) % 8 = i % 8 := by omega
      simp only [List.length_map, List.length_range]
      rw [e, h1, h2]
      simp
theorem zdv {b : List Nat} {i : Nat} (h : i < 8 * b.length) : ∃ c, b[i / 8]? = some c /\ (bitsOf b).drop i = c.testBit (i % 8) :: (bitsOf b).drop (i + 1) := by
  have hi : i / 8 < b.length := by omega
  refine ⟨b[i / 8], List.getElem?_eq_getElem hi, ?_⟩
  have hl : i < (bitsOf b).length := by rw [xP]; exact h
  rw [List.drop_eq_getElem_cons hl]
  have e := kE b i
  rw [List.getElem?_eq_getElem hl, List.getElem?_eq_getElem hi] at e
  simp only [Option.map_some, Option.some.injEq] at e
  rw [e]
theorem zgb (c i : Nat) : b2n (c.testBit i) = c / 2 ^ i % 2 := by
  unfold b2n
  have := Nat.testBit_eq_decide_div_mod_eq (x := c) (i := i)
  rw [this]
  have h2 : c / 2 ^ i % 2 < 2 := Nat.mod_lt _ (by decide)
  by_cases h : c / 2 ^ i % 2 = 1
  . simp [h]
  . have h0 : c / 2 ^ i % 2 = 0 := by omega
    simp [h0]
end Lk
end
section
namespace Lk
open Sn15
def wo : List (List Nat) -> Nat -> D Nat
  | [], _ => bad
  | w :: ws, r => match w[r]? with
    | some s => pure s
    | none => do
      let b <- bits 1
      wo ws (2 * (r - w.length) + b)
def zaz : Nat -> List (List Nat) -> Prop
  | c, [] => c = 0
  | c, w :: ws => w.length <= c /\ zaz (2 * (c - w.length)) ws
def zK (c : Code) (n : Nat) : List Nat := (List.range c.length).filter fun s => c.getD s 0 == n
def zJ (c : Code) : Nat -> Nat -> List (List Nat)
  | _, 0 => []
  | n, k + 1 => zK c n :: zJ c (n + 1) k
def z6 (c : Code) : Nat -> Nat
  | 0 => 0
  | n + 1 => z6 c n + (zK c (n + 1)).length * 2 ^ (14 - n)
def ziH (c : Code) (n s : Nat) : Nat := (c.zipIdx.map fun x => if x.1 ≠ 0 /\ (x.1 < n \/ (x.1 = n /\ x.2 < s)) then 2 ^ (15 - x.1) else 0).sum
theorem zdW (c : Code) (s : Nat) : word c s = ziH c (c.getD s 0) s / 2 ^ (15 - c.getD s 0) := rfl
theorem je : ∀ (c : List Nat) (k : Nat), c.zipIdx k = (List.range c.length).map fun i => (c.getD i 0, i + k)
  | [], _ => rfl
  | x :: r, k => by
    rw [List.zipIdx_cons, je r (k + 1), List.length_cons, List.range_succ_eq_map, List.map_cons, List.map_map]
    simp only [List.getD_cons_zero, Nat.zero_add, List.cons.injEq, true_and]
    apply List.map_congr_left
    intro i _
    simp only [Function.comp, List.getD_cons_succ]
    congr 1
    omega
theorem qt {l : List Nat} {f g : Nat -> Nat} (h : ∀ i ∈ l, f i = g i) : (l.map f).sum = (l.map g).sum := by
  rw [List.map_congr_left h]
theorem vn (f g : Nat -> Nat) : ∀ (l : List Nat), (l.map fun i => f i + g i).sum = (l.map f).sum + (l.map g).sum
  | [] => rfl
  | x :: r => by simp only [List.map_cons, List.sum_cons, vn f g r]; omega
theorem vz (p : Nat -> Bool) (v : Nat) : ∀ (l : List Nat), (l.map fun i => if p i = true then v else 0).sum = (l.filter p).length * v
  | [] => by simp
  | x :: r => by
    simp only [List.map_cons, List.sum_cons, vz p v r, List.filter_cons]
    by_cases h : p x = true
    . simp [h, Nat.add_mul]; omega
    . simp [h]
theorem y6 (c : Code) (n s : Nat) : ziH c n s = ((List.range c.length).map fun i => if c.getD i 0 ≠ 0 /\ (c.getD i 0 < n \/ (c.getD i 0 = n /\ i < s)) then 2 ^ (15 - c.getD i 0) else 0).sum := by
  unfold ziH
  rw [je, List.map_map]
  rfl
def zjR (c : Code) (n s : Nat) : Nat := ((List.range c.length).filter fun i => c.getD i 0 == n && decide (i < s)).length
theorem zdf (c : Code) (n : Nat) : ziH c (n + 1) 0 = z6 c n := by
  induction n with
  | zero =>
    rw [y6]
    show _ = 0
    have : (List.map (fun i => if c.getD i 0 ≠ 0 /\ (c.getD i 0 < 0 + 1 \/ c.getD i 0 = 0 + 1 /\ i < 0) then 2 ^ (15 - c.getD i 0) else 0) (List.range c.length)) = List.map (fun _ => 0) (List.range c.length) := by
      apply List.map_congr_left
      intro i _
      rw [if_neg]
      omega
    rw [this]
    generalize List.range c.length = l
    induction l with
    | nil => rfl
    | cons _ r ih => simp only [List.map_cons, List.sum_cons, ih]
  | succ n ih =>
    rw [z6, <- ih, y6, y6]
    unfold zK
    rw [<- vz (fun i => c.getD i 0 == n + 1) (2 ^ (14 - n)), <- vn]
    apply qt
    intro i _
    by_cases h : c.getD i 0 = n + 1
    . rw [if_pos (show c.getD i 0 ≠ 0 /\ _ by omega), if_neg (show ¬(c.getD i 0 ≠ 0 /\ (c.getD i 0 < n + 1 \/ c.getD i 0 = n + 1 /\ i < 0)) by omega), if_pos (by simpa using h), h]
      simp
    . rw [if_neg (show ¬ ((c.getD i 0 == n + 1) = true) by simpa using h)]
      by_cases h2 : c.getD i 0 ≠ 0 /\ c.getD i 0 < n + 1
      . rw [if_pos (by omega), if_pos (by omega)]
        rfl
      . rw [if_neg (by omega), if_neg (by omega)]
theorem zeo (c : Code) (n s : Nat) (hn : 0 < n) : ziH c n s = ziH c n 0 + zjR c n s * 2 ^ (15 - n) := by
  unfold zjR
  rw [y6, y6, <- vz (fun i => c.getD i 0 == n && decide (i < s)) (2 ^ (15 - n)), <- vn]
  apply qt
  intro i _
  by_cases h : c.getD i 0 = n /\ i < s
  . rw [if_pos (by omega), if_neg (by omega), if_pos (by rw [Bool.and_eq_true]; exact ⟨beq_iff_eq.mpr h.1, decide_eq_true h.2⟩), h.1]
    simp
  . rw [if_neg (show ¬ ((c.getD i 0 == n && decide (i < s)) = true) by rw [Bool.and_eq_true, beq_iff_eq, decide_eq_true_iff]; exact h)]
    by_cases h2 : c.getD i 0 ≠ 0 /\ c.getD i 0 < n
    . rw [if_pos (by omega), if_pos (by omega)]
      rfl
    . rw [if_neg (by omega), if_neg (by omega)]
theorem wJ (c : Code) : ∀ (n : Nat), n <= 14 -> 2 ^ (14 - n) ∣ z6 c n
  | 0, _ => ⟨0, rfl⟩
  | n + 1, h => by
    obtain ⟨k, hk⟩ := wJ c n (by omega)
    have e : 2 ^ (14 - n) = 2 ^ (14 - (n + 1)) * 2 := by
      rw [<- Nat.pow_succ]; congr 1; omega
    refine ⟨2 * k + (zK c (n + 1)).length * 2, ?_⟩
    rw [z6, hk, e]
    rw [Nat.mul_add, Nat.mul_assoc, Nat.mul_left_comm (zK c (n + 1)).length, <- Nat.mul_assoc]
theorem zhi (c : Code) (n s : Nat) (h : c.getD s 0 = n + 1) (hn : n <= 14) : word c s = z6 c n / 2 ^ (14 - n) + zjR c (n + 1) s := by
  rw [zdW, h, zeo c (n + 1) s (by omega), zdf]
  have e : 15 - (n + 1) = 14 - n := by omega
  rw [e, Nat.add_mul_div_right _ _ (Nat.pow_pos (by decide))]
theorem wE (p : Nat -> Bool) (g : Nat -> Nat) (hg : ∀ s, g s = ((List.range s).filter p).length) (r : Nat) : ∀ (N : Nat), (List.range N).find? (fun s => p s && g s == r) = ((List.range N).filter p)[r]?
  | 0 => by simp
  | N + 1 => by
    rw [List.range_succ, List.find?_append, wE p g hg r N, List.filter_append]
    by_cases hr : r < ((List.range N).filter p).length
    . rw [List.getElem?_append_left hr, List.getElem?_eq_getElem hr]
      rfl
    . rw [List.getElem?_append_right (by omega), List.getElem?_eq_none (by omega)]
      rw [Option.none_or]
      by_cases hp : p N = true
      . by_cases e : g N = r
        . have : r - ((List.range N).filter p).length = 0 := by rw [hg] at e; omega
          rw [this]
          simp [hp, e]
        . have : r - ((List.range N).filter p).length ≠ 0 := by rw [hg] at e; omega
          obtain ⟨k, hk⟩ := Nat.exists_eq_succ_of_ne_zero this
          rw [hk]
          simp [hp, e]
      . simp [hp]
theorem zco {c : Code} {n s : Nat} (hs : s <= c.length) : zjR c n s = ((List.range s).filter fun i => c.getD i 0 == n).length := by
  unfold zjR
  obtain ⟨k, hk⟩ : ∃ k, c.length = s + k := ⟨c.length - s, by omega⟩
  rw [hk, List.range_add, List.filter_append, List.length_append]
  have e1 : List.filter (fun i => c.getD i 0 == n && decide (i < s)) (List.range s) = List.filter (fun i => c.getD i 0 == n) (List.range s) := by
    apply List.filter_congr
    intro i hi
    simp [List.mem_range.mp hi]
  have e2 : List.filter (fun i => c.getD i 0 == n && decide (i < s)) (List.map (fun x => s + x) (List.range k)) = [] := by
    rw [List.filter_eq_nil_iff]
    intro i hi
    obtain ⟨j, _, rfl⟩ := List.mem_map.mp hi
    simp
  rw [e1, e2]
  rfl
theorem zdF (c : Code) (n w : Nat) (hn : n <= 14) (hw : z6 c n / 2 ^ (14 - n) <= w) : ((List.range c.length).find? fun s => c.getD s 0 == n + 1 && word c s == w) = (zK c (n + 1))[w - z6 c n / 2 ^ (14 - n)]? := by
  unfold zK
  rw [<- wE (fun s => c.getD s 0 == n + 1) (fun s => ((List.range s).filter fun i => c.getD i 0 == n + 1).length) (fun _ => rfl)]
  have key : ∀ (l : List Nat), (∀ s ∈ l, s < c.length) -> (l.find? fun s => c.getD s 0 == n + 1 && word c s == w) = (l.find? fun s => c.getD s 0 == n + 1 && ((List.range s).filter fun i => c.getD i 0 == n + 1).length == w - z6 c n / 2 ^ (14 - n)) := by
    intro l
    induction l with
    | nil => intro _; rfl
    | cons s r ih =>
      intro h
      rw [List.find?_cons, List.find?_cons, ih fun i hi => h i (List.mem_cons_of_mem _ hi)]
      have : (c.getD s 0 == n + 1 && word c s == w) = (c.getD s 0 == n + 1 && ((List.range s).filter fun i => c.getD i 0 == n + 1).length == w - z6 c n / 2 ^ (14 - n)) := by
        by_cases hc : c.getD s 0 = n + 1
        . have hs := h s List.mem_cons_self
          rw [zhi c n s hc hn, zco (Nat.le_of_lt hs)]
          simp only [hc, beq_self_eq_true, Bool.true_and]
          rw [Bool.eq_iff_iff]
          simp only [beq_iff_eq]
          omega
        . have : (c.getD s 0 == n + 1) = false := by simpa using hc
          rw [this]; rfl
      rw [this]
  exact key _ fun s hs => List.mem_range.mp hs
theorem xU {bs bs' : List Bool} {v : Nat} (h : bits 1 bs = some (v, bs')) : v < 2 := ya h
theorem xo (c : Code) : ∀ (k n rd : Nat), n + k = 15 -> z6 c n <= 2 * rd * 2 ^ (14 - n) \/ n = 15 -> symbolFrom c k rd n = (bits 1 >>= fun b => wo (zJ c (n + 1) k) (2 * rd + b - z6 c n / 2 ^ (14 - n)))
  | 0, n, rd, hk, _ => by
    show bad = _
    funext bs
    rw [zF]
    cases bits 1 bs <;> rfl
  | k + 1, n, rd, hk, ht => by
    have hn : n <= 14 := by omega
    have ht : z6 c n <= 2 * rd * 2 ^ (14 - n) := by
      rcases ht with h | h
      . exact h
      . omega
    have hdiv : z6 c n / 2 ^ (14 - n) <= 2 * rd := by
      calc z6 c n / 2 ^ (14 - n) <= 2 * rd * 2 ^ (14 - n) / 2 ^ (14 - n) := Nat.div_le_div_right ht
        _ = 2 * rd := Nat.mul_div_cancel _ (Nat.pow_pos (by decide))
    funext bs
    show (bits 1 >>= fun b => _) bs = _
    rw [zF, zF]
    cases hb : bits 1 bs with
    | none => rfl
    | some x =>
      obtain ⟨b, bs'⟩ := x
      simp only [Option.bind_some]
      rw [zdF c n (2 * rd + b) hn (by omega)]
      show _ = wo (zK c (n + 1) :: zJ c (n + 1 + 1) k) (2 * rd + b - z6 c n / 2 ^ (14 - n)) bs'
      unfold wo
      cases hs : (zK c (n + 1))[2 * rd + b - z6 c n / 2 ^ (14 - n)]? with
      | some s => rfl
      | none =>
        simp only []
        have hlen : (zK c (n + 1)).length <= 2 * rd + b - z6 c n / 2 ^ (14 - n) := List.getElem?_eq_none_iff.mp hs
        obtain ⟨q, hq⟩ := wJ c n hn
        have hpos : 0 < 2 ^ (14 - n) := Nat.pow_pos (by decide)
        have hq' : z6 c n / 2 ^ (14 - n) = q := by rw [hq, Nat.mul_comm, Nat.mul_div_cancel _ hpos]
        rw [hq'] at hlen ⊢
        have hnext : z6 c (n + 1) <= (2 * rd + b) * 2 ^ (14 - n) := by
          rw [z6, hq, Nat.mul_comm (2 ^ (14 - n)) q, <- Nat.add_mul]
          exact Nat.mul_le_mul_right _ (by omega)
        by_cases hn14 : n = 14
        . have hk0 : k = 0 := by omega
          subst hk0
          rw [xo c 0 (n + 1) (2 * rd + b) (by omega) (.inr (by omega))]
          rw [zF, zF]
          cases bits 1 bs' <;> rfl
        . have e1 : 2 ^ (14 - n) = 2 * 2 ^ (14 - (n + 1)) := by
            rw [<- Nat.pow_succ']; congr 1; omega
          rw [xo c k (n + 1) (2 * rd + b) (by omega) (.inl (by rw [e1] at hnext; rw [Nat.mul_assoc] ; rw [Nat.mul_left_comm]; exact hnext))]
          have e2 : z6 c (n + 1) / 2 ^ (14 - (n + 1)) = 2 * (q + (zK c (n + 1)).length) := by
            rw [z6, hq, Nat.mul_comm (2 ^ (14 - n)) q, <- Nat.add_mul, e1, <- Nat.mul_assoc, Nat.mul_div_cancel _ (Nat.pow_pos (by decide)), Nat.mul_comm]
          rw [e2]
          rw [zF, zF]
          cases bits 1 bs' with
          | none => rfl
          | some y =>
            simp only [Option.bind_some]
            congr 1
            omega
theorem xx (c : Code) (h : ∀ s, ((List.range c.length).filter fun s => c.getD s 0 != 0) ≠ [s]) : symbol c = (bits 1 >>= wo (zJ c 1 15)) := by
  unfold symbol
  split
  . rename_i s hs
    exact absurd hs (h s)
  . rw [xo c 15 0 0 rfl (.inl (Nat.le_refl _))]
    simp only [z6, Nat.mul_zero, Nat.zero_add, Nat.zero_div, Nat.sub_zero]
theorem yT {c : Code} {s : Nat} (h : ((List.range c.length).filter fun s => c.getD s 0 != 0) = [s]) : symbol c = pure s := by
  unfold symbol
  rw [h]
theorem zbz : ∀ {ws : List (List Nat)} {r s : Nat} {bs bs' : List Bool}, wo ws r bs = some (s, bs') -> ∃ w ∈ ws, s ∈ w
  | [], _, _, _, _, h => by cases h
  | w :: ws, r, s, bs, bs', h => by
    unfold wo at h
    cases hw : w[r]? with
    | some x =>
      rw [hw] at h
      cases h
      exact ⟨w, List.mem_cons_self, List.mem_of_getElem? hw⟩
    | none =>
      rw [hw] at h
      simp only [] at h
      rw [zF] at h
      cases hb : bits 1 bs with
      | none => rw [hb] at h; cases h
      | some y =>
        rw [hb] at h
        obtain ⟨w', h1, h2⟩ := zbz h
        exact ⟨w', List.mem_cons_of_mem _ h1, h2⟩
theorem zeM {c : Code} {n s : Nat} (h : s ∈ zK c n) : s < c.length := List.mem_range.mp (List.mem_filter.mp h).1
theorem qw {c : Code} : ∀ {k n : Nat} {w : List Nat}, w ∈ zJ c n k -> ∃ m, w = zK c m
  | 0, _, _, h => by cases h
  | k + 1, n, w, h => by
    rcases List.mem_cons.mp h with e | h
    . exact ⟨n, e⟩
    . exact qw h
theorem y9 {c : Code} {s : Nat} {bs bs' : List Bool} (h : symbol c bs = some (s, bs')) : s < c.length := by
  by_cases hs : ∃ s, ((List.range c.length).filter fun s => c.getD s 0 != 0) = [s]
  . obtain ⟨x, hx⟩ := hs
    rw [yT hx] at h
    cases h
    exact List.mem_range.mp (List.mem_filter.mp (by rw [hx]; exact List.mem_cons_self : s ∈ _)).1
  . rw [xx c fun s e => hs ⟨s, e⟩, zF] at h
    cases hb : bits 1 bs with
    | none => rw [hb] at h; cases h
    | some y =>
      rw [hb] at h
      obtain ⟨w, h1, h2⟩ := zbz h
      obtain ⟨m, rfl⟩ := qw h1
      exact zeM h2
end Lk
end
section
namespace Lk
open Sn15
theorem kG (c : Code) {m : Nat} : ∀ {n : Nat}, m <= n -> z6 c m <= z6 c n
  | 0, h => by have : m = 0 := by omega
               subst this; exact Nat.le_refl _
  | n + 1, h => by
    by_cases e : m = n + 1
    . subst e; exact Nat.le_refl _
    . exact Nat.le_trans (kG c (n := n) (by omega)) (Nat.le_add_right _ _)
theorem zeX (c : Code) : ∀ (k n q : Nat), n + k = 16 -> 1 <= n -> (n <= 15 -> z6 c (n - 1) + q * 2 ^ (15 - n) = z6 c 15) -> (n = 16 -> q = 0) -> zaz q (zJ c n k)
  | 0, n, q, h, _, _, h2 => h2 (by omega)
  | k + 1, n, q, h, h1, hq, _ => by
    have hq := hq (by omega)
    obtain ⟨m, rfl⟩ : ∃ m, n = m + 1 := ⟨n - 1, by omega⟩
    have e0 : m + 1 - 1 = m := rfl
    have e1 : 15 - (m + 1) = 14 - m := by omega
    rw [e0, e1] at hq
    have hm := kG c (m := m + 1) (n := 15) (by omega)
    rw [z6] at hm
    have hpos : 0 < 2 ^ (14 - m) := Nat.pow_pos (by decide)
    have hle : (zK c (m + 1)).length <= q := Nat.le_of_mul_le_mul_right (by omega) hpos
    refine ⟨hle, zeX c k (m + 1 + 1) _ (by omega) (by omega) (fun h15 => ?_) (fun h16 => ?_)⟩
    . have e2 : m + 1 + 1 - 1 = m + 1 := rfl
      have e3 : 2 * 2 ^ (15 - (m + 1 + 1)) = 2 ^ (14 - m) := by rw [<- Nat.pow_succ']; congr 1; omega
      rw [e2, z6, Nat.mul_comm 2, Nat.mul_assoc, e3, Nat.add_assoc, <- Nat.add_mul, Nat.add_sub_cancel' hle]
      exact hq
    . have hm14 : m = 14 := by omega
      subst hm14
      have : q = (zK c (14 + 1)).length := by
        have h15 : z6 c 15 = z6 c 14 + (zK c (14 + 1)).length * 2 ^ (14 - 14) := rfl
        rw [h15] at hq
        simp at hq
        omega
      omega
theorem zds {c : Code} (h : z6 c 15 = 2 ^ 15) : zaz 2 (zJ c 1 15) :=
  zeX c 15 1 2 rfl (Nat.le_refl _) (fun _ => by rw [h]; show 0 + 2 * 2 ^ 14 = 2 ^ 15; decide) (fun h => absurd h (by decide))
theorem jE (c : List Nat) : (List.range c.length).map (fun i => c.getD i 0) = c := by
  apply List.ext_getElem
  . simp
  . intro i h1 h2
    rw [List.getElem_map, List.getElem_range, List.getD_eq_getElem?_getD, List.getElem?_eq_getElem h2]
    rfl
theorem zdL (c : List Nat) (f : Nat -> Nat) : (c.map f).sum = ((List.range c.length).map fun i => f (c.getD i 0)).sum := by
  have e : c.map f = (List.range c.length).map fun i => f (c.getD i 0) := by
    conv => lhs; rw [<- jE c]
    rw [List.map_map]; rfl
  rw [e]
theorem ja (c : Code) : ∀ (n : Nat), n <= 15 -> ((List.range c.length).map fun i => if c.getD i 0 ≠ 0 /\ c.getD i 0 <= n then 2 ^ (15 - c.getD i 0) else 0).sum = z6 c n
  | 0, _ => by
    have : (List.map (fun i => if c.getD i 0 ≠ 0 /\ c.getD i 0 <= 0 then 2 ^ (15 - c.getD i 0) else 0) (List.range c.length)) = List.map (fun _ => 0) (List.range c.length) := by
      apply List.map_congr_left
      intro i _
      rw [if_neg]
      omega
    rw [this]
    show _ = 0
    generalize List.range c.length = l
    induction l with
    | nil => rfl
    | cons _ r ih => simp only [List.map_cons, List.sum_cons, ih]
  | n + 1, h => by
    rw [z6, <- ja c n (by omega)]
    unfold zK
    rw [<- vz (fun i => c.getD i 0 == n + 1) (2 ^ (14 - n)), <- vn]
    apply qt
    intro i _
    by_cases h : c.getD i 0 = n + 1
    . rw [if_pos (by omega), if_neg (by omega), if_pos (by simpa using h), h]
      simp
    . rw [if_neg (show ¬ ((c.getD i 0 == n + 1) = true) by simpa using h)]
      by_cases h2 : c.getD i 0 ≠ 0 /\ c.getD i 0 <= n
      . rw [if_pos (by omega), if_pos (by omega)]
        rfl
      . rw [if_neg (by omega), if_neg (by omega)]
theorem zfe {c : Code} (h15 : ∀ n ∈ c, n <= 15) : (c.map fun n => if n = 0 then 0 else 2 ^ (15 - n)).sum = z6 c 15 := by
  rw [<- ja c 15 (Nat.le_refl _), zdL]
  apply qt
  intro i hi
  have hl : c.getD i 0 <= 15 := by
    have := List.mem_range.mp hi
    rw [List.getD_eq_getElem?_getD, List.getElem?_eq_getElem this]
    exact h15 _ (List.getElem_mem _)
  by_cases h0 : c.getD i 0 = 0
  . rw [if_pos h0, if_neg (by omega)]
  . rw [if_neg h0, if_pos ⟨h0, hl⟩]
theorem zcj (c : List Nat) : (c.filter fun n => n != 0).length = ((List.range c.length).filter fun s => c.getD s 0 != 0).length := by
  conv => lhs; rw [<- jE c]
  rw [List.filter_map, List.length_map]
  rfl
theorem qF (c : Code) : ((List.range c.length).filter fun s => c.getD s 0 != 0).length + (zK c 0).length = c.length := by
  unfold zK
  have h : ∀ (l : List Nat), (l.filter fun s => c.getD s 0 != 0).length + (l.filter fun s => c.getD s 0 == 0).length = l.length := by
    intro l
    induction l with
    | nil => rfl
    | cons x r ih =>
      rw [List.filter_cons, List.filter_cons]
      by_cases h0 : c.getD x 0 = 0
      . simp only [h0, bne_self_eq_false, Bool.false_eq_true, if_false, beq_self_eq_true, if_true, List.length_cons]; omega
      . have h1 : (c.getD x 0 != 0) = true := by simpa using h0
        have h2 : (c.getD x 0 == 0) = false := by simpa using h0
        simp only [h1, h2, if_true, Bool.false_eq_true, if_false, List.length_cons]; omega
  have := h (List.range c.length)
  rwa [List.length_range] at this
theorem wf {c : Code} (h15 : ∀ n ∈ c, n <= 15) : good c = true ↔ (c.length - (zK c 0).length = 1 \/ z6 c 15 = 2 ^ 15) := by
  unfold good
  rw [Bool.or_eq_true, beq_iff_eq, beq_iff_eq, zfe h15, zcj]
  have := qF c
  constructor
  . rintro (h | h)
    . exact .inl (by omega)
    . exact .inr h
  . rintro (h | h)
    . exact .inl (by omega)
    . exact .inr h
theorem zc1 {l : List Nat} (h : l.length = 1) : ∃ s, l = [s] := by
  match l, h with
  | [s], _ => exact ⟨s, rfl⟩
theorem zin {c : Code} (h : c.length - (zK c 0).length = 1) : ∃ s, ((List.range c.length).filter fun s => c.getD s 0 != 0) = [s] /\ s < c.length /\ c.getD s 0 ≠ 0 /\ ∀ i, i < c.length -> i ≠ s -> c.getD i 0 = 0 := by
  have := qF c
  obtain ⟨s, hs⟩ := zc1 (l := (List.range c.length).filter fun s => c.getD s 0 != 0) (by omega)
  have hm : s ∈ (List.range c.length).filter fun s => c.getD s 0 != 0 := by rw [hs]; exact List.mem_cons_self
  have hm' := List.mem_filter.mp hm
  refine ⟨s, hs, List.mem_range.mp hm'.1, by simpa using hm'.2, fun i hi hne => ?_⟩
  by_cases h0 : c.getD i 0 = 0
  . exact h0
  . exfalso
    have : i ∈ (List.range c.length).filter fun s => c.getD s 0 != 0 := List.mem_filter.mpr ⟨List.mem_range.mpr hi, by simpa using h0⟩
    rw [hs] at this
    exact hne (by simpa using this)
theorem jw (c : List Nat) (k i : Nat) : (c ++ List.replicate k 0).getD i 0 = c.getD i 0 := by
  rw [List.getD_eq_getElem?_getD, List.getD_eq_getElem?_getD]
  by_cases h : i < c.length
  . rw [List.getElem?_append_left h]
  . rw [List.getElem?_append_right (by omega), List.getElem?_eq_none (l := c) (by omega), List.getElem?_replicate]
    split <;> rfl
theorem zcA (c : Code) (k n : Nat) (hn : 0 < n) : zK (c ++ List.replicate k 0) n = zK c n := by
  unfold zK
  rw [List.length_append, List.length_replicate, List.range_add, List.filter_append]
  have e1 : List.filter (fun s => (c ++ List.replicate k 0).getD s 0 == n) (List.range c.length) = List.filter (fun s => c.getD s 0 == n) (List.range c.length) := by
    apply List.filter_congr
    intro i _
    rw [jw]
  have e2 : List.filter (fun s => (c ++ List.replicate k 0).getD s 0 == n) (List.map (fun x => c.length + x) (List.range k)) = [] := by
    rw [List.filter_eq_nil_iff]
    intro i hi
    obtain ⟨j, _, rfl⟩ := List.mem_map.mp hi
    rw [jw, List.getD_eq_getElem?_getD, List.getElem?_eq_none (by omega)]
    simp; omega
  rw [e1, e2, List.append_nil]
theorem zce (c : Code) (k : Nat) : ((List.range (c ++ List.replicate k 0).length).filter fun s => (c ++ List.replicate k 0).getD s 0 != 0) = ((List.range c.length).filter fun s => c.getD s 0 != 0) := by
  rw [List.length_append, List.length_replicate, List.range_add, List.filter_append]
  have e1 : List.filter (fun s => (c ++ List.replicate k 0).getD s 0 != 0) (List.range c.length) = List.filter (fun s => c.getD s 0 != 0) (List.range c.length) := by
    apply List.filter_congr
    intro i _
    rw [jw]
  have e2 : List.filter (fun s => (c ++ List.replicate k 0).getD s 0 != 0) (List.map (fun x => c.length + x) (List.range k)) = [] := by
    rw [List.filter_eq_nil_iff]
    intro i hi
    obtain ⟨j, _, rfl⟩ := List.mem_map.mp hi
    rw [jw, List.getD_eq_getElem?_getD, List.getElem?_eq_none (by omega)]
    simp
  rw [e1, e2, List.append_nil]
theorem qj (c : Code) (j : Nat) : ∀ (k n : Nat), 0 < n -> zJ (c ++ List.replicate j 0) n k = zJ c n k
  | 0, _, _ => rfl
  | k + 1, n, h => by
    show zK _ n :: _ = zK c n :: _
    rw [zcA c j n h, qj c j k (n + 1) (by omega)]
theorem kH (c : Code) (k : Nat) : symbol (c ++ List.replicate k 0) = symbol c := by
  by_cases hs : ∃ s, ((List.range c.length).filter fun s => c.getD s 0 != 0) = [s]
  . obtain ⟨s, hs⟩ := hs
    rw [yT hs, yT (by rw [zce]; exact hs)]
  . rw [xx c fun s e => hs ⟨s, e⟩, xx _ fun s e => hs ⟨s, by rw [zce] at e; exact e⟩, qj c k 15 1 (by decide)]
theorem zgq (c : Code) (k : Nat) : good (c ++ List.replicate k 0) = good c := by
  unfold good
  rw [List.filter_append, List.map_append, List.sum_append]
  have e1 : (List.replicate k 0).filter (fun n => n != 0) = [] := by
    rw [List.filter_eq_nil_iff]
    intro i hi
    rw [List.eq_of_mem_replicate hi]; decide
  have e2 : ((List.replicate k 0).map fun n => if n = 0 then 0 else 2 ^ (15 - n)).sum = 0 := by
    rw [List.map_replicate]; simp
  rw [e1, e2, List.append_nil, Nat.add_zero]
end Lk
end
section
namespace Lk
open Sn15
def jb (size a : Nat) : Code := (List.range size).map fun s => if s = a then 1 else 0
def yU (size a b : Nat) : Code := (List.range size).map fun s => if s = a \/ s = b then 1 else 0
def kh (size : Nat) : D Code := do
  let two <- bits 1
  let long <- bits 1
  let a <- bits (if long = 1 then 8 else 1)
  need (decide (a < size))
  if two = 1 then do
    let b <- bits 8
    need (decide (b < size) && b != a)
    return yU size a b
  else return jb size a
def zcm (o : List (Nat × Nat)) : Code := (List.range 19).map fun s => ((o.find? fun x => x.1 == s).map fun x => x.2).getD 0
def zj3 : D Code := do
  let n <- bits 4
  let o <- orderLengths (n + 4) ORDER
  need (good (zcm o))
  return zcm o
def za0 (size : Nat) : D Nat := do
  if (<- bits 1) = 0 then pure size else do
    let k <- bits 3
    let m <- bits (2 + 2 * k)
    need (decide (m + 2 <= size))
    return m + 2
def qu (size : Nat) : D Code := do
  let c <- zj3
  let most <- za0 size
  lengths c size (size + 1) most 8 []
def wZ (size : Nat) : D Code := do
  if (<- bits 1) = 1 then kh size else do
    let l <- qu size
    need (good l)
    return l
theorem zcI (size : Nat) : (do
    let two <- bits 1
    let long <- bits 1
    let a <- bits (if long = 1 then 8 else 1)
    let b <- if two = 1 then (do return some (<- bits 8)) else pure none
    need (decide (a < size) && match b with
      | some b => decide (b < size) && b != a
      | none => true)
    return (List.range size).map fun s => if s = a \/ some s = b then 1 else 0 : D Code) = kh size := by
  unfold kh
  apply zdy
  intro bs
  simp only [zF]
  cases bits 1 bs with
  | none => rfl
  | some x =>
    obtain ⟨two, bs⟩ := x
    simp only [Option.bind_some]
    cases bits 1 bs with
    | none => rfl
    | some x =>
      obtain ⟨long, bs⟩ := x
      simp only [Option.bind_some]
      cases bits (if long = 1 then 8 else 1) bs with
      | none => rfl
      | some x =>
        obtain ⟨a, bs⟩ := x
        simp only [Option.bind_some]
        by_cases h : two = 1
        . simp only [h, if_true]
          simp only [zG, zl]
          by_cases ha : a < size
          . simp only [decide_eq_true ha, Bool.true_and]
            have e : need true bs = some ((), bs) := rfl
            rw [e]
            simp only [Option.bind_some]
            rw [zF, zF]
            cases bits 8 bs with
            | none => rfl
            | some x =>
              simp only [Option.bind_some, Option.some.injEq]
              rfl
          . have hf : decide (a < size) = false := decide_eq_false ha
            simp only [hf, Bool.false_and, yy, ki, zgO]
            rfl
        . simp only [h, if_false]
          simp only [zl, Bool.and_true]
          by_cases ha : a < size
          . simp only [decide_eq_true ha, yb, reduceCtorEq, or_false]
            rfl
          . simp only [decide_eq_false ha, yy]
            rfl
theorem zhk (size : Nat) : code size = wZ size := by
  unfold wZ qu zj3 za0
  apply zdy
  intro bs
  show (bits 1 >>= fun t => if t = 1 then _ else _) bs = (bits 1 >>= fun t => if t = 1 then _ else _) bs
  rw [zF, zF]
  cases bits 1 bs with
  | none => rfl
  | some x =>
    obtain ⟨t, bs⟩ := x
    simp only [Option.bind_some]
    by_cases ht : t = 1
    . rw [if_pos ht, if_pos ht]
      exact congrFun (zcI size) bs
    . rw [if_neg ht, if_neg ht]
      simp only [zG, zl]
      rw [zF, zF]
      cases bits 4 bs with
      | none => rfl
      | some x =>
        obtain ⟨n, bs⟩ := x
        simp only [Option.bind_some]
        rw [zF, zF]
        cases orderLengths (n + 4) ORDER bs with
        | none => rfl
        | some x =>
          obtain ⟨o, bs⟩ := x
          simp only [Option.bind_some]
          rw [show (List.map (fun s => (Option.map (fun x => x.2) (List.find? (fun x => x.1 == s) o)).getD 0) (List.range 19)) = zcm o from rfl]
          rw [zF, zF]
          cases need (good (zcm o)) bs with
          | none => rfl
          | some x =>
            obtain ⟨_, bs⟩ := x
            simp only [Option.bind_some]
            rw [zF, zF]
            cases bits 1 bs with
            | none => rfl
            | some x =>
              obtain ⟨u, bs⟩ := x
              simp only [Option.bind_some]
              by_cases hu : u = 0
              . rw [if_pos hu, if_pos hu]
                simp only [zl, decide_eq_true (Nat.le_refl size), yb]
              . rw [if_neg hu, if_neg hu]
                simp only [zG, zl]
def zbc : List Nat -> List Nat -> D (List Nat)
  | [], l => pure l
  | s :: r, l => do
    let k <- bits 3
    zbc r (l.set s k)
def xc (o : List (Nat × Nat)) (l : List Nat) : Code := (List.range 19).map fun s => ((o.find? fun x => x.1 == s).map fun x => x.2).getD (l.getD s 0)
theorem zak {s k : Nat} {o : List (Nat × Nat)} {l : List Nat} (hs : ∀ x ∈ o, x.1 ≠ s) (hl : s < l.length) : xc ((s, k) :: o) l = xc o (l.set s k) := by
  unfold xc
  apply List.map_congr_left
  intro i _
  rw [List.find?_cons]
  by_cases e : s = i
  . subst e
    have hn : o.find? (fun x => x.1 == s) = none := by
      rw [List.find?_eq_none]
      intro x hx
      simpa using hs x hx
    simp [hn, hl]
  . have : ((s, k).1 == i) = false := by simpa using e
    rw [this]
    simp only []
    rw [List.getD_eq_getElem?_getD, List.getD_eq_getElem?_getD, List.getElem?_set_ne e]
theorem y4 : ∀ (n : Nat) (ord : List Nat) (bs bs' : List Bool) (o : List (Nat × Nat)), orderLengths n ord bs = some (o, bs') -> (∀ x ∈ o, x.1 ∈ ord)
  | 0, ord, bs, bs', o, h => by
    cases ord <;> (cases h; intro x hx; cases hx)
  | n + 1, [], bs, bs', o, h => by cases h
  | n + 1, s :: r, bs, bs', o, h => by
    have h : (bits 3 >>= fun k => orderLengths n r >>= fun q => pure ((s, k) :: q)) bs = some (o, bs') := h
    rw [zF] at h
    cases hb : bits 3 bs with
    | none => rw [hb] at h; cases h
    | some x =>
      rw [hb] at h
      simp only [Option.bind_some] at h
      rw [zF] at h
      cases ho : orderLengths n r x.2 with
      | none => rw [ho] at h; cases h
      | some y =>
        rw [ho] at h
        cases h
        intro z hz
        rcases List.mem_cons.mp hz with e | hz
        . rw [e]; exact List.mem_cons_self
        . exact List.mem_cons_of_mem _ (y4 n r x.2 y.2 y.1 ho z hz)
theorem wQ : ∀ (n : Nat) (ord l : List Nat), n <= ord.length -> ord.Nodup -> (∀ s ∈ ord, s < 19) -> l.length = 19 -> (orderLengths n ord >>= fun o => pure (xc o l)) = zbc (ord.take n) l
  | 0, ord, l, _, _, _, hl => by
    have e : orderLengths 0 ord = pure [] := by cases ord <;> rfl
    rw [e, zl]
    show pure (xc [] l) = pure l
    have : xc [] l = l := by
      have := jE l
      rw [hl] at this
      exact this
    rw [this]
  | n + 1, [], l, h, _, _, _ => by simp at h
  | n + 1, s :: r, l, h, hnd, hlt, hl => by
    show ((bits 3 >>= fun k => orderLengths n r >>= fun q => pure ((s, k) :: q)) >>= fun o => pure (xc o l)) = (bits 3 >>= fun k => zbc (r.take n) (l.set s k))
    rw [zG]
    apply zdy
    intro bs
    rw [zF, zF]
    cases bits 3 bs with
    | none => rfl
    | some x =>
      obtain ⟨k, bs⟩ := x
      simp only [Option.bind_some]
      have hnd' := List.nodup_cons.mp hnd
      rw [<- wQ n r (l.set s k) (by simpa using h) hnd'.2 (fun t ht => hlt t (List.mem_cons_of_mem _ ht)) (by rw [List.length_set]; exact hl)]
      rw [zG, zF, zF]
      cases ho : orderLengths n r bs with
      | none => rfl
      | some y =>
        obtain ⟨o, bs'⟩ := y
        simp only [Option.bind_some]
        rw [zl]
        rw [zak (fun x hx e => hnd'.1 (by rw [<- e]; exact y4 n r _ _ _ ho x hx)) (by rw [hl]; exact hlt s List.mem_cons_self)]
def zaU : D Code := do
  let n <- bits 4
  let c <- zbc (ORDER.take (n + 4)) (List.replicate 19 0)
  need (good c)
  return c
theorem vV (o : List (Nat × Nat)) : zcm o = xc o (List.replicate 19 0) := by
  unfold zcm xc
  apply List.map_congr_left
  intro i hi
  have : (List.replicate 19 0).getD i 0 = 0 := by
    rw [List.getD_eq_getElem?_getD, List.getElem?_replicate]
    split <;> rfl
  rw [this]
theorem zir : zj3 = zaU := by
  unfold zj3 zaU
  apply zdy
  intro bs
  rw [zF, zF]
  cases hb : bits 4 bs with
  | none => rfl
  | some x =>
    obtain ⟨n, bs⟩ := x
    simp only [Option.bind_some]
    have hn : n < 16 := ya hb
    rw [<- wQ (n + 4) ORDER (List.replicate 19 0) (by show n + 4 <= 19; omega) (by decide) (by decide) (by simp)]
    rw [zG]
    simp only [zl, vV]
theorem xm (c : Code) (size n most last : Nat) (l : List Nat) (h : size <= l.length \/ most = 0) : lengths c size (n + 1) most last l = pure (l ++ List.replicate (size - l.length) 0) := by
  show (if size <= l.length \/ most = 0 then _ else _) = _
  rw [if_pos h]
theorem xG (c : Code) (size n most last : Nat) (l : List Nat) (h : l.length < size) (hm : 0 < most) : lengths c size (n + 1) most last l = (symbol c >>= fun s => if s < 16 then lengths c size n (most - 1) (if s = 0 then last else s) (l ++ [s]) else
    ((if s = 16 then bits 2 else if s = 17 then bits 3 else bits 7) >>= fun k => need (decide (l.length + (if s = 18 then k + 11 else k + 3) <= size)) >>= fun _ =>
      lengths c size n (most - 1) last (l ++ List.replicate (if s = 18 then k + 11 else k + 3) (if s = 16 then last else 0)))) := by
  show (if size <= l.length \/ most = 0 then _ else _) = _
  rw [if_neg (by omega)]
  congr 1
  funext s
  by_cases h16 : s < 16
  . simp only [h16, if_true]
  . simp only [h16, if_false]
    by_cases e1 : s = 16
    . simp only [e1, if_true]
    . by_cases e2 : s = 17
      . simp only [e1, e2, if_true, if_false]; rfl
      . simp only [e1, e2, if_false]
theorem jf {c : Code} {s : Nat} (hs : symbol c = pure s) (h16 : s < 16) (size : Nat) : ∀ (n most last : Nat) (l : List Nat), most < n -> l.length + most <= size -> lengths c size n most last l = pure ((l ++ List.replicate most s) ++ List.replicate (size - (l.length + most)) 0)
  | 0, _, _, _, h, _ => absurd h (Nat.not_lt_zero _)
  | n + 1, 0, last, l, _, _ => by
    rw [xm c size n 0 last l (.inr rfl)]
    simp
  | n + 1, m + 1, last, l, h, hl => by
    rw [xG c size n (m + 1) last l (by omega) (by omega), hs, zl, if_pos h16, jf hs h16 size n (m + 1 - 1) _ (l ++ [s]) (by omega) (by simp; omega)]
    simp only [List.length_append, List.length_cons, List.length_nil, List.append_assoc, Nat.add_sub_cancel]
    congr 2
    rw [show l.length + (0 + 1) + m = l.length + (m + 1) by omega]
    rw [<- List.append_assoc [s]]
    congr 1
end Lk
end
section
namespace Lk
open Sn15
structure yq (p : Px) : Prop where
  a : p.a < 256
  r : p.r < 256
  g : p.g < 256
  b : p.b < 256
theorem zkD {p : Px} (h : yq p) : p.word < 2 ^ 32 := by
  obtain ⟨h1, h2, h3, h4⟩ := h
  unfold Px.word
  omega
theorem zhY (k : Nat) (p : Px) (hk : k <= 32) : hash k p < 2 ^ k := by
  unfold Sn15.hash
  rw [Nat.div_lt_iff_lt_mul (Nat.pow_pos (by decide)), <- Nat.pow_add, Nat.add_sub_cancel' hk]
  exact Nat.mod_lt _ (Nat.pow_pos (by decide))
def xO (k : Nat) (l : List Px) : List Nat := (List.range (2 ^ k)).map fun i => if k = 0 then 0 else (cached k l i).word
theorem zcY (k : Nat) : xO k [] = List.replicate (2 ^ k) 0 := by
  unfold xO
  apply List.ext_getElem
  . simp
  . intro i _ _
    simp [cached, Px.word]
theorem zaV (k : Nat) (l : List Px) (p : Px) (i : Nat) : cached k (l ++ [p]) i = if hash k p = i then p else cached k l i := by
  unfold cached
  rw [List.reverse_append, List.reverse_singleton, List.singleton_append, List.find?_cons]
  by_cases h : hash k p = i
  . simp [h]
  . have : (hash k p == i) = false := by simpa using h
    rw [this, if_neg h]
theorem zaQ (k : Nat) (l : List Px) (p : Px) (hk : 0 < k) (hk2 : k <= 32) : xO k (l ++ [p]) = (xO k l).set (hash k p) p.word := by
  unfold xO
  apply List.ext_getElem
  . simp
  . intro i h1 h2
    rw [List.getElem_set]
    simp only [List.getElem_map, List.getElem_range]
    rw [if_neg (show ¬ k = 0 by omega), if_neg (show ¬ k = 0 by omega), zaV]
    by_cases h : hash k p = i
    . rw [if_pos h, if_pos h]
    . rw [if_neg h, if_neg h]
theorem jz (l : List Px) : xO 0 l = [0] := rfl
theorem zcZ (k : Nat) (l : List Px) : (xO k l).length = 2 ^ k := by unfold xO; simp
theorem zcw (k : Nat) (l : List Px) (i : Nat) (hk : 0 < k) (hi : i < 2 ^ k) : (xO k l)[i]? = some (cached k l i).word := by
  unfold xO
  rw [List.getElem?_map, List.getElem?_range hi]
  simp only [Option.map_some]
  rw [if_neg (by omega)]
theorem zdN {k : Nat} {l : List Px} {i : Nat} (h : ∀ p ∈ l, yq p) : yq (cached k l i) := by
  unfold cached
  cases e : l.reverse.find? fun p => hash k p == i with
  | none => exact ⟨by decide, by decide, by decide, by decide⟩
  | some p => exact h p (List.mem_reverse.mp (List.mem_of_find?_eq_some e))
theorem xW (n d : Nat) (l : List Px) : again (n + 1) d l = again n d (l ++ [l.getD (l.length - d) black]) := rfl
theorem jH : ∀ (n d : Nat) (l : List Px), (again n d l).length = l.length + n
  | 0, _, _ => rfl
  | n + 1, d, l => by rw [xW, jH n]; simp; omega
theorem getD_mem {l : List Px} {i : Nat} {d : Px} (h : i < l.length) : l.getD i d ∈ l := by
  rw [List.getD_eq_getElem?_getD, List.getElem?_eq_getElem h]
  exact List.getElem_mem _
theorem zfy : ∀ (n d : Nat) (l : List Px), (∀ p ∈ l, yq p) -> 0 < d -> d <= l.length -> ∀ p ∈ again n d l, yq p
  | 0, _, _, h, _, _ => h
  | n + 1, d, l, h, hd, hl => by
    rw [xW]
    refine zfy n d _ (fun p hp => ?_) hd (by simp; omega)
    rcases List.mem_append.mp hp with hp | hp
    . exact h p hp
    . rw [List.mem_singleton.mp hp]
      exact h _ (getD_mem (by omega))
theorem wP (w t k : Nat) (gs : List Group) (wh : Nat -> Nat -> Nat) (n : Nat) (l : List Px) (h : t <= l.length) : elements w t k gs wh (n + 1) l = pure l := by
  show (if t <= l.length then _ else _) = _
  rw [if_pos h]
def zcS (w t k : Nat) (g : Group) (l : List Px) : D (List Px) := do
  let s <- symbol g.green
  if s < 256 then do
    let r <- symbol g.red
    let b <- symbol g.blue
    let a <- symbol g.alpha
    return l ++ [⟨a, r, s, b⟩]
  else if s < 280 then do
    let n <- value (s - 256)
    let ds <- symbol g.distance
    let dv <- value ds
    need (decide (back w dv <= l.length) && decide (l.length + n <= t))
    return again n (back w dv) l
  else return l ++ [cached k l (s - 280)]
theorem v9 (w t k : Nat) (gs : List Group) (wh : Nat -> Nat -> Nat) (n : Nat) (l : List Px) (g : Group) (h : l.length < t) (hg : gs[wh (l.length % w) (l.length / w)]? = some g) :
    elements w t k gs wh (n + 1) l = (zcS w t k g l >>= fun l' => elements w t k gs wh n l') := by
  show (if t <= l.length then _ else _) = _
  rw [if_neg (by omega)]
  simp only [hg]
  unfold zcS
  rw [zG]
  congr 1
  funext s
  by_cases h1 : s < 256
  . simp only [h1, if_true, zG, zl]
  . by_cases h2 : s < 280
    . simp only [h1, h2, if_true, if_false, zG, zl]
    . simp only [h1, h2, if_false, zl]
theorem wR {s v : Nat} {bs bs' : List Bool} (h : value s bs = some (v, bs')) : 0 < v := by
  unfold value at h
  split at h
  . cases h; omega
  . rw [zF] at h
    cases hb : bits ((s - 2) / 2) bs with
    | none => rw [hb] at h; cases h
    | some x => rw [hb] at h; cases h; omega
theorem zf7 (w d : Nat) (h : 0 < d) : 0 < back w d := by
  unfold back
  split
  . omega
  . simp only []
    split
    . decide
    . omega
def zW (k : Nat) : Nat := if k = 0 then 0 else 2 ^ k
def qZ : D Nat := do
  if (<- bits 1) = 1 then do
    let k <- bits 4
    need (decide (1 <= k /\ k <= 11))
    return k
  else pure 0
def zbf (w h k : Nat) (gs : List Group) (wh : Nat -> Nat -> Nat) : D (List Px) := elements w (w * h) k gs wh (w * h + 1) []
def qx (w h : Nat) : D (List Px) := do
  let k <- qZ
  let g <- group (zW k)
  zbf w h k [g] fun _ _ => 0
def yF (w h : Nat) : D (Nat × List Px) := do
  let k <- bits 3
  let l <- qx (up w (2 ^ (k + 2))) (up h (2 ^ (k + 2)))
  return (k + 2, l)
def yJ (p : Px) : Nat := p.r * 256 + p.g
def yx (w z : Nat) (l : List Px) (x y : Nat) : Nat := yJ (l.getD (y / 2 ^ z * up w (2 ^ z) + x / 2 ^ z) black)
def vB (w h k : Nat) : D (List Group × (Nat -> Nat -> Nat)) := do
  if (<- bits 1) = 1 then do
    let m <- yF w h
    let gs <- groups (zW k) ((m.2.map yJ).foldl max 0 + 1)
    return (gs, yx w m.1 m.2)
  else do
    let g <- group (zW k)
    return ([g], fun _ _ => 0)
def zcy (w h : Nat) : D (List Px) := do
  let k <- qZ
  let g <- vB w h k
  zbf w h k g.1 g.2
theorem kU (c : Nat) : groups c 1 = (group c >>= fun g => pure [g]) := by
  show (group c >>= fun g => groups c 0 >>= fun r => pure (g :: r)) = _
  congr 1
theorem zca {α β : Type} (c : Prop) [Decidable c] (a b : D α) (f : α -> D β) : ((if c then a else b) >>= f) = if c then a >>= f else b >>= f := by
  split <;> rfl
theorem xj (n w h : Nat) : coded (n + 1) false w h = qx w h := by
  unfold coded qx qZ
  simp only [Bool.false_eq_true, if_false, zca, zG, zl, Nat.zero_ne_one, kU]
  rfl
theorem zcW (w h : Nat) : coded 2 true w h = zcy w h := by
  unfold coded zcy qZ vB yF
  simp only [if_true, zca, zG, zl, xj]
  congr 1
  funext t
  have key : ∀ (k : Nat), (bits 1 >>= fun many => if many = 1 then (bits 3 >>= fun j => qx ((w + 2 ^ (j + 2) - 1) / 2 ^ (j + 2)) ((h + 2 ^ (j + 2) - 1) / 2 ^ (j + 2)) >>= fun l =>
        groups (zW k) (if many = 1 then (l.map yJ).foldl max 0 + 1 else 1) >>= fun gs =>
        elements w (w * h) k gs (fun x y => if many = 1 then yJ (l.getD (y / 2 ^ (j + 2) * ((w + 2 ^ (j + 2) - 1) / 2 ^ (j + 2)) + x / 2 ^ (j + 2)) black) else 0) (w * h + 1) [])
      else groups (zW k) (if many = 1 then (([] : List Px).map yJ).foldl max 0 + 1 else 1) >>= fun gs =>
        elements w (w * h) k gs (fun x y => if many = 1 then yJ (([] : List Px).getD (y / 2 ^ 0 * ((w + 2 ^ 0 - 1) / 2 ^ 0) + x / 2 ^ 0) black) else 0) (w * h + 1) []) =
      (bits 1 >>= fun a => if a = 1 then (bits 3 >>= fun j => qx (up w (2 ^ (j + 2))) (up h (2 ^ (j + 2))) >>= fun l => groups (zW k) ((l.map yJ).foldl max 0 + 1) >>= fun gs => zbf w h k gs (yx w (j + 2) l))
        else group (zW k) >>= fun g => zbf w h k [g] fun _ _ => 0) := by
    intro k
    congr 1
    funext many
    by_cases hm : many = 1
    . simp only [hm, if_true]
      rfl
    . simp only [hm, if_false, kU, zG, zl]
      rfl
  by_cases ht : t = 1
  . simp only [ht, if_true]
    congr 1
    funext k
    congr 1
    funext _
    exact key k
  . simp only [ht, if_false]
    exact key 0
end Lk
end
section
namespace Lk
open Sn15
def xF (l : List Px) : Bool := l.all fun p => decide (p.g < 14)
def xA (height : Nat) : Nat -> List Nat -> Nat -> D (List Trans × Nat)
  | 0, _, _ => bad
  | n + 1, had, width => do
    if (<- bits 1) = 0 then return ([], width)
    else do
      let t <- bits 2
      need (!had.contains t)
      if t = 0 then do
        let m <- yF width height
        need (xF m.2)
        let r <- xA height n (t :: had) width
        return (.predict m.1 m.2 :: r.1, r.2)
      else if t = 1 then do
        let m <- yF width height
        let r <- xA height n (t :: had) width
        return (.cross m.1 m.2 :: r.1, r.2)
      else if t = 2 then do
        let r <- xA height n (t :: had) width
        return (.green :: r.1, r.2)
      else do
        let k <- bits 8
        let l <- qx (k + 1) 1
        let r <- xA height n (t :: had) (up width (2 ^ packedBits (k + 1)))
        return (.table (sums ⟨0, 0, 0, 0⟩ l) :: r.1, r.2)
def chk (m : D (List Trans × Nat)) : D (List Trans × Nat) := do
  let t <- m
  need (t.1.all fits)
  return t
theorem zfK {β : Type} (a b : Bool) (f : Unit -> D β) : (need (a && b) >>= f) = (need a >>= fun _ => need b >>= f) := by
  cases a
  . simp only [Bool.false_and, yy]
  . simp only [Bool.true_and, yb]
theorem zdq {α β : Type} (a : Bool) (m : D α) (f : α -> D β) : (m >>= fun x => need a >>= fun _ => f x) = (need a >>= fun _ => m >>= f) := by
  cases a
  . simp only [yy, ki]
  . simp only [yb]
theorem jn (m : D (List Trans × Nat)) (t : Trans) : chk (m >>= fun r => pure (t :: r.1, r.2)) = (need (fits t) >>= fun _ => chk m >>= fun r => pure (t :: r.1, r.2)) := by
  unfold chk
  simp only [zG, zl, List.all_cons, zfK]
  rw [zdq (fits t) m fun x => need (x.1.all fits) >>= fun _ => pure (t :: x.1, x.2)]
theorem yN {α : Type} (m : D α) (f : α -> D (List Trans × Nat)) : chk (m >>= f) = (m >>= fun a => chk (f a)) := by
  unfold chk
  rw [zG]
theorem qS {α β : Type} (m : D α) {f g : α -> D β} (h : ∀ a bs bs', m bs = some (a, bs') -> f a = g a) : (m >>= f) = (m >>= g) := by
  apply zdy
  intro bs
  rw [zF, zF]
  cases hm : m bs with
  | none => rfl
  | some x => simp only [Option.bind_some]; rw [h x.1 bs x.2 hm]
theorem yA (height : Nat) : ∀ (n : Nat) (had : List Nat) (width : Nat), chk (transforms height n had width) = xA height n had width
  | 0, _, _ => by unfold chk transforms xA; rw [zcQ]
  | n + 1, had, width => by
    have e : transforms height (n + 1) had width = (bits 1 >>= fun u => if u = 0 then pure ([], width) else bits 2 >>= fun t => need (!had.contains t) >>= fun _ =>
        if t = 0 \/ t = 1 then bits 3 >>= fun k => coded 1 false (up width (2 ^ (k + 2))) (up height (2 ^ (k + 2))) >>= fun l => transforms height n (t :: had) width >>= fun r => pure ((if t = 0 then .predict (k + 2) l else .cross (k + 2) l) :: r.1, r.2)
        else if t = 2 then transforms height n (t :: had) width >>= fun r => pure (.green :: r.1, r.2)
        else bits 8 >>= fun k => coded 1 false (k + 1) 1 >>= fun l => transforms height n (t :: had) (up width (2 ^ packedBits (k + 1))) >>= fun r => pure (.table (sums ⟨0, 0, 0, 0⟩ l) :: r.1, r.2)) := by
      rfl
    rw [e, yN]
    show _ = (bits 1 >>= fun u => if u = 0 then _ else _)
    congr 1
    funext u
    by_cases hu : u = 0
    . rw [if_pos hu, if_pos hu]
      unfold chk
      rw [zl]
      show (need true >>= _) = _
      rw [yb]
    . rw [if_neg hu, if_neg hu, yN]
      apply qS
      intro t bs bs' ht
      have ht4 : t < 4 := ya ht
      rw [yN]
      congr 1
      funext _
      by_cases h0 : t = 0
      . rw [if_pos (.inl h0), if_pos h0]
        unfold yF
        simp only [yN, zG, zl, xj]
        congr 1
        funext k
        congr 1
        funext l
        rw [<- yN, jn, yA height n (t :: had) width]
        simp only [h0, if_true]
        rfl
      . by_cases h1 : t = 1
        . rw [if_pos (.inr h1), if_neg h0, if_pos h1]
          unfold yF
          simp only [yN, zG, zl, xj]
          congr 1
          funext k
          congr 1
          funext l
          rw [<- yN, jn, yA height n (t :: had) width]
          simp only [h0, if_false]
          show (need true >>= _) = _
          rw [yb]
        . rw [if_neg (by omega), if_neg h0, if_neg h1]
          by_cases h2 : t = 2
          . rw [if_pos h2, if_pos h2, jn, yA height n (t :: had) width]
            show (need true >>= _) = _
            rw [yb]
          . rw [if_neg h2, if_neg h2]
            simp only [yN, xj]
            congr 1
            funext k
            congr 1
            funext l
            rw [<- yN, jn, yA height n (t :: had)]
            show (need true >>= _) = _
            rw [yb]
def zch : D Nat := fun bs => some (bs.length, bs)
def zbj : D (Nat × Nat × Nat) := do
  let w <- bits 14
  let h <- bits 14
  let alpha <- bits 1
  let v <- bits 3
  need (v == 0)
  return (w + 1, h + 1, alpha)
def zgp (w h : Nat) : D (List Trans × List Px) := do
  let t <- xA h 5 [] w
  let l <- zcy t.2 h
  let n <- zch
  need (decide (n < 8))
  return (t.1, l)
def qk : D Picture := do
  let s <- zbj
  if MOSTELEMENTS < s.1 * s.2.1 then return ⟨s.1, s.2.1, []⟩ else do
    let b <- zgp s.1 s.2.1
    return ⟨s.1, s.2.1, if s.2.2 = 1 then undoAll s.1 s.2.1 b.1 b.2 else (undoAll s.1 s.2.1 b.1 b.2).map fun p => { p with a := 255 }⟩
theorem zcO : picture = qk := by
  unfold picture qk zbj
  simp only [zG, zl]
  congr 1
  funext w
  congr 1
  funext h
  congr 1
  funext alpha
  congr 1
  funext v
  congr 1
  funext _
  by_cases hm : MOSTELEMENTS < (w + 1) * (h + 1)
  . rw [if_pos hm, if_pos hm]
  . rw [if_neg hm, if_neg hm]
    unfold zgp
    simp only [<- yA, <- zcW]
    unfold chk
    simp only [zG, zl]
    rfl
end Lk
end
section
namespace Lk
open Sn15
theorem zbH {i a b c d : Nat} (hb : b < 2 ^ i) (hd : d < 2 ^ i) : (2 ^ i * a + b) &&& (2 ^ i * c + d) = 2 ^ i * (a &&& c) + (b &&& d) := by
  apply Nat.eq_of_testBit_eq
  intro j
  have hbd : b &&& d < 2 ^ i := Nat.and_lt_two_pow _ hd
  rw [Nat.testBit_and, Nat.testBit_two_pow_mul_add _ hb, Nat.testBit_two_pow_mul_add _ hd, Nat.testBit_two_pow_mul_add _ hbd]
  split <;> rw [Nat.testBit_and]
theorem zhs {i a b c d : Nat} (hb : b < 2 ^ i) (hd : d < 2 ^ i) : (2 ^ i * a + b) ||| (2 ^ i * c + d) = 2 ^ i * (a ||| c) + (b ||| d) := by
  apply Nat.eq_of_testBit_eq
  intro j
  have hbd : b ||| d < 2 ^ i := Nat.or_lt_two_pow hb hd
  rw [Nat.testBit_or, Nat.testBit_two_pow_mul_add _ hb, Nat.testBit_two_pow_mul_add _ hd, Nat.testBit_two_pow_mul_add _ hbd]
  split <;> rw [Nat.testBit_or]
theorem ze3 {i a b c d : Nat} (hb : b < 2 ^ i) (hd : d < 2 ^ i) : (2 ^ i * a + b) ^^^ (2 ^ i * c + d) = 2 ^ i * (a ^^^ c) + (b ^^^ d) := by
  apply Nat.eq_of_testBit_eq
  intro j
  have hbd : b ^^^ d < 2 ^ i := Nat.xor_lt_two_pow hb hd
  rw [Nat.testBit_xor, Nat.testBit_two_pow_mul_add _ hb, Nat.testBit_two_pow_mul_add _ hd, Nat.testBit_two_pow_mul_add _ hbd]
  split <;> rw [Nat.testBit_xor]
theorem vN : ∀ (x y : Nat), x + y = (x ^^^ y) + 2 * (x &&& y) := by
  intro x
  induction x using Nat.strongRecOn with
  | ind x ih =>
    intro y
    by_cases h0 : x = 0
    . subst h0; rw [Nat.zero_xor, Nat.zero_and]; omega
    . have e1 : x = 2 ^ 1 * (x / 2) + x % 2 := by omega
      have e2 : y = 2 ^ 1 * (y / 2) + y % 2 := by omega
      have hx : x % 2 < 2 ^ 1 := Nat.mod_lt _ (by decide)
      have hy : y % 2 < 2 ^ 1 := Nat.mod_lt _ (by decide)
      have i := ih (x / 2) (by omega) (y / 2)
      have bit : ∀ a < 2, ∀ b < 2, a + b = (a ^^^ b) + 2 * (a &&& b) := by decide
      have b := bit (x % 2) hx (y % 2) hy
      have q1 : x ^^^ y = 2 * (x / 2 ^^^ y / 2) + (x % 2 ^^^ y % 2) := by
        conv => lhs; rw [e1, e2]
        rw [ze3 hx hy]
      have q2 : x &&& y = 2 * (x / 2 &&& y / 2) + (x % 2 &&& y % 2) := by
        conv => lhs; rw [e1, e2]
        rw [zbH hx hy]
      rw [q1, q2]
      omega
def W4 (a r g b : Nat) : Nat := ((a * 256 + r) * 256 + g) * 256 + b
theorem vJ (p : Px) : p.word = W4 p.a p.r p.g p.b := rfl
theorem vF {a r g b a' r' g' b' : Nat} (hr : r < 256) (hg : g < 256) (hb : b < 256) (hr' : r' < 256) (hg' : g' < 256) (hb' : b' < 256) : W4 a r g b &&& W4 a' r' g' b' = W4 (a &&& a') (r &&& r') (g &&& g') (b &&& b') := by
  have f : ∀ x y u v : Nat, y < 256 -> v < 256 -> (x * 256 + y) &&& (u * 256 + v) = (x &&& u) * 256 + (y &&& v) := fun x y u v hy hv => by
    have := zbH (i := 8) (a := x) (b := y) (c := u) (d := v) hy hv
    rw [Nat.mul_comm x, Nat.mul_comm u, Nat.mul_comm (x &&& u)]
    exact this
  unfold W4
  rw [f _ _ _ _ hb hb', f _ _ _ _ hg hg', f _ _ _ _ hr hr']
theorem zj2 {a r g b a' r' g' b' : Nat} (hr : r < 256) (hg : g < 256) (hb : b < 256) (hr' : r' < 256) (hg' : g' < 256) (hb' : b' < 256) : W4 a r g b ||| W4 a' r' g' b' = W4 (a ||| a') (r ||| r') (g ||| g') (b ||| b') := by
  have f : ∀ x y u v : Nat, y < 256 -> v < 256 -> (x * 256 + y) ||| (u * 256 + v) = (x ||| u) * 256 + (y ||| v) := fun x y u v hy hv => by
    have := zhs (i := 8) (a := x) (b := y) (c := u) (d := v) hy hv
    rw [Nat.mul_comm x, Nat.mul_comm u, Nat.mul_comm (x ||| u)]
    exact this
  unfold W4
  rw [f _ _ _ _ hb hb', f _ _ _ _ hg hg', f _ _ _ _ hr hr']
theorem zjq {a r g b a' r' g' b' : Nat} (hr : r < 256) (hg : g < 256) (hb : b < 256) (hr' : r' < 256) (hg' : g' < 256) (hb' : b' < 256) : W4 a r g b ^^^ W4 a' r' g' b' = W4 (a ^^^ a') (r ^^^ r') (g ^^^ g') (b ^^^ b') := by
  have f : ∀ x y u v : Nat, y < 256 -> v < 256 -> (x * 256 + y) ^^^ (u * 256 + v) = (x ^^^ u) * 256 + (y ^^^ v) := fun x y u v hy hv => by
    have := ze3 (i := 8) (a := x) (b := y) (c := u) (d := v) hy hv
    rw [Nat.mul_comm x, Nat.mul_comm u, Nat.mul_comm (x ^^^ u)]
    exact this
  unfold W4
  rw [f _ _ _ _ hb hb', f _ _ _ _ hg hg', f _ _ _ _ hr hr']
theorem zbA (x : Nat) : x &&& 255 = x % 256 := Nat.and_two_pow_sub_one_eq_mod x 8
theorem ziZ (x : Nat) : x &&& 127 = x % 128 := Nat.and_two_pow_sub_one_eq_mod x 7
abbrev M1 : Nat := 4278255360
abbrev M2 : Nat := 16711935
abbrev M3 : Nat := 2139062143
theorem zkK : M1 = W4 255 0 255 0 := rfl
theorem zkt : M2 = W4 0 255 0 255 := rfl
theorem zkE : M3 = W4 127 127 127 127 := rfl
theorem zg7 {a r g b : Nat} (hr : r < 256) (hg : g < 256) (hb : b < 256) : W4 a r g b &&& M1 = W4 (a % 256) 0 g 0 := by
  rw [zkK, vF hr hg hb (by decide) (by decide) (by decide), zbA, zbA, Nat.and_zero, Nat.and_zero, Nat.mod_eq_of_lt hg]
theorem zhU {a r g b : Nat} (hr : r < 256) (hg : g < 256) (hb : b < 256) : W4 a r g b &&& M2 = W4 0 r 0 b := by
  rw [zkt, vF hr hg hb (by decide) (by decide) (by decide), zbA, zbA, Nat.and_zero, Nat.and_zero, Nat.mod_eq_of_lt hr, Nat.mod_eq_of_lt hb]
theorem zcl {p : Px} (h : yq p) : p.a < 256 /\ p.r < 256 /\ p.g < 256 /\ p.b < 256 := by obtain ⟨h1, h2, h3, h4⟩ := h; exact ⟨h1, h2, h3, h4⟩
theorem zcv {p q : Px} (hp : yq p) (hq : yq q) : (((p.word &&& M1) + (q.word &&& M1)) &&& M1) ||| (((p.word &&& M2) + (q.word &&& M2)) &&& M2) = (add p q).word := by
  obtain ⟨pa, pr, pg, pb⟩ := zcl hp
  obtain ⟨qa, qr, qg, qb⟩ := zcl hq
  rw [vJ p, vJ q, zg7 pr pg pb, zg7 qr qg qb, zhU pr pg pb, zhU qr qg qb]
  have e1 : W4 (p.a % 256) 0 p.g 0 + W4 (q.a % 256) 0 q.g 0 = W4 (p.a + q.a) ((p.g + q.g) / 256) ((p.g + q.g) % 256) 0 := by unfold W4; omega
  have e2 : W4 0 p.r 0 p.b + W4 0 q.r 0 q.b = W4 ((p.r + q.r) / 256) ((p.r + q.r) % 256) ((p.b + q.b) / 256) ((p.b + q.b) % 256) := by unfold W4; omega
  rw [e1, e2, zg7 (by omega) (by omega) (by omega), zhU (by omega) (by omega) (by omega), zj2 (by omega) (by omega) (by omega) (by omega) (by omega) (by omega)]
  simp only [Nat.or_zero, Nat.zero_or]
  rfl
theorem zix {a r g b : Nat} (hr : r < 256) (hg : g < 256) (hb : b < 256) (ha : a < 256) : W4 a r g b / 2 &&& M3 = W4 (a / 2) (r / 2) (g / 2) (b / 2) := by
  have e : W4 a r g b / 2 = W4 (a / 2) (a % 2 * 128 + r / 2) (r % 2 * 128 + g / 2) (g % 2 * 128 + b / 2) := by unfold W4; omega
  rw [e, zkE, vF (by omega) (by omega) (by omega) (by omega) (by omega) (by omega)]
  simp only [ziZ]
  congr 1 <;> omega
theorem zgo {p q : Px} (hp : yq p) (hq : yq q) : (p.word &&& q.word) + ((p.word ^^^ q.word) / 2 &&& M3) = (mean p q).word := by
  obtain ⟨pa, pr, pg, pb⟩ := zcl hp
  obtain ⟨qa, qr, qg, qb⟩ := zcl hq
  have lx : ∀ {x y : Nat}, x < 256 -> y < 256 -> x ^^^ y < 256 := fun hx hy => Nat.xor_lt_two_pow (n := 8) hx hy
  rw [vJ p, vJ q, vF pr pg pb qr qg qb, zjq pr pg pb qr qg qb, zix (lx pr qr) (lx pg qg) (lx pb qb) (lx pa qa)]
  show _ = W4 ((p.a + q.a) / 2) ((p.r + q.r) / 2) ((p.g + q.g) / 2) ((p.b + q.b) / 2)
  have ha := vN p.a q.a
  have hr := vN p.r q.r
  have hg := vN p.g q.g
  have hb := vN p.b q.b
  unfold W4
  omega
theorem zb6 (p q : Px) : yq (add p q) := ⟨Nat.mod_lt _ (by decide), Nat.mod_lt _ (by decide), Nat.mod_lt _ (by decide), Nat.mod_lt _ (by decide)⟩
theorem zf1 : yq black := ⟨by decide, by decide, by decide, by decide⟩
theorem zdc : yq ⟨0, 0, 0, 0⟩ := ⟨by decide, by decide, by decide, by decide⟩
theorem xk {p q : Px} (hp : yq p) (hq : yq q) : yq (mean p q) := by
  obtain ⟨pa, pr, pg, pb⟩ := zcl hp
  obtain ⟨qa, qr, qg, qb⟩ := zcl hq
  refine ⟨?_, ?_, ?_, ?_⟩ <;> (unfold mean each; dsimp only; omega)
theorem yZ (z : Int) : clamp z < 256 := by unfold clamp; split <;> (try split) <;> omega
theorem yX {c : Prop} [Decidable c] {p q : Px} (hp : yq p) (hq : yq q) : yq (if c then p else q) := by
  by_cases h : c
  . rw [if_pos h]; exact hp
  . rw [if_neg h]; exact hq
theorem zhR {m : Nat} {l t tr tl : Px} (hl : yq l) (ht : yq t) (hr : yq tr) (hq : yq tl) : yq (foretold m l t tr tl) :=
  yX zf1 (yX hl (yX ht (yX hr (yX hq (yX (xk (xk hl hr) ht) (yX (xk hl hq) (yX (xk hl ht) (yX (xk hq ht) (yX (xk ht hr)
    (yX (xk (xk hl hq) (xk ht hr)) (yX (yX hl ht) (yX ⟨yZ _, yZ _, yZ _, yZ _⟩ ⟨yZ _, yZ _, yZ _, yZ _⟩))))))))))))
end Lk
end
section
namespace Lk
open Sn15
def jj (k w : Nat) (ms done : List Px) : Px :=
  if done.length = 0 then black else if done.length / w = 0 then done.getD (done.length - 1) black else if done.length % w = 0 then done.getD (done.length - w) black
  else foretold (ms.getD (done.length / w / 2 ^ k * up w (2 ^ k) + done.length % w / 2 ^ k) black).g (done.getD (done.length - 1) black) (done.getD (done.length - w) black) (done.getD (done.length + 1 - w) black) (done.getD (done.length - w - 1) black)
section
variable (k w : Nat) (ms : List Px)
theorem y1 (done : List Px) (p : Px) (r : List Px) : unpredict k w ms done (p :: r) = unpredict k w ms (done ++ [add p (jj k w ms done)]) r := rfl
theorem x6 : ∀ (l done : List Px) (p : Px), unpredict k w ms done (l ++ [p]) = unpredict k w ms done l ++ [add p (jj k w ms (unpredict k w ms done l))]
  | [], done, p => rfl
  | q :: l, done, p => by rw [List.cons_append, y1, y1, x6 l]
theorem xn : ∀ (l done : List Px), (unpredict k w ms done l).length = done.length + l.length
  | [], done => rfl
  | q :: l, done => by rw [y1, xn l, List.length_append, List.length_singleton, List.length_cons]; omega
def unp (l : List Px) (i : Nat) : List Px := unpredict k w ms [] (l.take i)
theorem zfG (l : List Px) : unp k w ms l 0 = [] := rfl
theorem jv {l : List Px} {i : Nat} (h : i < l.length) : unp k w ms l (i + 1) = unp k w ms l i ++ [add l[i] (jj k w ms (unp k w ms l i))] := by
  unfold unp
  rw [List.take_succ_eq_append_getElem h, x6]
theorem qh {l : List Px} {i : Nat} (h : i <= l.length) : (unp k w ms l i).length = i := by
  unfold unp
  rw [xn, List.length_nil, List.length_take, Nat.min_eq_left h, Nat.zero_add]
theorem zhD (l : List Px) : unp k w ms l l.length = unpredict k w ms [] l := by unfold unp; rw [List.take_length]
theorem zgS (l : List Px) : ∀ (i : Nat), i <= l.length -> ∀ p ∈ unp k w ms l i, yq p
  | 0, _, p, hp => by rw [zfG] at hp; cases hp
  | i + 1, h, p, hp => by
    rw [jv k w ms h] at hp
    rcases List.mem_append.mp hp with z | z
    . exact zgS l i (by omega) p z
    . rw [List.mem_singleton.mp z]; exact zb6 _ _
variable {k w ms}
theorem zeB {d : List Px} (h : d.length = 0) : jj k w ms d = black := by unfold jj; rw [if_pos h]
theorem zhg {d : List Px} (h0 : 0 < d.length) (h : d.length < w) : jj k w ms d = d.getD (d.length - 1) black := by
  unfold jj; rw [if_neg (by omega), if_pos (Nat.div_eq_of_lt h)]
theorem zhj {d : List Px} {y : Nat} (hw : 0 < w) (hy : 0 < y) (h : d.length = y * w) : jj k w ms d = d.getD (d.length - w) black := by
  have h1 : w <= d.length := by rw [h]; exact Nat.le_mul_of_pos_left _ hy
  unfold jj
  rw [if_neg (by omega), if_neg (by rw [h, Nat.mul_div_cancel _ hw]; omega), if_pos (by rw [h, Nat.mul_mod_left])]
theorem zhG {d : List Px} {x y : Nat} (hx : 0 < x) (hxw : x < w) (hy : 0 < y) (h : d.length = y * w + x) :
    jj k w ms d = foretold (ms.getD (y / 2 ^ k * up w (2 ^ k) + x / 2 ^ k) black).g (d.getD (d.length - 1) black) (d.getD (d.length - w) black) (d.getD (d.length + 1 - w) black) (d.getD (d.length - w - 1) black) := by
  have e1 : d.length / w = y := by rw [h, Nat.add_comm, Nat.add_mul_div_right _ _ (by omega), Nat.div_eq_of_lt hxw, Nat.zero_add]
  have e2 : d.length % w = x := by rw [h, Nat.add_comm, Nat.add_mul_mod_self_right, Nat.mod_eq_of_lt hxw]
  unfold jj
  rw [if_neg (by omega), e1, e2, if_neg (by omega), if_neg (by omega)]
def aAt (k w : Nat) (ms l : List Px) (j : Nat) : Px := (unp k w ms l (j + 1)).getD j black
theorem xB {l : List Px} {j : Nat} : ∀ {n : Nat}, j < n -> n <= l.length -> (unp k w ms l n).getD j black = aAt k w ms l j
  | 0, h, _ => by omega
  | n + 1, h, hn => by
    by_cases e : j = n
    . subst e; rfl
    . rw [jv k w ms hn, List.getD_eq_getElem?_getD, List.getElem?_append_left (by rw [qh k w ms (by omega)]; omega), <- List.getD_eq_getElem?_getD]
      exact xB (by omega) (by omega)
theorem zk9 {l : List Px} {j n : Nat} (h : j < n) (hn : n <= l.length) : (unp k w ms l n)[j]? = some (aAt k w ms l j) := by
  have hl := qh k w ms hn
  have hj : j < (unp k w ms l n).length := by omega
  have e := xB (k := k) (w := w) (ms := ms) h hn
  rw [List.getD_eq_getElem?_getD, List.getElem?_eq_getElem hj] at e
  rw [List.getElem?_eq_getElem hj]
  exact congrArg some e
theorem kK {l : List Px} {n : Nat} (h : n < l.length) : aAt k w ms l n = add l[n] (jj k w ms (unp k w ms l n)) := by
  have hl := qh k w ms (Nat.le_of_lt h)
  unfold aAt
  rw [jv k w ms h, List.getD_eq_getElem?_getD, List.getElem?_append_right (by omega), hl, Nat.sub_self]
  rfl
theorem zj6 {l : List Px} {n : Nat} (h : n < l.length) : unp k w ms l (n + 1) = unp k w ms l n ++ [aAt k w ms l n] := by rw [jv k w ms h, kK h]
theorem zk5 {l : List Px} {n : Nat} (h : n < l.length) : yq (aAt k w ms l n) := by rw [kK h]; exact zb6 _ _
theorem zjj {l : List Px} (h : 0 < l.length) : aAt k w ms l 0 = add l[0] black := by rw [kK h, zeB (qh k w ms (Nat.zero_le _))]
theorem zkO {l : List Px} {n : Nat} (h : n < l.length) (h0 : 0 < n) (hw : n < w) : aAt k w ms l n = add l[n] (aAt k w ms l (n - 1)) := by
  have hl := qh k w ms (Nat.le_of_lt h)
  rw [kK h, zhg (by omega) (by omega), hl, xB (by omega) (by omega)]
theorem zkr {l : List Px} {y : Nat} (h : y * w < l.length) (hw : 0 < w) (hy : 0 < y) : aAt k w ms l (y * w) = add l[y * w] (aAt k w ms l (y * w - w)) := by
  have hl := qh k w ms (Nat.le_of_lt h)
  have h1 : w <= y * w := Nat.le_mul_of_pos_left _ hy
  rw [kK h, zhj hw hy hl, hl, xB (by omega) (by omega)]
theorem zku {l : List Px} {x y : Nat} (h : y * w + x < l.length) (hx : 0 < x) (hxw : x < w) (hy : 0 < y) : aAt k w ms l (y * w + x) =
    add l[y * w + x] (foretold (ms.getD (y / 2 ^ k * up w (2 ^ k) + x / 2 ^ k) black).g (aAt k w ms l (y * w + x - 1)) (aAt k w ms l (y * w + x - w)) (aAt k w ms l (y * w + x + 1 - w)) (aAt k w ms l (y * w + x - w - 1))) := by
  have hl := qh k w ms (Nat.le_of_lt h)
  have h1 : w <= y * w := Nat.le_mul_of_pos_left _ hy
  rw [kK h, zhG hx hxw hy hl, hl, xB (by omega) (by omega), xB (by omega) (by omega), xB (by omega) (by omega), xB (by omega) (by omega)]
end
def za9 (m p : Px) : Px := ⟨p.a, plus p.r (delta m.b p.g), p.g, plus p.b (delta m.g p.g + delta m.r (plus p.r (delta m.b p.g)))⟩
def jU (k w : Nat) (f : List Px) (i : Nat) (p : Px) : Px := za9 (f.getD (i / w / 2 ^ k * up w (2 ^ k) + i % w / 2 ^ k) black) p
theorem xR (k w : Nat) (f l : List Px) : uncross k w f l = l.zipIdx.map fun x => jU k w f x.2 x.1 := rfl
theorem za8 (k w : Nat) (f l : List Px) : (uncross k w f l).length = l.length := by rw [xR]; simp
theorem zal (k w : Nat) (f l : List Px) (p : Px) : uncross k w f (l ++ [p]) = uncross k w f l ++ [jU k w f l.length p] := by
  rw [xR, xR, List.zipIdx_append, List.map_append]
  simp
theorem zgL {k w : Nat} {f l : List Px} {i : Nat} (h : i < l.length) : uncross k w f (l.take (i + 1)) = uncross k w f (l.take i) ++ [jU k w f i l[i]] := by
  rw [List.take_succ_eq_append_getElem h, zal, List.length_take, Nat.min_eq_left (by omega)]
theorem ziJ {k w : Nat} {f : List Px} {x y : Nat} {p : Px} (hx : x < w) : jU k w f (y * w + x) p = za9 (f.getD (y / 2 ^ k * up w (2 ^ k) + x / 2 ^ k) black) p := by
  unfold jU
  rw [Nat.add_comm (y * w), Nat.add_mul_div_right _ _ (by omega), Nat.div_eq_of_lt hx, Nat.zero_add, Nat.add_mul_mod_self_right, Nat.mod_eq_of_lt hx]
theorem zc9 (n : Nat) (z : Int) : plus n z < 256 := by unfold plus; omega
theorem zcJ {m p : Px} (h : yq p) : yq (za9 m p) := ⟨h.a, zc9 _ _, h.g, zc9 _ _⟩
theorem zc0 {k w : Nat} {f l : List Px} (h : ∀ p ∈ l, yq p) : ∀ p ∈ uncross k w f l, yq p := by
  intro p hp
  rw [xR] at hp
  obtain ⟨x, hx, rfl⟩ := List.mem_map.mp hp
  exact zcJ (h _ (List.fst_mem_of_mem_zipIdx hx))
def zbp (p : Px) : Px := ⟨p.a, (p.r + p.g) % 256, p.g, (p.b + p.g) % 256⟩
theorem zcp {p : Px} (h : yq p) : yq (zbp p) := ⟨h.a, Nat.mod_lt _ (by decide), h.g, Nat.mod_lt _ (by decide)⟩
theorem zhn {p : Px} (h : yq p) : zbp p = add p ⟨0, p.g, 0, p.g⟩ := by
  obtain ⟨h1, h2, h3, h4⟩ := h
  unfold zbp add
  dsimp only
  rw [Nat.add_zero, Nat.add_zero, Nat.mod_eq_of_lt h1, Nat.mod_eq_of_lt h3]
def zgi (c : List Px) (k g x : Nat) : Px := c.getD (g / 2 ^ (8 / 2 ^ k * (x % 2 ^ k)) % 2 ^ (8 / 2 ^ k)) ⟨0, 0, 0, 0⟩
def zcn (w : Nat) (c l : List Px) (i : Nat) : Px := zgi c (packedBits c.length) (l.getD (i / w * up w (2 ^ packedBits c.length) + i % w / 2 ^ packedBits c.length) black).g (i % w)
theorem zbB (w h : Nat) (c l : List Px) : (Trans.table c).undo w h l = (List.range (w * h)).map (zcn w c l) := rfl
theorem zka (w y : Nat) (c l : List Px) : (List.range (w * (y + 1))).map (zcn w c l) = (List.range (w * y)).map (zcn w c l) ++ (List.range w).map fun x => zcn w c l (w * y + x) := by
  rw [Nat.mul_succ, List.range_add, List.map_append, List.map_map]
  rfl
theorem zj4 {w : Nat} {c l : List Px} {x y : Nat} (hx : x < w) : zcn w c l (w * y + x) = zgi c (packedBits c.length) (l.getD (y * up w (2 ^ packedBits c.length) + x / 2 ^ packedBits c.length) black).g x := by
  unfold zcn
  rw [Nat.add_comm (w * y), Nat.add_mul_div_left _ _ (by omega), Nat.div_eq_of_lt hx, Nat.zero_add, Nat.add_mul_mod_self_left, Nat.mod_eq_of_lt hx]
theorem zge {c : List Px} {k g x : Nat} (h : ∀ p ∈ c, yq p) : yq (zgi c k g x) := by
  unfold zgi
  rw [List.getD_eq_getElem?_getD]
  cases hq : c[g / 2 ^ (8 / 2 ^ k * (x % 2 ^ k)) % 2 ^ (8 / 2 ^ k)]? with
  | none => exact zdc
  | some p => exact h p (List.mem_of_getElem? hq)
def za1 (w : Nat) : Trans -> Nat
  | .table c => up w (2 ^ packedBits c.length)
  | _ => w
def kT (w : Nat) (ts : List Trans) : Nat := ts.foldl za1 w
theorem jX (w : Nat) (ts : List Trans) (t : Trans) : kT w (ts ++ [t]) = za1 (kT w ts) t := by unfold kT; rw [List.foldl_append]; rfl
theorem zaj (w h : Nat) (t : Trans) (r : List Trans) (l : List Px) : undoAll w h (t :: r) l = t.undo w h (undoAll (za1 w t) h r l) := by cases t <;> rfl
def yY (w h : Nat) (ts : List Trans) (l : List Px) (j : Nat) : List Px := undoAll (kT w (ts.take j)) h (ts.drop j) l
theorem zfx (w h : Nat) (ts : List Trans) (l : List Px) : yY w h ts l 0 = undoAll w h ts l := rfl
theorem zam (w h : Nat) (ts : List Trans) (l : List Px) : yY w h ts l ts.length = l := by unfold yY; rw [List.drop_length]; rfl
theorem wk {w h : Nat} {ts : List Trans} {l : List Px} {j : Nat} {t : Trans} (e : ts[j]? = some t) : yY w h ts l j = t.undo (kT w (ts.take j)) h (yY w h ts l (j + 1)) := by
  obtain ⟨hj, et⟩ := List.getElem?_eq_some_iff.mp e
  unfold yY
  rw [List.drop_eq_getElem_cons hj, et, zaj, List.take_succ_eq_append_getElem hj, et, jX]
def qR : Trans -> Prop
  | .table c => ∀ p ∈ c, yq p
  | _ => True
theorem zf2 {t : Trans} {w h : Nat} {l : List Px} (hl : l.length = za1 w t * h) : (t.undo w h l).length = w * h := by
  cases t with
  | predict k m => show (unpredict k w m [] l).length = _; rw [xn, List.length_nil, Nat.zero_add]; exact hl
  | cross k f => show (uncross k w f l).length = _; rw [za8]; exact hl
  | green => show (l.map _).length = _; rw [List.length_map]; exact hl
  | table c => rw [zbB, List.length_map, List.length_range]
theorem zho {t : Trans} {w h : Nat} {l : List Px} (ht : qR t) (hl : ∀ p ∈ l, yq p) : ∀ p ∈ t.undo w h l, yq p := by
  cases t with
  | predict k m =>
    show ∀ p ∈ unpredict k w m [] l, yq p
    rw [<- zhD]
    exact zgS k w m l _ (Nat.le_refl _)
  | cross k f => exact zc0 hl
  | green =>
    intro p hp
    obtain ⟨q, hq, rfl⟩ := List.mem_map.mp hp
    exact zcp (hl q hq)
  | table c =>
    intro p hp
    rw [zbB] at hp
    obtain ⟨q, hq, rfl⟩ := List.mem_map.mp hp
    exact zge ht
theorem vm {w h : Nat} {ts : List Trans} {l : List Px} (ht : ∀ t ∈ ts, qR t) (hl : l.length = kT w ts * h) (ho : ∀ p ∈ l, yq p) : ∀ (n j : Nat), j + n = ts.length -> (yY w h ts l j).length = kT w (ts.take j) * h /\ ∀ p ∈ yY w h ts l j, yq p
  | 0, j, e => by
    have e' : j = ts.length := e
    subst e'
    rw [zam, List.take_length]
    exact ⟨hl, ho⟩
  | n + 1, j, e => by
    have hj : j < ts.length := by omega
    obtain ⟨h1, h2⟩ := vm ht hl ho n (j + 1) (by omega)
    have e1 : ts[j]? = some ts[j] := List.getElem?_eq_getElem hj
    rw [wk e1]
    refine ⟨zf2 ?_, zho (ht _ (List.getElem_mem hj)) h2⟩
    rw [h1, List.take_succ_eq_append_getElem hj, jX]
theorem jp : ∀ (s : Px) (l : List Px), (sums s l).length = l.length
  | _, [] => rfl
  | s, p :: r => by show (sums _ r).length + 1 = _; rw [jp _ r]; rfl
theorem zeV : ∀ (s : Px) (l : List Px), ∀ p ∈ sums s l, yq p
  | _, [], p, hp => by cases hp
  | s, q :: r, p, hp => by
    rcases List.mem_cons.mp hp with e | e
    . rw [e]; exact zb6 _ _
    . exact zeV _ r p e
def wD (s : Px) (l : List Px) : Px := l.foldl add s
theorem wp : ∀ (s : Px) (l : List Px) (p : Px), sums s (l ++ [p]) = sums s l ++ [add (wD s l) p]
  | s, [], p => rfl
  | s, q :: r, p => by show add s q :: sums (add s q) (r ++ [p]) = _; rw [wp (add s q) r p]; rfl
theorem zck (s : Px) (l : List Px) (p : Px) : wD s (l ++ [p]) = add (wD s l) p := by unfold wD; rw [List.foldl_append]; rfl
theorem zbO : ∀ (l : List Px) (s : Px), yq s -> yq (wD s l)
  | [], _, h => h
  | q :: r, s, h => zbO r (add s q) (zb6 _ _)
def zbX (w h : Nat) : D (Nat × List Px) := yF w h >>= fun m => need (xF m.2) >>= fun _ => pure m
def zb2 : D (Nat × List Px) := bits 8 >>= fun q => qx (q + 1) 1 >>= fun l => pure (q + 1, sums ⟨0, 0, 0, 0⟩ l)
def zcz (kd w h : Nat) : D (Trans × Nat) := if kd = 0 then zbX w h >>= fun m => pure (.predict m.1 m.2, w) else if kd = 1 then yF w h >>= fun m => pure (.cross m.1 m.2, w) else if kd = 2 then pure (.green, w) else zb2 >>= fun z => pure (.table z.2, up w (2 ^ packedBits z.1))
def jJ (h n : Nat) (had : List Nat) (w : Nat) (acc : List Trans) : D (List Trans × Nat) := xA h n had w >>= fun r => pure (acc ++ r.1, r.2)
theorem zcP (h n : Nat) (had : List Nat) (w : Nat) : jJ h n had w [] = xA h n had w := by
  unfold jJ
  simp only [List.nil_append]
  exact zaM _
theorem zbo (h n : Nat) (had : List Nat) (w : Nat) (acc : List Trans) : jJ h (n + 1) had w acc = (bits 1 >>= fun u => if u = 1 then bits 2 >>= fun kd => need (!had.contains kd) >>= fun _ => zcz kd w h >>= fun t => jJ h n (kd :: had) t.2 (acc ++ [t.1]) else pure (acc, w)) := by
  unfold jJ
  show ((bits 1 >>= fun u => if u = 0 then pure ([], w) else _) >>= _) = _
  rw [zG]
  apply qS
  intro u bs bs' hu
  have hu2 : u < 2 := xU hu
  by_cases h0 : u = 0
  . rw [if_pos h0, if_neg (by omega), zl, List.append_nil]
  . rw [if_neg h0, if_pos (by omega), zG]
    congr 1
    funext kd
    rw [zG]
    congr 1
    funext _
    unfold zcz zbX zb2
    by_cases k0 : kd = 0
    . rw [if_pos k0, if_pos k0]; simp only [zG, zl, List.append_assoc, List.singleton_append]
    . rw [if_neg k0, if_neg k0]
      by_cases k1 : kd = 1
      . rw [if_pos k1, if_pos k1]; simp only [zG, zl, List.append_assoc, List.singleton_append]
      . rw [if_neg k1, if_neg k1]
        by_cases k2 : kd = 2
        . rw [if_pos k2, if_pos k2]; simp only [zG, zl, List.append_assoc, List.singleton_append]
        . rw [if_neg k2, if_neg k2]; simp only [zG, zl, List.append_assoc, List.singleton_append]
end Lk
end
section
namespace Lk
open Sn15
def yR (b : List Nat) : Prop := ¬ (b.length < 21 \/ b.take 4 ≠ [82, 73, 70, 70] \/ (b.drop 8).take 8 ≠ [87, 69, 66, 80, 86, 80, 56, 76] \/ four b 4 ≠ 12 + four b 16 + four b 16 % 2 \/
  b.length ≠ 20 + four b 16 + four b 16 % 2 \/ b.getD 20 0 ≠ 0x2F \/ (four b 16 % 2 = 1 /\ b.getD (20 + four b 16) 0 ≠ 0))
instance (b : List Nat) : Decidable (yR b) := by unfold yR; infer_instance
def yl (b : List Nat) : List Nat := (b.drop 21).take (four b 16 - 1)
theorem zcU (b : List Nat) : Sn15.read b = if yR b then (qk (bitsOf (yl b))).map (fun x => x.1) else none := by
  by_cases h : yR b
  . rw [if_pos h, <- zcO]
    unfold yR at h
    show (if _ then none else _) = _
    rw [if_neg h]
    rfl
  . rw [if_neg h]
    have h' := Classical.not_not.mp h
    show (if _ then none else _) = _
    rw [if_pos h']
abbrev zjv := (Nat × Nat × Nat) × (List Trans × List Px)
def vq : D zjv := do
  let s <- zbj
  if MOSTELEMENTS < s.1 * s.2.1 then return (s, ([], [])) else do
    let b <- zgp s.1 s.2.1
    return (s, b)
def zhp (c : zjv) : List Px := if c.1.2.2 = 1 then undoAll c.1.1 c.1.2.1 c.2.1 c.2.2 else (undoAll c.1.1 c.1.2.1 c.2.1 c.2.2).map fun p => { p with a := 255 }
def xH (c : zjv) : Picture := ⟨c.1.1, c.1.2.1, if MOSTELEMENTS < c.1.1 * c.1.2.1 then [] else zhp c⟩
theorem wr : qk = (vq >>= fun c => pure (xH c)) := by
  unfold qk vq
  rw [zG]
  congr 1
  funext s
  by_cases h : MOSTELEMENTS < s.1 * s.2.1
  . rw [if_pos h, if_pos h, zl]
    unfold xH
    rw [if_pos h]
  . rw [if_neg h, if_neg h, zG]
    congr 1
    funext b
    rw [zl]
    unfold xH
    rw [if_neg h]
    rfl
def yE (b : List Nat) : Option zjv := if yR b then (vq (bitsOf (yl b))).map (fun x => x.1) else none
theorem wB (b : List Nat) : Sn15.read b = (yE b).map xH := by
  rw [zcU]
  unfold yE
  by_cases h : yR b
  . rw [if_pos h, if_pos h, wr, zF]
    cases vq (bitsOf (yl b)) <;> rfl
  . rw [if_neg h, if_neg h]; rfl
def wd (b : List Nat) : List Int := match yE b with
  | none => [-3]
  | some c => if MOSTELEMENTS < c.1.1 * c.1.2.1 then [-4] else [0, (c.1.1 : Int), (c.1.2.1 : Int)]
theorem zfq (most : Int) (data : List Int) (hl : data.length <= 100000) : PySn15.look most data = wd (data.map Int.toNat) := by
  unfold PySn15.look Sn15Neutral.f Sn15Neutral.callOf
  simp only []
  unfold Sn15Answer.answered Sn15Neutral.nats
  simp only []
  rw [if_neg (by unfold MOST; omega), wB]
  unfold wd
  cases yE (data.map Int.toNat) with
  | none => rfl
  | some c =>
    simp only [Option.map_some]
    by_cases h : MOSTELEMENTS < c.1.1 * c.1.2.1
    . rw [if_pos h, if_pos (show MOSTELEMENTS < (xH c).width * (xH c).height from h)]; rfl
    . rw [if_neg h, if_neg (show ¬ MOSTELEMENTS < (xH c).width * (xH c).height from h)]; rfl
def ziX (l : List Px) : List Nat := l.flatMap fun x => [x.r, x.g, x.b, x.a]
def zeS (most : Int) (b : List Nat) : List Int := if most < 0 \/ 4194304 < most then [-2] else match yE b with
  | none => [-3]
  | some c => if MOSTELEMENTS < c.1.1 * c.1.2.1 then [-4] else if most < ((4 * (c.1.1 * c.1.2.1) : Nat) : Int) then [-1] else ((4 * (c.1.1 * c.1.2.1) : Nat) : Int) :: (ziX (zhp c)).map fun (n : Nat) => (n : Int)
theorem zj8 (most : Int) (data : List Int) (hl : data.length <= 100000) : PySn15.read most data = zeS most (data.map Int.toNat) := by
  unfold PySn15.read Sn15Neutral.f Sn15Neutral.callOf
  simp only []
  unfold Sn15Answer.answered Sn15Neutral.nats
  simp only []
  unfold zeS
  by_cases hm : most < 0 \/ 4194304 < most
  . rw [if_pos hm, if_pos (by unfold MOSTROOM; omega)]; rfl
  . rw [if_neg hm, if_neg (by unfold MOST MOSTROOM; omega), wB]
    cases yE (data.map Int.toNat) with
    | none => rfl
    | some c =>
      simp only [Option.map_some]
      by_cases h : MOSTELEMENTS < c.1.1 * c.1.2.1
      . rw [if_pos h, if_pos (show MOSTELEMENTS < (xH c).width * (xH c).height from h)]; rfl
      . rw [if_neg h, if_neg (show ¬ MOSTELEMENTS < (xH c).width * (xH c).height from h)]
        have e : (4 : Int) * (((xH c).width * (xH c).height : Nat) : Int) = ((4 * (c.1.1 * c.1.2.1) : Nat) : Int) := by
          show (4 : Int) * ((c.1.1 * c.1.2.1 : Nat) : Int) = _
          omega
        by_cases hr : most < ((4 * (c.1.1 * c.1.2.1) : Nat) : Int)
        . rw [if_pos hr, if_pos (by rw [e]; exact hr)]; rfl
        . rw [if_neg hr, if_neg (by rw [e]; exact hr)]
          show _ :: Sn15Neutral.ints ((xH c).elements.flatMap _) = _
          have e2 : (xH c).elements = zhp c := by unfold xH; dsimp only; rw [if_neg h]
          rw [e2]
          rfl
end Lk
end
section
namespace Lk
open Sn15
theorem qK {N x : Nat} (p : Nat -> Bool) (hp : ∀ s, p s = true ↔ s = x) (h : x < N) : (List.range N).filter p = [x] := by
  obtain ⟨k, rfl⟩ : ∃ k, N = x + (1 + k) := ⟨N - x - 1, by omega⟩
  rw [List.range_add, List.filter_append, List.range_add, List.map_append, List.filter_append]
  have e1 : (List.range x).filter p = [] := by
    rw [List.filter_eq_nil_iff]
    intro i hi q
    have := List.mem_range.mp hi
    have := (hp i).mp q
    omega
  have e2 : List.filter p (List.map (fun y => x + y) (List.range 1)) = [x] := by
    show List.filter p [x + 0] = [x]
    rw [List.filter_cons, if_pos ((hp (x + 0)).mpr rfl)]; rfl
  have e3 : List.filter p (List.map (fun y => x + y) (List.map (fun y => 1 + y) (List.range k))) = [] := by
    rw [List.filter_eq_nil_iff]
    intro i hi q
    obtain ⟨j, hj, rfl⟩ := List.mem_map.mp hi
    obtain ⟨m, _, rfl⟩ := List.mem_map.mp hj
    have := (hp _).mp q
    omega
  rw [e1, e2, e3]; rfl
theorem kL {N x y : Nat} (p : Nat -> Bool) (hp : ∀ s, p s = true ↔ (s = x \/ s = y)) (hxy : x < y) (h : y < N) : (List.range N).filter p = [x, y] := by
  obtain ⟨k, rfl⟩ : ∃ k, N = (x + 1) + k := ⟨N - x - 1, by omega⟩
  rw [List.range_add, List.filter_append]
  have e1 : (List.range (x + 1)).filter p = [x] := by
    have := qK (N := x + 1) (x := x) (fun s => p s && decide (s = x)) (fun s => by rw [Bool.and_eq_true, hp, decide_eq_true_iff]; omega) (by omega)
    rw [<- this]
    apply List.filter_congr
    intro i hi
    have := List.mem_range.mp hi
    by_cases e : i = x
    . simp [e]
    . have : p i = false := by
        cases q : p i with
        | false => rfl
        | true => have := (hp i).mp q; omega
      simp [this]
  have e2 : List.filter p (List.map (fun z => x + 1 + z) (List.range k)) = [y] := by
    rw [List.filter_map]
    have := qK (N := k) (x := y - x - 1) (p ∘ fun z => x + 1 + z) (fun s => by
      simp only [Function.comp]
      rw [hp]
      omega) (by omega)
    rw [this]
    simp; omega
  rw [e1, e2]; rfl
theorem xY (size a : Nat) : (jb size a).length = size := by unfold jb; simp
theorem qW (size a b : Nat) : (yU size a b).length = size := by unfold yU; simp
theorem zcB {size a s : Nat} (h : s < size) : (jb size a).getD s 0 = if s = a then 1 else 0 := by
  unfold jb
  rw [List.getD_eq_getElem?_getD, List.getElem?_map, List.getElem?_range h]; rfl
theorem kC {size a b s : Nat} (h : s < size) : (yU size a b).getD s 0 = if s = a \/ s = b then 1 else 0 := by
  unfold yU
  rw [List.getD_eq_getElem?_getD, List.getElem?_map, List.getElem?_range h]; rfl
theorem y0 {N : Nat} {p q : Nat -> Bool} (h : ∀ s, s < N -> p s = q s) : (List.range N).filter p = (List.range N).filter q :=
  List.filter_congr fun s hs => h s (List.mem_range.mp hs)
theorem j7 {size a : Nat} (h : a < size) : symbol (jb size a) = pure a := by
  apply yT
  rw [xY]
  rw [y0 (q := fun s => decide (s = a)) fun s hs => by rw [zcB hs]; by_cases e : s = a <;> simp [e]]
  exact qK _ (fun s => by simp) h
theorem zaI {size a b : Nat} (ha : a < size) (hb : b < size) (h : a ≠ b) : zK (yU size a b) 1 = [min a b, max a b] := by
  unfold zK
  rw [qW]
  rw [y0 (q := fun s => decide (s = a \/ s = b)) fun s hs => by rw [kC hs]; by_cases e : s = a \/ s = b <;> simp [e]]
  by_cases hab : a < b
  . rw [Nat.min_eq_left (Nat.le_of_lt hab), Nat.max_eq_right (Nat.le_of_lt hab)]
    exact kL _ (fun s => by simp) hab hb
  . have hba : b < a := by omega
    rw [Nat.min_eq_right (Nat.le_of_lt hba), Nat.max_eq_left (Nat.le_of_lt hba)]
    exact kL _ (fun s => by simp; omega) hba ha
theorem qp {size a b : Nat} (ha : a < size) (hb : b < size) (h : a ≠ b) : symbol (yU size a b) = (bits 1 >>= wo [[min a b, max a b]]) := by
  have e := zaI ha hb h
  rw [xx]
  . apply qS
    intro r bs bs' hr
    have hr2 : r < 2 := ya hr
    show wo (zK (yU size a b) 1 :: zJ _ 2 14) r = wo ([min a b, max a b] :: []) r
    rw [e]
    have : ∃ s, ([min a b, max a b] : List Nat)[r]? = some s := ⟨_, List.getElem?_eq_getElem (by simpa using hr2)⟩
    obtain ⟨s, hs⟩ := this
    unfold wo
    rw [hs]
  . intro s hs
    have q : ((List.range (yU size a b).length).filter fun s => (yU size a b).getD s 0 != 0).length = 2 := by
      have : ((List.range (yU size a b).length).filter fun s => (yU size a b).getD s 0 != 0) = zK (yU size a b) 1 := by
        unfold zK
        apply List.filter_congr
        intro i hi
        have hi := List.mem_range.mp hi
        rw [qW] at hi
        rw [kC hi]
        by_cases e : i = a \/ i = b <;> simp [e]
      rw [this, e]; rfl
    rw [hs] at q
    simp at q
theorem bind_some {α β : Type} {m : D α} {f : α -> D β} {bs bs' : List Bool} {b : β} (h : (m >>= f) bs = some (b, bs')) : ∃ a bs1, m bs = some (a, bs1) /\ f a bs1 = some (b, bs') := by
  rw [zF] at h
  cases hm : m bs with
  | none => rw [hm] at h; cases h
  | some x => rw [hm] at h; exact ⟨x.1, x.2, rfl, h⟩
theorem xD {c : Bool} {bs bs' : List Bool} {u : Unit} (h : need c bs = some (u, bs')) : c = true /\ bs' = bs := by
  rw [zgO] at h
  split at h
  . rename_i hc; cases h; exact ⟨hc, rfl⟩
  . cases h
theorem qd {c : Code} {size : Nat} : ∀ (n most last : Nat) (l r : List Nat) (bs bs' : List Bool), l.length <= size -> lengths c size n most last l bs = some (r, bs') -> r.length = size
  | 0, _, _, _, _, _, _, _, h => by cases h
  | n + 1, most, last, l, r, bs, bs', hl, h => by
    by_cases he : size <= l.length \/ most = 0
    . rw [xm c size n most last l he] at h
      cases h
      simp; omega
    . rw [xG c size n most last l (by omega) (by omega)] at h
      obtain ⟨s, bs1, _, h⟩ := bind_some h
      split at h
      . exact qd n _ _ _ r bs1 bs' (by simp; omega) h
      . obtain ⟨k, bs2, _, h⟩ := bind_some h
        obtain ⟨_, bs3, hn, h⟩ := bind_some h
        have hn := of_decide_eq_true (xD hn).1
        exact qd n _ _ _ r bs3 bs' (by rw [List.length_append, List.length_replicate]; exact hn) h
theorem ze4 {size : Nat} {c : Code} {bs bs' : List Bool} (h : wZ size bs = some (c, bs')) : c.length = size := by
  unfold wZ at h
  obtain ⟨t, bs1, _, h⟩ := bind_some h
  split at h
  . unfold kh at h
    obtain ⟨two, bs2, _, h⟩ := bind_some h
    obtain ⟨long, bs3, _, h⟩ := bind_some h
    obtain ⟨a, bs4, _, h⟩ := bind_some h
    obtain ⟨_, bs5, _, h⟩ := bind_some h
    split at h
    . obtain ⟨b, bs6, _, h⟩ := bind_some h
      obtain ⟨_, bs7, _, h⟩ := bind_some h
      cases h
      exact qW _ _ _
    . cases h
      exact xY _ _
  . obtain ⟨l, bs2, hl, h⟩ := bind_some h
    obtain ⟨_, bs3, _, h⟩ := bind_some h
    cases h
    unfold qu at hl
    obtain ⟨c', bs4, _, hl⟩ := bind_some hl
    obtain ⟨most, bs5, _, hl⟩ := bind_some hl
    exact qd _ _ _ _ _ _ _ (Nat.zero_le _) hl
theorem zeG : ∀ (ord l r : List Nat) (bs bs' : List Bool), (∀ n ∈ l, n <= 15) -> zbc ord l bs = some (r, bs') -> r.length = l.length /\ ∀ n ∈ r, n <= 15
  | [], l, r, bs, bs', hl, h => by cases h; exact ⟨rfl, hl⟩
  | s :: ord, l, r, bs, bs', hl, h => by
    obtain ⟨k, bs1, hk, h⟩ := bind_some (m := bits 3) (f := fun k => zbc ord (l.set s k)) h
    have hk8 : k < 8 := ya hk
    obtain ⟨h1, h2⟩ := zeG ord (l.set s k) r bs1 bs' (fun n hn => by
      rcases List.mem_or_eq_of_mem_set hn with q | q
      . exact hl n q
      . omega) h
    exact ⟨by rw [h1, List.length_set], h2⟩
end Lk
end
section
namespace L2
open PySem PySem.Spec PyProof.Rows
abbrev Key := Sum Int Str
def zj0 : Key -> Value -> Bool
  | .inl k, v => Value.isInt k v
  | .inr x, v => Value.isStrOf x v
def zlv (w : World) : Key -> Int
  | .inl k => hashInt k
  | .inr x => hashStr w x
theorem yi : ∀ {k : Key} {v : Value}, zj0 k v = true -> (∃ i t, k = Sum.inl i /\ v = Value.int i t) \/ (∃ x t, k = Sum.inr x /\ v = Value.str x t)
  | .inl i, v, h => by
    obtain ⟨t, e⟩ := Value.isInt_shape (k := i) (v := v) h
    exact .inl ⟨i, t, rfl, e⟩
  | .inr x, v, h => by
    obtain ⟨t, e⟩ := Value.isStrOf_shape (x := x) (v := v) h
    exact .inr ⟨x, t, rfl, e⟩
theorem zi6 (a b : Int) : decide ((Sum.inl a : Key) = Sum.inl b) = (a == b) := by
  by_cases e : a = b
  . subst e; simp
  . have h : ¬ (Sum.inl a : Key) = Sum.inl b := fun q => e (Sum.inl.inj q)
    rw [decide_eq_false h]
    exact (beq_eq_false_iff_ne.mpr e).symm
theorem zjz (a b : Str) : decide ((Sum.inr a : Key) = Sum.inr b) = decide (a = b) := by
  by_cases e : a = b
  . subst e; simp
  . have h : ¬ (Sum.inr a : Key) = Sum.inr b := fun q => e (Sum.inr.inj q)
    rw [decide_eq_false h, decide_eq_false e]
theorem zjs (a : Int) (b : Str) : decide ((Sum.inl a : Key) = Sum.inr b) = false := decide_eq_false (fun q => nomatch q)
theorem zjt (a : Str) (b : Int) : decide ((Sum.inr a : Key) = Sum.inl b) = false := decide_eq_false (fun q => nomatch q)
def zed (prog : Program) (w : World) : PySem.KeyKind prog w Key where
  is := zj0
  hash := zlv w
  inj := fun v a b ha hb => by
    rcases yi ha with ⟨i, t, rfl, rfl⟩ | ⟨x, t, rfl, rfl⟩
    . rcases yi hb with ⟨j, u, rfl, e⟩ | ⟨y, u, rfl, e⟩
      . injection e with e1 _; rw [e1]
      . exact nomatch e
    . rcases yi hb with ⟨j, u, rfl, e⟩ | ⟨y, u, rfl, e⟩
      . exact nomatch e
      . injection e with e1 _; rw [e1]
  byValue := fun k v h => by
    rcases yi h with ⟨i, t, rfl, rfl⟩ | ⟨x, t, rfl, rfl⟩ <;> rfl
  pyHash := fun hv h => by
    rcases yi hv with ⟨i, t, rfl, rfl⟩ | ⟨x, t, rfl, rfl⟩
    . exact wpAny_pyHash_int h
    . exact wpAny_pyHash_str h
  eqBool := fun hu hv h => by
    rcases yi hu with ⟨i, t, rfl, rfl⟩ | ⟨x, t, rfl, rfl⟩
    . rcases yi hv with ⟨j, u, rfl, rfl⟩ | ⟨y, u, rfl, rfl⟩
      . rw [zi6] at h; exact wpAny_eqBool_int h
      . rw [zjs] at h; exact SeqAt.EqAt.int_str i t y u _ _ _ _ h
    . rcases yi hv with ⟨j, u, rfl, rfl⟩ | ⟨y, u, rfl, rfl⟩
      . rw [zjt] at h; exact SeqAt.EqAt.str_int x t j u _ _ _ _ h
      . rw [zjz] at h; exact wpAny_eqBool_str h
  «strs» := fun k x t v h => by
    rcases yi h with ⟨i, u, rfl, e⟩ | ⟨y, u, rfl, e⟩
    . exact nomatch e
    . injection e with e1 _
      subst e1
      cases v <;> rfl
end L2
namespace L2
open PySem PySem.Spec PyProof.Rows
inductive V where
  | non | bl (b : Bool) | int (i : Int) | str (x : Str) | byt (b : Array UInt8) | flt (b : UInt64) | ref (a : Addr) | ty (n : String)
  deriving DecidableEq
def yc : V -> Value -> Prop
  | .non, u => u = Value.none
  | .bl b, u => u = Value.bool b
  | .int i, u => ∃ t, u = Value.int i t
  | .str x, u => ∃ t, u = Value.str x t
  | .byt b, u => ∃ t, u = Value.bytes b t
  | .flt b, u => ∃ t, u = Value.float b t
  | .ref a, u => u = Value.ref a
  | .ty n, u => u = Value.type n
abbrev z7 : List V -> List Value -> Prop := Paired yc
theorem z7.length {xs : List V} {us : List Value} (r : z7 xs us) : xs.length = us.length := Paired.length r
theorem z7.get : ∀ {xs : List V} {us : List Value} {i : Nat} {x : V}, z7 xs us -> xs[i]? = some x -> ∃ u, us[i]? = some u /\ yc x u
  | _, _, _, _, .nil, e => by simp at e
  | _, _, 0, _, .cons r _, e => by simp at e; subst e; exact ⟨_, rfl, r⟩
  | _, _, i + 1, x, .cons _ t, e => by
    obtain ⟨u, h1, h2⟩ := z7.get (i := i) (x := x) t (by simpa using e)
    exact ⟨u, by simpa using h1, h2⟩
theorem z7.set {x : V} {u : Value} (r : yc x u) : ∀ {xs : List V} {us : List Value} (i : Nat), z7 xs us -> z7 (xs.set i x) (us.set i u)
  | _, _, _, .nil => .nil
  | _, _, 0, .cons _ t => .cons r t
  | _, _, i + 1, .cons q t => .cons q (z7.set r i t)
theorem z7.append : ∀ {xs ys : List V} {us ws : List Value}, z7 xs us -> z7 ys ws -> z7 (xs ++ ys) (us ++ ws)
  | _, _, _, _, .nil, s => s
  | _, _, _, _, .cons r t, s => .cons r (z7.append t s)
theorem z7.take : ∀ {xs : List V} {us : List Value} (n : Nat), z7 xs us -> z7 (xs.take n) (us.take n)
  | _, _, 0, _ => .nil
  | _, _, _ + 1, .nil => .nil
  | _, _, n + 1, .cons r t => .cons r (z7.take n t)
theorem z7.drop : ∀ {xs : List V} {us : List Value} (n : Nat), z7 xs us -> z7 (xs.drop n) (us.drop n)
  | _, _, 0, r => r
  | _, _, _ + 1, .nil => .nil
  | _, _, n + 1, .cons _ t => z7.drop n t
theorem z7.none_of : ∀ {xs : List V} {us : List Value} {i : Nat}, z7 xs us -> xs[i]? = none -> us[i]? = none := fun {xs us i} r e => by
  have h1 := r.length
  have h2 : xs.length <= i := List.getElem?_eq_none_iff.mp e
  exact List.getElem?_eq_none_iff.mpr (by omega)
def zat : Option V -> Option Value -> Prop
  | some v, some u => yc v u
  | none, none => True
  | _, _ => False
def KV {κ : Type} : List (κ × V) -> List (κ × Value) -> Prop := Paired fun (p : κ × V) (q : κ × Value) => p.1 = q.1 /\ yc p.2 q.2
def kV : Key -> V
  | .inl i => .int i
  | .inr x => .str x
inductive HO where
  | lst (xs : List V)
  | tup (xs : List V)
  | dK (kvs : List (Key × V)) | dT (kvs : List (List Key × V))
  | set (S : Int -> Bool) (n : Nat)
  | ins (C dx : Addr) (fs : List (Str × V))
  | own (x : Addr)
  | xd (fs : List (Str × V))
  | met (f x : Addr)
  | rng (lo hi : Int)
  | frz (o : Obj) (u : HO)
  | tbl (ps : Array Value)
  | ext (φ : Heap -> Prop)
abbrev Hp := Addr -> Option HO
def upd (H : Hp) (a : Addr) (o : HO) : Hp := fun b => if b = a then some o else H b
theorem zb {H : Hp} {a : Addr} {o : HO} : upd H a o a = some o := by unfold upd; rw [if_pos rfl]
theorem zh {H : Hp} {a b : Addr} {o : HO} (h : b ≠ a) : upd H a o b = H b := by unfold upd; rw [if_neg h]
theorem yO {H : Hp} {a b : Addr} {o u : HO} (h : H a = some o) (h' : H b = some u) (d : o ≠ u) : a ≠ b := by
  intro e; subst e; rw [h] at h'; exact d (Option.some.inj h')
theorem zc {H : Hp} {a b : Addr} {o : HO} (h : H a = some o) (h' : H b = none) : a ≠ b := by
  intro e; subst e; rw [h] at h'; cases h'
section
variable (P : Program) (w : World)
def xz (H : Hp) (h : Heap) (a : Addr) : HO -> Prop
  | .lst xs => xs.length <= sizeLine /\ ∃ (its : List Value) (n : Nat), z7 xs its /\ h.get? a = some { cls := .type "list", data := .seq its.toArray n }
  | .tup xs => xs.length <= sizeLine /\ ∃ its : List Value, z7 xs its /\ IsTup h a its.toArray
  | .dK kvs => kvs.length <= sizeLine /\ (a == sysModules) = false /\ ∃ vs, KV kvs vs /\ h.DictOf (zed P w) a vs
  | .dT kvs => kvs.length <= sizeLine /\ (a == sysModules) = false /\ ∃ xs : List (List Key × Addr × Value),
      Paired (fun (p : List Key × V) (q : List Key × Addr × Value) => p.1 = q.1 /\ H q.2.1 = some (.tup (p.1.map kV)) /\ yc p.2 q.2.2) kvs xs /\
      ∃ o es ep, h.get? a = some o /\ o.ExactDict /\ o.data = .dict es ep /\ es.toList = xs.map (entryOfKey (tupleKind (zed P w))) /\ (xs.map (·.1)).Nodup
  | .set S n => h.SetOf (intKind P w) a S n
  | .ins C dx fs => H dx = some (.own a) /\ fs.length <= 1000 /\ dx ≠ a /\ h.get? a = some (PySem.W.instObj C dx) /\
      ∃ mA, h.Ns1 dx mA /\ (∀ f, zat (fs.lookup f) (mA f)) /\ PySem.Within mA (fs.map (·.1))
  | .own _ => ∃ o, h.get? a = some o
  | .xd fs => ∃ mA, h.Ns1 a mA /\ ∀ f, zat (fs.lookup f) (mA f)
  | .rng lo hi => ∃ t u v, h.get? a = some { cls := .type "range", data := .fields #[.int lo t, .int hi u, .int 1 v] }
  | .frz o u => h.get? a = some o /\ xz H h a u
  | .tbl ps => h.get? a = some { cls := .none, data := .fields ps }
  | .met f x => h.get? a = some (PySem.W.methodObj (.ref f) (.ref x))
  | .ext φ => φ h /\ (∃ o, h.get? a = some o) /\ ∀ h1 h2 : Heap, φ h1 -> (∀ o, h1.get? a = some o -> h2.get? a = some o) -> φ h2
def HOk (H : Hp) (h : Heap) : Prop := ∀ a o, H a = some o -> xz P w H h a o
end
section
variable {P : Program} {w : World} {H H' : Hp} {h h' : Heap} {a : Addr} {o : HO}
theorem xz.lt (x : xz P w H h a o) : a < h.objs.size := by
  cases o with
  | lst xs => obtain ⟨_, _, _, _, e⟩ := x; exact Heap.lt_size e
  | tup xs => obtain ⟨_, _, _, p⟩ := x; exact p.lt
  | dK kvs => obtain ⟨_, _, _, _, o, _, _, e, _⟩ := x; exact Heap.lt_size e
  | dT kvs => obtain ⟨_, _, _, _, o, _, _, e, _⟩ := x; exact Heap.lt_size e
  | set S n => obtain ⟨o, _, _, _, e, _⟩ := x; exact Heap.lt_size e
  | ins C dx fs => obtain ⟨_, _, _, e, _⟩ := x; exact Heap.lt_size e
  | own y => obtain ⟨_, e⟩ := x; exact Heap.lt_size e
  | xd fs => obtain ⟨_, ⟨_, _, _, e, _⟩, _⟩ := x; exact Heap.lt_size e
  | rng lo hi => obtain ⟨_, _, _, e⟩ := x; exact Heap.lt_size e
  | frz ob u => obtain ⟨e, _⟩ := x; exact Heap.lt_size e
  | tbl ps => exact Heap.lt_size (show h.get? a = some _ from x)
  | met f y => exact Heap.lt_size (show h.get? a = some _ from x)
  | ext φ => obtain ⟨_, ⟨_, e⟩, _⟩ := x; exact Heap.lt_size e
theorem Paired.mapP {α β : Type} {F G : α -> β -> Prop} : ∀ {l₁ : List α} {l₂ : List β}, Paired F l₁ l₂ -> (∀ a b, F a b -> G a b) -> Paired G l₁ l₂
  | _, _, .nil, _ => .nil
  | _, _, .cons r t, f => .cons (f _ _ r) (Paired.mapP t f)
theorem xz.stay (x : xz P w H h a o) (k : ∀ b u, (b = a \/ H b = some (.own a)) -> h.get? b = some u -> h'.get? b = some u)
    (ho : ∀ b, H b = some (.own a) -> H' b = some (.own a)) (ht : ∀ b xs, H b = some (.tup xs) -> H' b = some (.tup xs)) : xz P w H' h' a o := by
  induction o with
  | lst xs => obtain ⟨z, its, n, r, e⟩ := x; exact ⟨z, its, n, r, k _ _ (.inl rfl) e⟩
  | tup xs => obtain ⟨z, its, r, ob, e, c⟩ := x; exact ⟨z, its, r, ob, k _ _ (.inl rfl) e, c⟩
  | dK kvs => obtain ⟨z, y, vs, r, ob, es, ep, e, c⟩ := x; exact ⟨z, y, vs, r, ob, es, ep, k _ _ (.inl rfl) e, c⟩
  | dT kvs =>
    obtain ⟨z, y, xs, r, ob, es, ep, e, c⟩ := x
    exact ⟨z, y, xs, Paired.mapP r fun p q z => ⟨z.1, ht _ _ z.2.1, z.2.2⟩, ob, es, ep, k _ _ (.inl rfl) e, c⟩
  | set S n => obtain ⟨ob, es, ep, t, e, c⟩ := x; exact ⟨ob, es, ep, t, k _ _ (.inl rfl) e, c⟩
  | ins C dx fs =>
    obtain ⟨d, z, ne, e, mA, ⟨od, es, ep, e2, c⟩, r⟩ := x
    exact ⟨ho _ d, z, ne, k _ _ (.inl rfl) e, mA, ⟨od, es, ep, k _ _ (.inr d) e2, c⟩, r⟩
  | own y => obtain ⟨ob, e⟩ := x; exact ⟨ob, k _ _ (.inl rfl) e⟩
  | xd fs => obtain ⟨mA, ⟨od, es, ep, e, c⟩, r⟩ := x; exact ⟨mA, ⟨od, es, ep, k _ _ (.inl rfl) e, c⟩, r⟩
  | rng lo hi => obtain ⟨t, u, v, e⟩ := x; exact ⟨t, u, v, k _ _ (.inl rfl) e⟩
  | frz ob u ih => obtain ⟨e, q⟩ := x; exact ⟨k _ _ (.inl rfl) e, ih q⟩
  | tbl ps =>
    have e : h.get? a = some { cls := .none, data := .fields ps } := x
    show h'.get? a = some { cls := .none, data := .fields ps }
    exact k a _ (.inl rfl) e
  | met f y =>
    have e : h.get? a = some (PySem.W.methodObj (.ref f) (.ref y)) := x
    show h'.get? a = some (PySem.W.methodObj (.ref f) (.ref y))
    exact k a _ (.inl rfl) e
  | ext φ => obtain ⟨p, ⟨o, e⟩, st⟩ := x; exact ⟨st _ _ p fun o q => k _ _ (.inl rfl) q, ⟨o, k _ _ (.inl rfl) e⟩, st⟩
theorem HOk.lt (x : HOk P w H h) (e : H a = some o) : a < h.objs.size := (x a o e).lt
theorem HOk.fresh (x : HOk P w H h) (e : h.objs.size <= a) : H a = none := by
  cases q : H a with
  | none => rfl
  | some u => exact absurd (Nat.lt_of_lt_of_le (x.lt q) e) (Nat.lt_irrefl _)
theorem HOk.kept (x : HOk P w H h) (k : ∀ b u, h.get? b = some u -> h'.get? b = some u) : HOk P w H h' := fun a o e =>
  (x a o e).stay (fun b u _ q => k b u q) (fun _ q => q) fun _ _ q => q
theorem HOk.laid (x : HOk P w H h) (k : ∀ b u, h.get? b = some u -> h'.get? b = some u) (hp : h.objs.size <= a) (new : xz P w (upd H a o) h' a o) : HOk P w (upd H a o) h' := fun b u e => by
  have hn := x.fresh hp
  by_cases hb : b = a
  . subst hb; rw [zb] at e; cases e; exact new
  . rw [zh hb] at e
    exact (x b u e).stay (fun c v _ q => k c v q) (fun c q => by rw [zh (zc q hn)]; exact q) fun c xs q => by rw [zh (zc q hn)]; exact q
end
def Rd (H : Hp) (a : Addr) (u : HO) : Prop := H a = some u \/ ∃ o, H a = some (.frz o u)
theorem Rd.of {H : Hp} {a : Addr} {u : HO} (h : H a = some u) : Rd H a u := .inl h
theorem Rd.ok {P : Program} {w : World} {H : Hp} {h : Heap} {a : Addr} {u : HO} (r : Rd H a u) (x : HOk P w H h) : xz P w H h a u := by
  rcases r with r | ⟨o, r⟩
  . exact x a u r
  . obtain ⟨_, q⟩ := x a _ r
    exact q
def Mut : Option HO -> Prop
  | some (.lst _) => True
  | some (.dK _) => True
  | some (.dT _) => True
  | some (.set _ _) => True
  | some (.ins _ _ _) => True
  | some (.ext _) => True
  | _ => False
section
variable {P : Program} {w : World} {H : Hp} {h h' : Heap} {x e : Addr} {o' : HO}
theorem HOk.write (ok : HOk P w H h) (mu : Mut (H x)) (he : e = x \/ H e = some (.own x)) (k : ∀ b u, b ≠ e -> h.get? b = some u -> h'.get? b = some u) (heo : ∃ u, h'.get? e = some u)
    (new : xz P w (upd H x o') h' x o') : HOk P w (upd H x o') h' := fun b u q => by
  have nown : ∀ c y, H c = some (.own y) -> c ≠ x := fun c y r z => by subst z; rw [r] at mu; exact mu
  have ntup : ∀ c xs, H c = some (.tup xs) -> c ≠ x := fun c xs r z => by subst z; rw [r] at mu; exact mu
  by_cases hb : b = x
  . subst hb; rw [zb] at q; cases q; exact new
  . rw [zh hb] at q
    by_cases hbe : b = e
    . have q' : H b = some (.own x) := by
        rcases he with z | z
        . exact absurd (hbe.trans z) hb
        . rw [hbe]; exact z
      rw [q] at q'; cases q'
      obtain ⟨v, hv⟩ := heo
      exact ⟨v, by rw [hbe]; exact hv⟩
    . refine (ok b u q).stay (fun c v hc r => k c v ?_ r) (fun c r => by rw [zh (nown c b r)]; exact r) fun c xs r => by rw [zh (ntup c xs r)]; exact r
      rcases hc with rfl | hc
      . exact hbe
      . rintro rfl
        rcases he with z | z
        . exact nown c b hc z
        . rw [hc] at z; cases z; exact hb rfl
end
structure Un (fs ex : List Addr) (H H' : Hp) (h h' : Heap) : Prop where
  keep : ∀ b o, h.get? b = some o -> H b = none -> b ∉ fs -> b ∉ ex -> h'.get? b = some o
  slot : ∀ b o, h.get? b = some o -> H b = none -> b ∈ fs -> b ∉ ex -> ∃ sl, h'.get? b = some { o with slots := sl }
  free : ∀ b o, h.get? b = some o -> H b = none -> b ∉ ex -> H' b = none
  there : ∀ b o, h.get? b = some o -> b ∉ ex -> ∃ o', h'.get? b = some o'
  tups : ∀ b xs, H b = some (.tup xs) -> H' b = some (.tup xs)
  frzs : ∀ b o u, H b = some (.frz o u) -> H' b = some (.frz o u)
  tbls : ∀ b ps, H b = some (.tbl ps) -> ∃ more, H' b = some (.tbl (ps ++ more))
section
variable {fs fs' ex ex' : List Addr} {H H1 H2 : Hp} {h h1 h2 h' : Heap} {a x e : Addr} {o : HO}
theorem Un.any (u : Un fs ex H H1 h h1) {b : Addr} {ob : Obj} (q : h.get? b = some ob) (n : H b = none) (hx : b ∉ ex) : ∃ sl, h1.get? b = some { ob with slots := sl } := by
  by_cases hb : b ∈ fs
  . exact u.slot b ob q n hb hx
  . exact ⟨ob.slots, u.keep b ob q n hb hx⟩
theorem Un.trans (a : Un fs ex H H1 h h1) (b : Un fs ex H1 H2 h1 h2) : Un fs ex H H2 h h2 where
  keep := fun c ob q n hc hx => b.keep c ob (a.keep c ob q n hc hx) (a.free c ob q n hx) hc hx
  slot := fun c ob q n hc hx => by
    obtain ⟨sl, e1⟩ := a.slot c ob q n hc hx
    obtain ⟨sl', e2⟩ := b.slot c _ e1 (a.free c ob q n hx) hc hx
    exact ⟨sl', e2⟩
  free := fun c ob q n hx => by
    obtain ⟨o', e1⟩ := a.there c ob q hx
    exact b.free c o' e1 (a.free c ob q n hx) hx
  there := fun c ob q hx => by
    obtain ⟨o', e1⟩ := a.there c ob q hx
    exact b.there c o' e1 hx
  tups := fun c xs q => b.tups c xs (a.tups c xs q)
  frzs := fun c ob xs q => b.frzs c ob xs (a.frzs c ob xs q)
  tbls := fun c ps q => by
    obtain ⟨m1, e1⟩ := a.tbls c ps q
    obtain ⟨m2, e2⟩ := b.tbls c _ e1
    exact ⟨m1 ++ m2, by rw [e2, Array.append_assoc]⟩
theorem Un.kept (k : ∀ b u, h.get? b = some u -> h'.get? b = some u) : Un fs ex H H h h' :=
  ⟨fun b ob q _ _ _ => k b ob q, fun b ob q _ _ _ => ⟨ob.slots, k b ob q⟩, fun _ _ _ n _ => n, fun b ob q _ => ⟨ob, k b ob q⟩, fun _ _ q => q, fun _ _ _ q => q, fun _ ps q => ⟨#[], by rw [q]; simp⟩⟩
theorem Un.refl : Un fs ex H H h h := Un.kept fun _ _ q => q
theorem Un.laid (k : ∀ b u, h.get? b = some u -> h'.get? b = some u) (hp : h.objs.size <= a) (hn : H a = none) : Un fs ex H (upd H a o) h h' where
  keep := fun b u q _ _ _ => k b u q
  slot := fun b u q _ _ _ => ⟨u.slots, k b u q⟩
  free := fun b u q n _ => by rw [zh (Nat.ne_of_lt (Nat.lt_of_lt_of_le (Heap.lt_size q) hp))]; exact n
  there := fun b u q _ => ⟨u, k b u q⟩
  tups := fun b xs q => by rw [zh (zc q hn)]; exact q
  frzs := fun b u xs q => by rw [zh (zc q hn)]; exact q
  tbls := fun b ps q => ⟨#[], by rw [zh (zc q hn), q]; simp⟩
theorem Un.write (mu : Mut (H x)) (he : e = x \/ H e = some (.own x)) (k : ∀ b u, b ≠ e -> h.get? b = some u -> h'.get? b = some u) (heo : ∃ u, h'.get? e = some u) : Un fs ex H (upd H x o) h h' := by
  have hx : ∀ b, H b = none -> b ≠ x := fun b n z => by subst z; rw [n] at mu; exact mu
  have hb : ∀ b, H b = none -> b ≠ e := fun b n z => by
    subst z
    rcases he with r | r
    . exact hx b n r
    . rw [n] at r; cases r
  have hm : ∀ b u, H b = some u -> ¬ Mut (some u) -> b ≠ x := fun b u q nm z => by subst z; rw [q] at mu; exact nm mu
  refine ⟨fun b u q n _ _ => k b u (hb b n) q, fun b u q n _ _ => ⟨u.slots, k b u (hb b n) q⟩, fun b u q n _ => by rw [zh (hx b n)]; exact n, fun b u q _ => ?_,
    fun b xs q => by rw [zh (hm b _ q fun z => z)]; exact q, fun b u xs q => by rw [zh (hm b _ q fun z => z)]; exact q, fun b ps q => ⟨#[], by rw [zh (hm b _ q fun z => z), q]; simp⟩⟩
  by_cases hbe : b = e
  . subst hbe; exact heo
  . exact ⟨u, k b u hbe q⟩
theorem Un.mono (u : Un fs ex H H1 h h1) (hs : ∀ b ∈ fs, b ∈ fs') (hx : ∀ b ∈ ex, b ∈ ex') : Un fs' ex' H H1 h h1 :=
  ⟨fun b ob q n hb he => u.keep b ob q n (fun z => hb (hs b z)) fun z => he (hx b z), fun _ _ q n _ he => u.any q n fun z => he (hx _ z), fun b ob q n he => u.free b ob q n fun z => he (hx b z), fun b ob q he => u.there b ob q fun z => he (hx b z), u.tups, u.frzs, u.tbls⟩
end
def trk (h : Heap) (H : Hp) : List Addr := (List.range h.objs.size).filter fun a => (H a).isSome
def zfN (h : Heap) (H : Hp) : Heap := PySem.W.hideAll h (trk h H)
theorem zej (h : Heap) (H : Hp) : (zfN h H).objs.size = h.objs.size := PySem.W.hideAll_size _ _
theorem zgA {h : Heap} {H : Hp} {b : Addr} {o : Obj} (e : h.get? b = some o) (n : H b = none) : (zfN h H).get? b = some o :=
  PySem.W.hideAll_get _ e fun hm => by
    have q : (H b).isSome = true := (List.mem_filter.mp hm).2
    rw [n] at q; simp at q
theorem zh9 {h : Heap} {H : Hp} {b : Addr} {o : Obj} (e : (zfN h H).get? b = some o) : h.get? b = some o /\ H b = none := by
  have e' : h.get? b = some o := PySem.W.of_hideAll (trk h H) e
  refine ⟨e', ?_⟩
  cases q : H b with
  | none => rfl
  | some x =>
    have hm : b ∈ trk h H := List.mem_filter.mpr ⟨List.mem_range.mpr (Heap.lt_size e'), by simp [q]⟩
    have z : (zfN h H).get? b = none := PySem.W.hideAll_none (trk h H) hm
    rw [z] at e; cases e
def zib (g h : Heap) (L : Addr) : List (Addr × Obj) := (List.range h.objs.size).filterMap fun a => if a = L \/ (g.get? a).isSome = true then none else (h.get? a).map fun o => (a, o)
def jm (g h : Heap) (L d : Addr) : List (Addr × Obj) := (zib g h L).filter fun p => decide (p.1 ≠ d)
end L2
namespace L2
open PySem PySem.Spec PyProof.Rows
structure Mod (K : PySem.W.Frag) (mg : Str -> Option Value) (base : Heap) : Prop where
  kin : K.In base
  glob : base.Ns mainGlobals mg
  blt : ∃ mb, base.Ns builtinsNs mb /\ ∀ x : Str, x ≠ "__name__" -> mb x = bootBuiltins x
  nolimit : base.NoLimit
structure Cx where
  prog : Program
  w : World
  K : PySem.W.Frag
  mg : Str -> Option Value
  base : Heap
  A : Around
  N : List Str
  s_0 : Shared
  H_0 : Hp
  env : Env
  outer : List Env
  stack : List Env
  ex : List Addr
  fn : Str -> Bool
  calm : Bool
  pn : List (Addr × Obj)
  xe : Value -> Shared -> Prop
def frs (l : List Env) : List Addr := l.filterMap (·.frame)
abbrev Cx.fs (X : Cx) : List Addr := frs X.outer
def Vis (sc : Scope) (x : Str) : Prop := sc.names.lookup x = some .local \/ sc.names.lookup x = some .cell \/ sc.names.lookup x = some .free
def Loc (sc : Scope) (x : Str) : Prop := sc.names.lookup x = some .local \/ sc.names.lookup x = some .cell
def zly (env : Env) (h : Heap) (m : Str -> Option Value) (x : Str) (u : Value) : Prop :=
  (env.kindOf x = some .local /\ m x = some u) \/ ((env.kindOf x = some .cell \/ env.kindOf x = some .free) /\ ∃ c, env.cells.lookup x = some c /\ h.IsCell c (some u))
structure Cx.Ok (X : Cx) : Prop where
  mod : Mod X.K X.mg X.base
  kind : X.env.scope.kind = .function
  glob : X.env.globals = mainGlobals
  blt : X.env.builtins = builtinsNs
  above : X.s_0.heap.objs.size <= X.env.locals
  inj : ∀ x y c, X.env.cells.lookup x = some c -> X.env.cells.lookup y = some c -> x = y
  has : ∀ x, (X.env.kindOf x = some .cell \/ X.env.kindOf x = some .free) -> ∃ c, X.env.cells.lookup x = some c
  cab : ∀ x c, X.fn x = true -> X.env.cells.lookup x = some c -> X.s_0.heap.objs.size <= c
  hd : X.calm = true -> X.A.handled = none
  frames : X.A.frames = some X.stack
  stk : X.stack = X.outer \/ (X.stack = X.env :: X.outer /\ X.env.frame = some X.env.locals)
  exf : ∀ b ∈ X.ex, b ≠ X.env.locals /\ ∀ x c, X.env.cells.lookup x = some c -> c ≠ b
  bs : ∀ b o, X.base.get? b = some o -> X.s_0.heap.get? b = some o /\ X.H_0 b = none
  bsz : X.base.objs.size <= X.s_0.heap.objs.size
  noex : ∀ b o, X.base.get? b = some o -> b ∉ X.ex
  exfs : ∀ b ∈ X.ex, b ∉ X.fs
  funs : X.s_0.heap.FunFrames X.base X.outer
  frf : ∀ b ∈ X.fs, X.H_0 b = none
structure Inv (X : Cx) (pins : List (Addr × Obj)) (σ : List (Option V)) (H : Hp) (s : Shared) : Prop where
  ok : X.Ok
  os : s.os = X.s_0.os
  bare : AllBare s.gens
  base : Un X.fs X.ex X.H_0 H X.s_0.heap s.heap
  loc : ∃ m, s.heap.Ns X.env.locals m /\ ∀ (i : Nat) (x : Str) (v : V), X.N[i]? = some x -> σ[i]? = some (some v) -> Vis X.env.scope x -> ∃ u, yc v u /\ zly X.env s.heap m x u
  cell : ∀ x c, X.env.cells.lookup x = some c -> ∃ v, s.heap.IsCell c v
  free : H X.env.locals = none
  freeC : ∀ x c, X.env.cells.lookup x = some c -> H c = none
  pin : ∀ p ∈ X.pn ++ pins, s.heap.get? p.1 = some p.2 /\ H p.1 = none /\ p.1 ≠ X.env.locals /\ p.1 ∉ X.fs /\ ∀ v, p.2.data ≠ .cell v
  hok : HOk X.prog X.w H s.heap
  len : σ.length = X.N.length
section
variable {X : Cx} {pins : List (Addr × Obj)} {σ : List (Option V)} {H H' : Hp} {s : Shared} {h' : Heap}
theorem Cx.Ok.nofr (ok : X.Ok) {b : Addr} {o : Obj} (e : X.base.get? b = some o) : b ∉ X.fs := fun hb => by
  have := (ok.funs.mem hb).1
  rw [e] at this; cases this
theorem Inv.bs (I : Inv X pins σ H s) : ∀ b o, X.base.get? b = some o -> s.heap.get? b = some o /\ H b = none := fun b o e =>
  ⟨I.base.keep b o (I.ok.bs b o e).1 (I.ok.bs b o e).2 (I.ok.nofr e) (I.ok.noex b o e), I.base.free b o (I.ok.bs b o e).1 (I.ok.bs b o e).2 (I.ok.noex b o e)⟩
theorem Inv.bk (I : Inv X pins σ H s) : ∀ b o, X.base.get? b = some o -> s.heap.get? b = some o := fun b o e => (I.bs b o e).1
theorem Inv.mod (I : Inv X pins σ H s) : Mod X.K X.mg X.base := I.ok.mod
theorem Inv.kIn (I : Inv X pins σ H s) : X.K.In s.heap := I.ok.mod.kin.keeps I.bk
theorem Inv.nolimit (I : Inv X pins σ H s) : s.heap.NoLimit := I.ok.mod.nolimit.keeps I.bk
theorem Inv.fr (I : Inv X pins σ H s) : ∃ m, Fr X.base X.env.locals s.heap m :=
  let ⟨m, hn, _⟩ := I.loc
  ⟨m, hn, I.bk, Nat.le_trans I.ok.bsz I.ok.above⟩
theorem Inv.lt (I : Inv X pins σ H s) : X.env.locals < s.heap.objs.size := let ⟨_, hn, _⟩ := I.loc; hn.lt
theorem Inv.sz (I : Inv X pins σ H s) : X.s_0.heap.objs.size <= s.heap.objs.size := Nat.le_trans I.ok.above (Nat.le_of_lt I.lt)
theorem Inv.nofs (I : Inv X pins σ H s) {a : Addr} (h : s.heap.objs.size <= a) : a ∉ X.fs := fun hb => by
  obtain ⟨_, o, ho, _⟩ := I.ok.funs.mem hb
  exact absurd (Nat.lt_of_lt_of_le (Heap.lt_size ho) (Nat.le_trans I.sz h)) (Nat.lt_irrefl _)
theorem Inv.cne (I : Inv X pins σ H s) : ∀ x c, X.env.cells.lookup x = some c -> c ≠ X.env.locals := fun x c e z => by
  obtain ⟨v, o, ho, hd⟩ := I.cell x c e
  obtain ⟨m, ⟨o', es, ep, ho', hd', _⟩, _⟩ := I.loc
  rw [z, ho'] at ho; cases ho; rw [hd'] at hd; cases hd
theorem Inv.funs (I : Inv X pins σ H s) : s.heap.FunFrames X.base X.outer := by
  have all : ∀ (l : List Env), (∀ b ∈ frs l, b ∈ X.fs) -> X.s_0.heap.FunFrames X.base l -> s.heap.FunFrames X.base l := by
    intro l
    induction l with
    | nil => intro _ _; trivial
    | cons env r ih =>
      intro hs hl
      obtain ⟨hk, ⟨L, o, hf, hn, ho, hd⟩, hr⟩ := hl
      have hL : L ∈ X.fs := hs L (by unfold frs; rw [List.filterMap_cons, hf]; exact List.mem_cons_self)
      obtain ⟨sl, e⟩ := I.base.slot L o ho (I.ok.frf L hL) hL fun z => I.ok.exfs L z hL
      exact ⟨hk, ⟨L, _, hf, hn, e, hd⟩, ih (fun b hb => hs b (by unfold frs; rw [List.filterMap_cons, hf]; exact List.mem_cons_of_mem _ hb)) hr⟩
  exact all X.outer (fun _ hb => hb) I.ok.funs
theorem Inv.stack (I : Inv X pins σ H s) : s.heap.FunFrames X.base X.stack := by
  rcases I.ok.stk with e | ⟨e, hf⟩
  . rw [e]; exact I.funs
  . rw [e]
    obtain ⟨m, hn, _⟩ := I.loc
    refine .cons (by rw [I.ok.kind]; decide) hf hn ?_ I.funs
    exact Heap.get?_none_of_le (Nat.le_trans I.ok.bsz I.ok.above)
theorem Inv.stkSub (I : Inv X pins σ H s) : ∀ b ∈ frs X.stack, b ∈ X.env.locals :: X.fs := fun b hb => by
  rcases I.ok.stk with e | ⟨e, hf⟩
  . rw [e] at hb; exact List.mem_cons_of_mem _ hb
  . rw [e] at hb
    unfold frs at hb
    rw [List.filterMap_cons, hf] at hb
    exact hb
theorem Inv.stkFree (I : Inv X pins σ H s) : ∀ b ∈ frs X.stack, H b = none := fun b hb => by
  rcases List.mem_cons.mp (I.stkSub b hb) with e | hb
  . rw [e]; exact I.free
  . obtain ⟨_, o, ho, _⟩ := I.ok.funs.mem hb
    exact I.base.free b o ho (I.ok.frf b hb) fun z => I.ok.exfs b z hb
theorem Inv.step {g' : Array GenState} {t' : Nat} {d' : Drawn} {ch : List Addr} (I : Inv X pins σ H s)
    (hch : ∀ b ∈ ch, (b ∈ X.ex \/ X.s_0.heap.objs.size <= b) /\ b ≠ X.env.locals /\ (∀ x c, X.env.cells.lookup x = some c -> c ≠ b) /\ ∀ p ∈ X.pn ++ pins, p.1 ≠ b)
    (keep : ∀ b o, b ≠ X.env.locals -> b ∉ X.fs -> b ∉ ch -> s.heap.get? b = some o -> H b = none -> h'.get? b = some o)
    (slot : ∀ b o, b ≠ X.env.locals -> b ∈ X.fs -> b ∉ ch -> s.heap.get? b = some o -> H b = none -> ∃ sl, h'.get? b = some { o with slots := sl }) (free : ∀ b o, b ∉ ch -> s.heap.get? b = some o -> H b = none -> H' b = none)
    (there : ∀ b o, b ∉ ch -> s.heap.get? b = some o -> ∃ o', h'.get? b = some o')
    (tups : ∀ b xs, H b = some (.tup xs) -> H' b = some (.tup xs)) (frzs : ∀ b o u, H b = some (.frz o u) -> H' b = some (.frz o u)) (tbls : ∀ b ps, H b = some (.tbl ps) -> ∃ more, H' b = some (.tbl (ps ++ more)))
    (ns : ∀ m, s.heap.Ns X.env.locals m -> h'.Ns X.env.locals m) (hok : HOk X.prog X.w H' h') (hg : AllBare g') :
    Inv X pins σ H' { s with heap := h', gens := g', drawn := d', toks := t' } := by
  have neL : ∀ b o, X.s_0.heap.get? b = some o -> b ≠ X.env.locals := fun b o e => Nat.ne_of_lt (Nat.lt_of_lt_of_le (Heap.lt_size e) I.ok.above)
  have neC : ∀ b o, X.s_0.heap.get? b = some o -> b ∉ X.ex -> b ∉ ch := fun b o e hx hb => by
    rcases (hch b hb).1 with z | z
    . exact hx z
    . exact absurd (Nat.lt_of_lt_of_le (Heap.lt_size e) z) (Nat.lt_irrefl _)
  have cellK : ∀ x c, X.env.cells.lookup x = some c -> ∀ v, s.heap.IsCell c v -> h'.IsCell c v := fun x c e v ⟨o, ho, hd⟩ => by
    have nch : c ∉ ch := fun z => (hch c z).2.2.1 x c e rfl
    by_cases hc : c ∈ X.fs
    . obtain ⟨sl, q⟩ := slot c o (I.cne x c e) hc nch ho (I.freeC x c e)
      exact ⟨_, q, hd⟩
    . exact ⟨o, keep c o (I.cne x c e) hc nch ho (I.freeC x c e), hd⟩
  refine ⟨I.ok, I.os, hg, ⟨fun b o e n hb hx => ?_, fun b o e n hb hx => ?_, fun b o e n hx => ?_, fun b o e hx => ?_, fun b xs e => tups b xs (I.base.tups b xs e), fun b o xs e => frzs b o xs (I.base.frzs b o xs e), fun b ps e => ?_⟩, ?_, fun x c e => ?_, ?_, fun x c e => ?_, fun p hp => ?_, hok, I.len⟩
  . exact keep b o (neL b o e) hb (neC b o e hx) (I.base.keep b o e n hb hx) (I.base.free b o e n hx)
  . obtain ⟨sl, e1⟩ := I.base.slot b o e n hb hx
    obtain ⟨sl', e2⟩ := slot b _ (neL b o e) hb (neC b o e hx) e1 (I.base.free b o e n hx)
    exact ⟨sl', e2⟩
  . obtain ⟨o', e1⟩ := I.base.there b o e hx
    exact free b o' (neC b o e hx) e1 (I.base.free b o e n hx)
  . obtain ⟨o', e1⟩ := I.base.there b o e hx
    exact there b o' (neC b o e hx) e1
  . obtain ⟨m1, e1⟩ := I.base.tbls b ps e
    obtain ⟨m2, e2⟩ := tbls b _ e1
    exact ⟨m1 ++ m2, by rw [e2, Array.append_assoc]⟩
  . obtain ⟨m, hn, hl⟩ := I.loc
    refine ⟨m, ns m hn, fun i x v e1 e2 e3 => ?_⟩
    obtain ⟨u, r, l⟩ := hl i x v e1 e2 e3
    refine ⟨u, r, ?_⟩
    rcases l with l | ⟨k, c, e, z⟩
    . exact .inl l
    . exact .inr ⟨k, c, e, cellK x c e _ z⟩
  . obtain ⟨v, z⟩ := I.cell x c e
    exact ⟨v, cellK x c e v z⟩
  . obtain ⟨m, ⟨o, _, _, ho, _⟩, _⟩ := I.loc
    exact free _ o (fun z => (hch _ z).2.1 rfl) ho I.free
  . obtain ⟨v, o, ho, hd⟩ := I.cell x c e
    exact free c o (fun z => (hch c z).2.2.1 x c e rfl) ho (I.freeC x c e)
  . obtain ⟨e, n, ne, nf, d⟩ := I.pin p hp
    have nch : p.1 ∉ ch := fun z => (hch p.1 z).2.2.2 p hp rfl
    exact ⟨keep p.1 p.2 ne nf nch e n, free p.1 p.2 nch e n, ne, nf, d⟩
theorem Inv.un {t' : Nat} (I : Inv X pins σ H s) (u : Un X.fs [] H H' s.heap h') (hok : HOk X.prog X.w H' h') : Inv X pins σ H' { s with heap := h', toks := t' } := by
  obtain ⟨m, ⟨o, es, ep, ho, r⟩, _⟩ := id I.loc
  obtain ⟨sl, hL⟩ := u.any ho I.free (by simp)
  exact I.step (g' := s.gens) (d' := s.drawn) (ch := []) (fun _ z => nomatch z) (fun b o _ hb _ e n => u.keep b o e n hb (by simp)) (fun b o _ hb _ e n => u.slot b o e n hb (by simp)) (fun b o _ e n => u.free b o e n (by simp)) (fun b o _ e => u.there b o e (by simp)) u.tups u.frzs u.tbls (fun m' hm => by
    obtain ⟨o', es', ep', ho', r'⟩ := hm
    rw [ho] at ho'; cases ho'
    exact ⟨_, es', ep', hL, r'⟩) hok I.bare
theorem Inv.call {g' : Array GenState} {t' : Nat} {d' : Drawn} {ch : List Addr} (I : Inv X pins σ H s) (u : Un (frs X.stack) ch H H' s.heap h') (hok : HOk X.prog X.w H' h') (hg : AllBare g')
    (hch : ∀ b ∈ ch, (b ∈ X.ex \/ X.s_0.heap.objs.size <= b) /\ b ≠ X.env.locals /\ (∀ x c, X.env.cells.lookup x = some c -> c ≠ b) /\ ∀ p ∈ X.pn ++ pins, p.1 ≠ b) :
    Inv X pins σ H' { s with heap := h', gens := g', drawn := d', toks := t' } := by
  obtain ⟨m, ⟨o, es, ep, ho, r⟩, _⟩ := id I.loc
  obtain ⟨sl, hL⟩ := u.any ho I.free fun z => (hch _ z).2.1 rfl
  exact I.step (ch := ch) hch (fun b o hL hb hc e n => u.keep b o e n (fun z => (List.mem_cons.mp (I.stkSub b z)).elim hL hb) hc) (fun b o _ _ hc e n => u.any e n hc) (fun b o hc e n => u.free b o e n hc) (fun b o hc e => u.there b o e hc) u.tups u.frzs u.tbls (fun m' hm => by
    obtain ⟨o', es', ep', ho', r'⟩ := hm
    rw [ho] at ho'; cases ho'
    exact ⟨_, es', ep', hL, r'⟩) hok hg
theorem Inv.turned {t' : Nat} {it : Addr} (I : Inv X pins σ H s) (k : ∀ b o, b ≠ it -> s.heap.get? b = some o -> h'.get? b = some o) (hn : H it = none) (hL : it ≠ X.env.locals)
    (h1 : it ∈ X.ex \/ X.s_0.heap.objs.size <= it) (h2 : ∀ x c, X.env.cells.lookup x = some c -> c ≠ it) (h3 : ∀ p ∈ X.pn ++ pins, p.1 ≠ it) : Inv X pins σ H { s with heap := h', toks := t' } := by
  have nit : ∀ b u, H b = some u -> b ≠ it := fun b u e z => by rw [z, hn] at e; cases e
  refine I.step (g' := s.gens) (d' := s.drawn) (ch := [it]) (fun b hb => ?_) (fun b o _ _ hc e _ => k b o (fun z => hc (by simp [z])) e) (fun b o _ _ hc e _ => ⟨o.slots, k b o (fun z => hc (by simp [z])) e⟩) (fun _ _ _ _ n => n)
    (fun b o hc e => ⟨o, k b o (fun z => hc (by simp [z])) e⟩) (fun _ _ e => e) (fun _ _ _ e => e) (fun b ps e => ⟨#[], by rw [e]; simp⟩) (fun m hm => ?_) (fun b u e => ?_) I.bare
  . have e : b = it := by simpa using hb
    subst e
    exact ⟨h1, hL, h2, h3⟩
  . obtain ⟨o, es, ep, ho, r⟩ := hm
    exact ⟨o, es, ep, k _ o (Ne.symm hL) ho, r⟩
  . refine (I.hok b u e).stay (fun c v hc q => k c v ?_ q) (fun _ q => q) fun _ _ q => q
    rcases hc with z | z
    . rw [z]; exact nit b u e
    . exact nit c _ z
theorem Inv.tok (I : Inv X pins σ H s) (t : Nat) : Inv X pins σ H { s with toks := t } := I.un (h' := s.heap) (t' := t) Un.refl I.hok
theorem Inv.kept {t' : Nat} (I : Inv X pins σ H s) (k : ∀ b u, s.heap.get? b = some u -> h'.get? b = some u) : Inv X pins σ H { s with heap := h', toks := t' } := I.un (Un.kept k) (I.hok.kept k)
theorem Inv.laid {a : Addr} {o : HO} {t' : Nat} (I : Inv X pins σ H s) (k : ∀ b u, s.heap.get? b = some u -> h'.get? b = some u) (hp : s.heap.objs.size <= a) (new : xz X.prog X.w (upd H a o) h' a o) :
    Inv X pins σ (upd H a o) { s with heap := h', toks := t' } := I.un (Un.laid k hp (I.hok.fresh hp)) (I.hok.laid k hp new)
theorem Inv.write {x e : Addr} {o : HO} {t' : Nat} (I : Inv X pins σ H s) (mu : Mut (H x)) (he : e = x \/ H e = some (.own x)) (k : ∀ b u, b ≠ e -> s.heap.get? b = some u -> h'.get? b = some u) (heo : ∃ u, h'.get? e = some u)
    (new : xz X.prog X.w (upd H x o) h' x o) : Inv X pins σ (upd H x o) { s with heap := h', toks := t' } := I.un (Un.write mu he k heo) (I.hok.write mu he k heo new)
theorem Inv.weak {σ' : List (Option V)} (I : Inv X pins σ H s) (hl : σ'.length = σ.length) (w : ∀ (i : Nat) v, σ'[i]? = some (some v) -> σ[i]? = some (some v)) : Inv X pins σ' H s :=
  ⟨I.ok, I.os, I.bare, I.base, let ⟨m, hn, hl'⟩ := I.loc; ⟨m, hn, fun i x v e1 e2 e3 => hl' i x v e1 (w i v e2) e3⟩, I.cell, I.free, I.freeC, I.pin, I.hok, hl.trans I.len⟩
theorem Inv.pins_of {pins' : List (Addr × Obj)} (I : Inv X pins σ H s) (h : ∀ p ∈ pins', s.heap.get? p.1 = some p.2 /\ H p.1 = none /\ p.1 ≠ X.env.locals /\ p.1 ∉ X.fs /\ ∀ v, p.2.data ≠ .cell v) : Inv X pins' σ H s :=
  ⟨I.ok, I.os, I.bare, I.base, I.loc, I.cell, I.free, I.freeC, fun p hp => (List.mem_append.mp hp).elim (fun z => I.pin p (List.mem_append_left _ z)) (h p), I.hok, I.len⟩
theorem we {N : List Str} (hN : N.Nodup) {i j : Nat} {x : Str} (a : N[i]? = some x) (b : N[j]? = some x) : i = j := by
  obtain ⟨h1, e1⟩ := List.getElem?_eq_some_iff.mp a
  obtain ⟨h2, e2⟩ := List.getElem?_eq_some_iff.mp b
  exact (List.getElem_inj hN).mp (e1.trans e2.symm)
theorem w8 {M : Model} {A : Around} {E : Value -> Shared -> Prop} {i : Nat} {x : Str} {v : V} {u : Value} {Q : Unit -> Shared -> Prop} (I : Inv X pins σ H s) (hN : X.N.Nodup) (hi : X.N[i]? = some x) (hx : Loc X.env.scope x) (r : yc v u)
    (h : ∀ s', Inv X pins (σ.set i (some v)) H s' -> (∃ a, Heap.SameBut a s.heap s'.heap /\ (a = X.env.locals \/ X.env.cells.lookup x = some a)) -> Q () s') (hf : X.fn x = true \/ X.env.scope.names.lookup x = some .local := by first | exact .inl rfl | exact .inr rfl | assumption) : wpAny M A (storeName X.env x u) Q E s := by
  obtain ⟨m, hn, hl⟩ := id I.loc
  have hcls : (X.env.scope.kind == .class || (X.env.scope.kind == .module && X.env.locals != X.env.globals)) = false := by rw [I.ok.kind]; rfl
  have hiσ : i < σ.length := by rw [I.len]; exact (List.getElem?_eq_some_iff.mp hi).1
  have cne := I.cne
  have tracked : ∀ {a : Addr} {h' : Heap}, (∃ o, s.heap.get? a = some o /\ H a = none) -> Heap.SameBut a s.heap h' -> HOk X.prog X.w H h' := fun {a h'} ha hs b ob e => by
    obtain ⟨_, _, hfree⟩ := ha
    refine (I.hok b ob e).stay (fun c w' hc q => (hs.2 c ?_).trans q) (fun _ q => q) fun _ _ q => q
    rintro rfl
    rcases hc with rfl | hc
    . rw [hfree] at e; cases e
    . rw [hfree] at hc; cases hc
  rcases hx with hk | hk
  . refine wpAny_storeName_local hk hn (fun h' hn' hs => ?_) hcls
    obtain ⟨oL, _, _, hoL, _⟩ := id hn
    refine h _ ⟨I.ok, I.os, I.bare, ⟨fun b o e n hb hx => ?_, fun b o e n hb hx => ?_, I.base.free, fun b o e hx => ?_, I.base.tups, I.base.frzs, I.base.tbls⟩, ⟨_, hn', fun j y v' e1 e2 e3 => ?_⟩, fun y c e => ?_, I.free, I.freeC, fun p hp => ?_, tracked ⟨oL, hoL, I.free⟩ hs, by simpa using I.len⟩ ⟨_, hs, .inl rfl⟩
    . exact (hs.2 b (Nat.ne_of_lt (Nat.lt_of_lt_of_le (Heap.lt_size e) I.ok.above))).trans (I.base.keep b o e n hb hx)
    . obtain ⟨sl, e1⟩ := I.base.slot b o e n hb hx
      exact ⟨sl, (hs.2 b (Nat.ne_of_lt (Nat.lt_of_lt_of_le (Heap.lt_size e) I.ok.above))).trans e1⟩
    . obtain ⟨o', e1⟩ := I.base.there b o e hx
      exact ⟨o', (hs.2 b (Nat.ne_of_lt (Nat.lt_of_lt_of_le (Heap.lt_size e) I.ok.above))).trans e1⟩
    . by_cases hj : j = i
      . subst hj
        rw [hi] at e1; cases e1
        rw [List.getElem?_set_self hiσ] at e2
        cases e2
        exact ⟨u, r, .inl ⟨hk, by simp⟩⟩
      . rw [List.getElem?_set_ne (Ne.symm hj)] at e2
        obtain ⟨u', r', q⟩ := hl j y v' e1 e2 e3
        refine ⟨u', r', ?_⟩
        rcases q with ⟨k, e⟩ | ⟨k, c, e, z⟩
        . refine .inl ⟨k, ?_⟩
          have : y ≠ x := fun e => hj (we hN e1 (e ▸ hi))
          simp [this, e]
        . exact .inr ⟨k, c, e, z.sameBut hs (cne y c e)⟩
    . obtain ⟨w', z⟩ := I.cell y c e
      exact ⟨w', z.sameBut hs (cne y c e)⟩
    . obtain ⟨e, n, ne, nf, d⟩ := I.pin p hp
      exact ⟨(hs.2 p.1 ne).trans e, n, ne, nf, d⟩
  . have hfn : X.fn x = true := by
      rcases hf with z | z
      . exact z
      . rw [z] at hk; cases hk
    obtain ⟨c, hc⟩ := I.ok.has x (.inl hk)
    obtain ⟨w', z⟩ := I.cell x c hc
    refine wpAny_storeName_cell I.ok.kind hk hc z (fun h' hc' hs => ?_)
    obtain ⟨oc, hoc, hocd⟩ := id z
    refine h { s with heap := h' } ⟨I.ok, I.os, I.bare, ⟨fun b o e n hb hx => ?_, fun b o e n hb hx => ?_, I.base.free, fun b o e hx => ?_, I.base.tups, I.base.frzs, I.base.tbls⟩, ⟨m, hn.sameBut hs (Ne.symm (cne x c hc)), fun j y v' e1 e2 e3 => ?_⟩, fun y c' e => ?_, I.free, I.freeC, fun p hp => ?_, tracked ⟨oc, hoc, I.freeC x c hc⟩ hs, by simpa using I.len⟩ ⟨c, hs, .inr hc⟩
    . exact (hs.2 b (Nat.ne_of_lt (Nat.lt_of_lt_of_le (Heap.lt_size e) (I.ok.cab x c hfn hc)))).trans (I.base.keep b o e n hb hx)
    . obtain ⟨sl, e1⟩ := I.base.slot b o e n hb hx
      exact ⟨sl, (hs.2 b (Nat.ne_of_lt (Nat.lt_of_lt_of_le (Heap.lt_size e) (I.ok.cab x c hfn hc)))).trans e1⟩
    . obtain ⟨o', e1⟩ := I.base.there b o e hx
      exact ⟨o', (hs.2 b (Nat.ne_of_lt (Nat.lt_of_lt_of_le (Heap.lt_size e) (I.ok.cab x c hfn hc)))).trans e1⟩
    . by_cases hj : j = i
      . subst hj
        rw [hi] at e1; cases e1
        rw [List.getElem?_set_self hiσ] at e2
        cases e2
        exact ⟨u, r, .inr ⟨.inl hk, c, hc, hc'⟩⟩
      . rw [List.getElem?_set_ne (Ne.symm hj)] at e2
        obtain ⟨u', r', q⟩ := hl j y v' e1 e2 e3
        refine ⟨u', r', ?_⟩
        rcases q with q | ⟨k, c', e, z'⟩
        . exact .inl q
        . refine .inr ⟨k, c', e, z'.sameBut hs ?_⟩
          rintro rfl
          exact hj (we hN e1 (I.ok.inj _ _ _ e hc ▸ hi))
    . by_cases hcc : c' = c
      . subst hcc; exact ⟨_, hc'⟩
      . obtain ⟨w2, z2⟩ := I.cell y c' e
        exact ⟨w2, z2.sameBut hs hcc⟩
    . obtain ⟨e, n, ne, nf, d⟩ := I.pin p hp
      refine ⟨(hs.2 p.1 ?_).trans e, n, ne, nf, d⟩
      intro q
      rw [q, hoc] at e
      have q' : oc = p.2 := Option.some.inj e
      exact d w' (by rw [<- q']; exact hocd)
theorem vh {M : Model} {A : Around} {E : Value -> Shared -> Prop} {i : Nat} {x : Str} {v : V} {u : Value} {Q : Unit -> Shared -> Prop} (I : Inv X pins σ H s) (hN : X.N.Nodup) (hi : X.N[i]? = some x) (hx : Loc X.env.scope x) (r : yc v u)
    (h : ∀ s', Inv X pins (σ.set i (some v)) H s' -> Q () s') (hf : X.fn x = true \/ X.env.scope.names.lookup x = some .local := by first | exact .inl rfl | exact .inr rfl | assumption) : wpAny M A (storeName X.env x u) Q E s :=
  w8 I hN hi hx r (fun s' I' _ => h s' I') hf
theorem Inv.call' {s' : Shared} {ch : List Addr} (I : Inv X pins σ H s) (ho : s'.os = s.os) (u : Un (frs X.stack) ch H H' s.heap s'.heap) (hok : HOk X.prog X.w H' s'.heap) (hg : AllBare s'.gens)
    (hch : ∀ b ∈ ch, (b ∈ X.ex \/ X.s_0.heap.objs.size <= b) /\ b ≠ X.env.locals /\ (∀ x c, X.env.cells.lookup x = some c -> c ≠ b) /\ ∀ p ∈ X.pn ++ pins, p.1 ≠ b) : Inv X pins σ H' s' := by
  obtain ⟨h', g', d', t', o'⟩ := s'
  have e : o' = s.os := ho
  subst e
  exact I.call (g' := g') (t' := t') (d' := d') u hok hg hch
end
abbrev XK := Value -> Option Addr -> Hp -> Prop
abbrev St := List (Option V)
abbrev VK := V -> Hp -> Prop
abbrev TE := St -> Hp -> VK -> Prop
abbrev TT := St -> Hp -> (Bool -> Hp -> Prop) -> Prop
abbrev TA := St -> Hp -> (List V -> Hp -> Prop) -> Prop
structure zez where
  nx : St -> Hp -> Prop
  rt : VK
  bk : St -> Hp -> Prop := fun _ _ => False
  ct : St -> Hp -> Prop := fun _ _ => False
abbrev TS := zez -> St -> Hp -> Prop
def EP (X : Cx) (pins : List (Addr × Obj)) (σ : St) (Q : VK) (u : Value) (s' : Shared) : Prop := ∃ v H', Inv X pins σ H' s' /\ yc v u /\ Q v H'
def TP (X : Cx) (pins : List (Addr × Obj)) (σ : St) (Q : Bool -> Hp -> Prop) (b : Bool) (s' : Shared) : Prop := ∃ H', Inv X pins σ H' s' /\ Q b H'
def AP (X : Cx) (pins : List (Addr × Obj)) (σ : St) (Q : List V -> Hp -> Prop) (us : List Value) (s' : Shared) : Prop := ∃ vs H', Inv X pins σ H' s' /\ z7 vs us /\ Q vs H'
def SP (X : Cx) (pins : List (Addr × Obj)) (D : zez) (f : Flow) (s' : Shared) : Prop :=
  match f with
  | .next => ∃ σ' H', Inv X pins σ' H' s' /\ D.nx σ' H'
  | .brk => ∃ σ' H', Inv X pins σ' H' s' /\ D.bk σ' H'
  | .cont => ∃ σ' H', Inv X pins σ' H' s' /\ D.ct σ' H'
  | .ret u => ∃ v σ' H', Inv X pins σ' H' s' /\ yc v u /\ D.rt v H'
def PE (X : Cx) (e : Expr) (t : TE) : Prop :=
  ∀ (pins : List (Addr × Obj)) (s : Shared) (σ : St) (H : Hp) (Q : VK), Inv X pins σ H s -> t σ H Q -> wpAny (model X.prog X.w) X.A (eval e X.env) (EP X pins σ Q) X.xe s
def PT (X : Cx) (e : Expr) (t : TT) : Prop :=
  ∀ (pins : List (Addr × Obj)) (s : Shared) (σ : St) (H : Hp) (Q : Bool -> Hp -> Prop), Inv X pins σ H s -> t σ H Q -> wpAny (model X.prog X.w) X.A (isTrue e X.env (eval e X.env)) (TP X pins σ Q) X.xe s
def PW (X : Cx) (e : Expr) (t : TT) : Prop :=
  ∀ (whole : Sem Value) (pins : List (Addr × Obj)) (s : Shared) (σ : St) (H : Hp) (Q : Bool -> Hp -> Prop), Inv X pins σ H s -> t σ H Q -> wpAny (model X.prog X.w) X.A (isTrue e X.env whole) (TP X pins σ Q) X.xe s
theorem PW.pt {X : Cx} {e : Expr} {t : TT} (h : PW X e t) : PT X e t := h _
def PA (X : Cx) (es : List Expr) (t : TA) : Prop :=
  ∀ (pos : Pos) (pins : List (Addr × Obj)) (s : Shared) (σ : St) (H : Hp) (Q : List V -> Hp -> Prop), Inv X pins σ H s -> t σ H Q -> wpAny (model X.prog X.w) X.A (spliced (backTo pos (starEach es X.env))) (AP X pins σ Q) X.xe s
def PS (X : Cx) (st : Stmt) (t : TS) : Prop :=
  ∀ (pins : List (Addr × Obj)) (s : Shared) (σ : St) (H : Hp) (D : zez), Inv X pins σ H s -> t D σ H -> wpAny (model X.prog X.w) X.A (exec st X.env) (SP X pins D) X.xe s
def PSs (X : Cx) (st : List Stmt) (t : TS) : Prop :=
  ∀ (pins : List (Addr × Obj)) (s : Shared) (σ : St) (H : Hp) (D : zez), Inv X pins σ H s -> t D σ H -> wpAny (model X.prog X.w) X.A (execs st X.env) (SP X pins D) X.xe s
theorem thn {α : Type} {t : Sem α} {Q Q' : α -> Shared -> Prop} {M : Model} {A : Around} {E : Value -> Shared -> Prop} {s : Shared} (h : wpAny M A t Q E s) (hQ : ∀ a s, Q a s -> Q' a s) : wpAny M A t Q' E s := wpAny_mono h hQ fun _ _ x => x
end L2
namespace L2
open PySem PySem.Spec PyProof.Rows
section
variable {X : Cx}
def ziN (i : Nat) : TE := fun σ H Q => ∃ v, σ[i]? = some (some v) /\ Q v H
def tC (v : V) : TE := fun _ H Q => Q v H
theorem zjd {i : Nat} {x : Str} {pos : Pos} (hN : X.N[i]? = some x) (hv : Vis X.env.scope x) (hd : (x == ("__debug__" : Str)) = false := by decide) (hcd : (x == ("__classdict__" : Str)) = false := by decide) : PE X (.Name x pos) (ziN i) := by
  intro pins s σ H Q I h
  obtain ⟨v, e, h⟩ := h
  obtain ⟨m, hn, hl⟩ := I.loc
  obtain ⟨u, r, l⟩ := hl i x v hN e hv
  have fin : EP X pins σ Q u s := ⟨v, H, I, r, h⟩
  rcases l with ⟨hk, hm⟩ | ⟨hk, c, hc, hcell⟩
  . exact wpAny_Name (wpAny_loadName_local I.ok.kind hk hn hm fin) hd
  . rcases hk with hk | hk
    . exact wpAny_Name (wpAny_loadName_cell I.ok.kind hk hc hcell fin) hd
    . exact wpAny_Name (wpAny_loadName_free I.ok.kind hk hc hcell fin hcd) hd
theorem zi {i j pos} : PE X (.Constant (.int i) j pos) (tC (.int i)) := fun _ _ _ H _ I h => wpAny_Constant_int ⟨.int i, H, I.tok _, ⟨_, rfl⟩, h⟩
theorem zb9 {j pos} : PE X (.Constant .none j pos) (tC .non) := fun _ _ _ H _ I h => Constant_none ⟨.non, H, I, rfl, h⟩
theorem zgD {x j pos} : PE X (.Constant (.str x) j pos) (tC (.str x)) := fun _ _ _ H _ I h => Calls.Constant_str ⟨.str x, H, I.tok _, ⟨_, rfl⟩, h⟩
def Gl (X : Cx) (x : Str) : Prop := X.env.kindOf x = some .globalImplicit
theorem xC {E : Value -> Shared -> Prop} {pins : List (Addr × Obj)} {s : Shared} {σ : St} {H : Hp} {x : Str} {u : Value} {pos : Pos} {Q : Value -> Shared -> Prop} (I : Inv X pins σ H s) (hg : Gl X x) (hm : X.mg x = some u) (h : Q u s)
    (hd : (x == ("__debug__" : Str)) = false := by decide) : wpAny (model X.prog X.w) X.A (eval (.Name x pos) X.env) Q E s :=
  Calls.Name_function_global I.ok.kind hg (Calls.loadGlobal_global (by rw [I.ok.glob]; exact I.mod.glob.keeps I.bk) hm h) hd
theorem zbK {E : Value -> Shared -> Prop} {pins : List (Addr × Obj)} {s : Shared} {σ : St} {H : Hp} {x : Str} {u : Value} {pos : Pos} {Q : Value -> Shared -> Prop} (I : Inv X pins σ H s) (hg : Gl X x) (hm : X.mg x = none) (hv : bootBuiltins x = some u) (h : Q u s)
    (hn : x ≠ "__name__" := by decide) (hd : (x == ("__debug__" : Str)) = false := by decide) : wpAny (model X.prog X.w) X.A (eval (.Name x pos) X.env) Q E s := by
  obtain ⟨mb, h1, h2⟩ := I.mod.blt
  exact Calls.Name_function_global I.ok.kind hg (Calls.loadGlobal_builtin (by rw [I.ok.glob]; exact I.mod.glob.keeps I.bk) hm (by rw [I.ok.blt]; exact h1.keeps I.bk) ((h2 x hn).trans hv) h) hd
theorem zM {x : Str} {v : V} {u : Value} {pos : Pos} (hg : Gl X x) (hm : X.mg x = some u) (r : yc v u) (hd : (x == ("__debug__" : Str)) = false := by decide) : PE X (.Name x pos) (tC v) :=
  fun _ _ _ H _ I h => xC I hg hm ⟨v, H, I, r, h⟩ hd
variable {a b : Expr} {ta tb : TE} {pos : Pos}
def PC (X : Cx) (op : CmpOp) (a b : Expr) (t : TE) : Prop :=
  ∀ (pins : List (Addr × Obj)) (s : Shared) (σ : St) (H : Hp) (Q : VK), Inv X pins σ H s -> t σ H Q ->
    wpAny (model X.prog X.w) X.A (eval a X.env) (fun v s₁ => wpAny (model X.prog X.w) X.A (eval b X.env) (fun u s₂ => wpAny (model X.prog X.w) X.A (compareOp op v u) (EP X pins σ Q) X.xe s₂) X.xe s₁) X.xe s
theorem zf6 (b : Expr) {op : CmpOp} (h : op ≠ .In) (h2 : op ≠ .NotIn) : behindInMarks op b = false := by
  have e1 : (op == CmpOp.In) = false := by cases op <;> first | rfl | exact absurd rfl h
  have e2 : (op == CmpOp.NotIn) = false := by cases op <;> first | rfl | exact absurd rfl h2
  cases b <;> simp [behindInMarks, e1, e2]
def zlA (ta : TE) : TE := fun σ H Q => ta σ H fun x H1 => Q (.bl (decide (x = .non))) H1
def zjS (ta : TE) : TE := fun σ H Q => ta σ H fun x H1 => Q (.bl (!decide (x = .non))) H1
theorem yc.none_iff {x : V} {v : Value} (r : yc x v) : (v == Value.none) = decide (x = .non) := by
  cases x with
  | non => cases r; rfl
  | bl _ => cases r; rfl
  | int _ => obtain ⟨t, rfl⟩ := r; rfl
  | str _ => obtain ⟨t, rfl⟩ := r; rfl
  | byt _ => obtain ⟨t, rfl⟩ := r; rfl
  | flt _ => obtain ⟨t, rfl⟩ := r; rfl
  | ref _ => cases r; rfl
  | ty _ => cases r; rfl
theorem zjA {j pos'} (ha : PE X a ta) : PC X .Is a (.Constant .none j pos') (zlA ta) := by
  intro pins s σ H Q I h
  refine thn (ha pins s σ H _ I h) fun v s1 ⟨x, H1, I1, r1, q1⟩ => ?_
  exact Constant_none (is_none_gen ⟨.bl _, H1, I1, by rw [r1.none_iff]; rfl, q1⟩)
theorem zdD {j pos'} (ha : PE X a ta) : PC X .IsNot a (.Constant .none j pos') (zjS ta) := by
  intro pins s σ H Q I h
  refine thn (ha pins s σ H _ I h) fun v s1 ⟨x, H1, I1, r1, q1⟩ => ?_
  exact Constant_none (isnot_none_gen ⟨.bl _, H1, I1, by rw [r1.none_iff]; rfl, q1⟩)
def tB (t : TE) : TT := fun σ H Q => t σ H fun x H1 => ∃ c, x = .bl c /\ Q c H1
theorem zdZ {op : CmpOp} {t : TE} (h : PC X op a b t) (h1 : behindInMarks op b = false := by first | exact zf6 _ (by decide) (by decide) | rfl) : PT X (.Compare a [op] [b] pos) (tB t) := by
  intro pins s σ H Q I hw
  refine wpAny_isTrue_Compare1 (thn (h pins s σ H _ I hw) fun v s1 h1 => thn h1 fun u s2 h2 => thn h2 fun c s3 ⟨x, H1, I1, r1, q1⟩ => ?_) h1
  obtain ⟨d, rfl, q⟩ := q1
  cases r1
  exact wpAny_truthy_bool ⟨H1, I1, q⟩
theorem zjJ {e : Expr} {t : TE} (h : PE X e t) (he : ∀ whole, isTrue e X.env whole = (do let v <- whole; standAt e.pos; holding [v] (truthy v)) := by intro _; rfl) : PT X e (tB t) := by
  intro pins s σ H Q I hw
  refine isTrue_plain (thn (h pins s σ H _ I hw) fun v s1 ⟨x, H1, I1, r1, q1⟩ => ?_) (he _)
  obtain ⟨d, rfl, q⟩ := q1
  cases r1
  exact wpAny_truthy_bool ⟨H1, I1, q⟩
variable {tA tB' : TT} {jm : List Expr}
def zk3 (t u : TT) : TT := fun σ H Q => t σ H fun c H1 => if c = true then u σ H1 Q else Q false H1
def tOr (t u : TT) : TT := fun σ H Q => t σ H fun c H1 => if c = true then Q true H1 else u σ H1 Q
def zlF (t : TT) : TT := fun σ H Q => t σ H fun c H1 => Q (!c) H1
theorem zbn (ha : PT X a tA) : PW X (.BoolOp .And [a] pos) tA := by
  intro wh pins s σ H Q I h
  refine isTrue_and (thn (ha pins s σ H Q I h) fun c s1 e => ?_)
  cases c with
  | true => exact isTrue_and_nil e
  | false => exact e
theorem zab (ha : PT X a tA) : PW X (.BoolOp .Or [a] pos) tA := by
  intro wh pins s σ H Q I h
  refine isTrue_or (thn (ha pins s σ H Q I h) fun c s1 e => ?_)
  cases c with
  | false => exact isTrue_or_nil e
  | true => exact e
theorem zey (ha : PT X a tA) (hb : PW X (.BoolOp .And (b :: jm) pos) tB') : PW X (.BoolOp .And (a :: b :: jm) pos) (zk3 tA tB') := by
  intro wh pins s σ H Q I h
  refine isTrue_and (thn (ha pins s σ H _ I h) fun c s1 ⟨H1, I1, q1⟩ => ?_)
  cases c with
  | true => exact hb wh pins s1 σ H1 Q I1 q1
  | false => exact ⟨H1, I1, q1⟩
theorem zdi (ha : PT X a tA) (hb : PW X (.BoolOp .Or (b :: jm) pos) tB') : PW X (.BoolOp .Or (a :: b :: jm) pos) (tOr tA tB') := by
  intro wh pins s σ H Q I h
  refine isTrue_or (thn (ha pins s σ H _ I h) fun c s1 ⟨H1, I1, q1⟩ => ?_)
  cases c with
  | true => exact ⟨H1, I1, q1⟩
  | false => exact hb wh pins s1 σ H1 Q I1 q1
theorem zjZ (ha : PT X a tA) : PT X (.UnaryOp .Not a pos) (zlF tA) := by
  intro pins s σ H Q I h
  exact isTrue_not (ha pins s σ H (fun c H1 => Q (!c) H1) I h)
def zkz (ta tb : TE) : TE := fun σ H Q => ta σ H fun x H1 => ∃ c, x = .bl c /\ if c = true then tb σ H1 Q else Q (.bl false) H1
theorem zjh (ha : PE X a ta) (hb : PE X (.BoolOp .And (b :: jm) pos) tb) : PE X (.BoolOp .And (a :: b :: jm) pos) (zkz ta tb) := by
  intro pins s σ H Q I h
  refine BoolOp_and (thn (ha pins s σ H _ I h) fun v s1 ⟨x, H1, I1, r1, q1⟩ => ?_)
  obtain ⟨c, rfl, q1⟩ := q1
  cases r1
  refine wpAny_truthy_bool ?_
  cases c with
  | true => exact hb pins s1 σ H1 Q I1 q1
  | false => exact ⟨.bl false, H1, I1, rfl, q1⟩
def tIf (t : TT) (ta tb : TE) : TE := fun σ H Q => t σ H fun c H1 => if c = true then ta σ H1 Q else tb σ H1 Q
theorem vt {c : Expr} (hc : PT X c tA) (ha : PE X a ta) (hb : PE X b tb) : PE X (.IfExp c a b pos) (tIf tA ta tb) := by
  intro pins s σ H Q I h
  refine wpAny_IfExp (thn (hc pins s σ H _ I h) fun d s1 ⟨H1, I1, q1⟩ => ?_)
  cases d with
  | true => exact ha pins s1 σ H1 Q I1 q1
  | false => exact hb pins s1 σ H1 Q I1 q1
end
end L2
namespace L2
open PySem PySem.Spec PyProof.Rows
def SqL (K : PySem.W.Frag) (H : Hp) (a : Addr) (xs : List V) : Prop :=
  Rd H a (.lst xs) \/
    ∃ (o : Obj) (its : Array Value) (n : Nat), K.lookup a = some o /\ o.cls = .type "list" /\ o.dict = none /\ o.data = .seq its n /\ its.size <= sizeLine /\ z7 xs its.toList
def SqT (K : PySem.W.Frag) (H : Hp) (a : Addr) (xs : List V) : Prop :=
  Rd H a (.tup xs) \/
    ∃ (o : Obj) (its : Array Value) (n : Nat), K.lookup a = some o /\ o.cls = .type "tuple" /\ o.data = .seq its n /\ its.size <= sizeLine /\ z7 xs its.toList
def zlf : Value -> Option V
  | .none => some .non
  | .bool b => some (.bl b)
  | .int i _ => some (.int i)
  | .str x _ => some (.str x)
  | .bytes b _ => some (.byt b)
  | .float b _ => some (.flt b)
  | .ref a => some (.ref a)
  | .type n => some (.ty n)
  | _ => none
theorem yc.abs {x : V} {u : Value} (r : yc x u) : zlf u = some x := by
  cases x with
  | non => cases r; rfl
  | bl _ => cases r; rfl
  | int _ => obtain ⟨t, rfl⟩ := r; rfl
  | str _ => obtain ⟨t, rfl⟩ := r; rfl
  | byt _ => obtain ⟨t, rfl⟩ := r; rfl
  | flt _ => obtain ⟨t, rfl⟩ := r; rfl
  | ref _ => cases r; rfl
  | ty _ => cases r; rfl
theorem yc.inj {x y : V} {u : Value} (r : yc x u) (q : yc y u) : x = y := Option.some.inj (r.abs.symm.trans q.abs)
theorem z7.inj : ∀ {xs ys : List V} {us : List Value}, z7 xs us -> z7 ys us -> xs = ys
  | _, _, _, .nil, .nil => rfl
  | _, _, _, .cons r t, .cons r' t' => by rw [r.inj r', z7.inj t t']
section
variable {X : Cx} {pins : List (Addr × Obj)} {σ : St} {H : Hp} {s : Shared} {a : Addr} {xs ys : List V}
theorem SqL.of {K : PySem.W.Frag} (h : H a = some (.lst xs)) : SqL K H a xs := .inl (.inl h)
theorem SqT.of {K : PySem.W.Frag} (h : H a = some (.tup xs)) : SqT K H a xs := .inl (.inl h)
theorem Inv.list (I : Inv X pins σ H s) (h : SqL X.K H a xs) : ∃ its : List Value, z7 xs its /\ PlainL s.heap a its.toArray /\ xs.length <= sizeLine := by
  rcases h with h | ⟨o, its, n, hk, hc, hd, hs, hz, r⟩
  . obtain ⟨z, its, n, r, e⟩ := h.ok I.hok
    exact ⟨its, r, ⟨_, n, e, rfl, rfl, rfl⟩, z⟩
  . refine ⟨its.toList, r, ⟨o, n, I.kIn a o hk, hc, hd, by simpa using hs⟩, ?_⟩
    have e := r.length
    simp only [Array.length_toList] at e
    omega
theorem Inv.tuple (I : Inv X pins σ H s) (h : SqT X.K H a xs) : ∃ its : List Value, z7 xs its /\ IsTup s.heap a its.toArray /\ xs.length <= sizeLine := by
  rcases h with h | ⟨o, its, n, hk, hc, hs, hz, r⟩
  . obtain ⟨z, its, r, p⟩ := h.ok I.hok
    exact ⟨its, r, p, z⟩
  . refine ⟨its.toList, r, ⟨o, I.kIn a o hk, hc, n, by simpa using hs⟩, ?_⟩
    have e := r.length
    simp only [Array.length_toList] at e
    omega
theorem Inv.list_inj (I : Inv X pins σ H s) (h : SqL X.K H a xs) (h' : SqL X.K H a ys) : xs = ys := by
  obtain ⟨its, r, ⟨o, n, e, _, _, d⟩, _⟩ := I.list h
  obtain ⟨its', r', ⟨o', n', e', _, _, d'⟩, _⟩ := I.list h'
  rw [e] at e'; cases e'
  rw [d] at d'
  injection d' with d1 _
  have : its = its' := by simpa using congrArg Array.toList d1
  subst this
  exact r.inj r'
theorem Inv.tuple_inj (I : Inv X pins σ H s) (h : SqT X.K H a xs) (h' : SqT X.K H a ys) : xs = ys := by
  obtain ⟨its, r, ⟨o, e, _, n, d⟩, _⟩ := I.tuple h
  obtain ⟨its', r', ⟨o', e', _, n', d'⟩, _⟩ := I.tuple h'
  rw [e] at e'; cases e'
  rw [d] at d'
  injection d' with d1 _
  have : its = its' := by simpa using congrArg Array.toList d1
  subst this
  exact r.inj r'
end
abbrev Cx.wish (X : Cx) (E : Value -> Shared -> Prop) : Cx := { X with xe := E }
abbrev Cx.nox (X : Cx) : Cx := X.wish fun _ _ => False
theorem Cx.Ok.wish {X : Cx} (ok : X.Ok) (E : Value -> Shared -> Prop) : (X.wish E).Ok :=
  ⟨ok.mod, ok.kind, ok.glob, ok.blt, ok.above, ok.inj, ok.has, ok.cab, ok.hd, ok.frames, ok.stk, ok.exf, ok.bs, ok.bsz, ok.noex, ok.exfs, ok.funs, ok.frf⟩
theorem Cx.Ok.unwish {X : Cx} {E : Value -> Shared -> Prop} (ok : (X.wish E).Ok) : X.Ok :=
  ⟨ok.mod, ok.kind, ok.glob, ok.blt, ok.above, ok.inj, ok.has, ok.cab, ok.hd, ok.frames, ok.stk, ok.exf, ok.bs, ok.bsz, ok.noex, ok.exfs, ok.funs, ok.frf⟩
section
variable {X : Cx} {pins : List (Addr × Obj)} {σ : St} {H : Hp} {s : Shared} {E : Value -> Shared -> Prop}
theorem Inv.wish (I : Inv X pins σ H s) (E : Value -> Shared -> Prop) : Inv (X.wish E) pins σ H s := ⟨I.ok.wish E, I.os, I.bare, I.base, I.loc, I.cell, I.free, I.freeC, I.pin, I.hok, I.len⟩
theorem Inv.unwish (I : Inv (X.wish E) pins σ H s) : Inv X pins σ H s := ⟨I.ok.unwish, I.os, I.bare, I.base, I.loc, I.cell, I.free, I.freeC, I.pin, I.hok, I.len⟩
theorem SP.unwish {D : zez} {f : Flow} {s' : Shared} (h : SP (X.wish E) pins D f s') : SP X pins D f s' := by
  cases f with
  | next => obtain ⟨σ', H', I, q⟩ := h; exact ⟨σ', H', I.unwish, q⟩
  | brk => obtain ⟨σ', H', I, q⟩ := h; exact ⟨σ', H', I.unwish, q⟩
  | cont => obtain ⟨σ', H', I, q⟩ := h; exact ⟨σ', H', I.unwish, q⟩
  | ret u => obtain ⟨v, σ', H', I, r, q⟩ := h; exact ⟨v, σ', H', I.unwish, r, q⟩
theorem PE.nox {e : Expr} {t : TE} (h : PE X.nox e t) : PE X e t := fun pins s σ H Q I hw =>
  wpAny_mono (h pins s σ H Q (I.wish _) hw) (fun _ _ ⟨v, H', I', r, q⟩ => ⟨v, H', I'.unwish, r, q⟩) fun _ _ z => False.elim z
theorem PT.nox {e : Expr} {t : TT} (h : PT X.nox e t) : PT X e t := fun pins s σ H Q I hw =>
  wpAny_mono (h pins s σ H Q (I.wish _) hw) (fun _ _ ⟨H', I', q⟩ => ⟨H', I'.unwish, q⟩) fun _ _ z => False.elim z
theorem PSs.nox {st : List Stmt} {t : TS} (h : PSs X.nox st t) : PSs X st t := fun pins s σ H D I hw =>
  wpAny_mono (h pins s σ H D (I.wish _) hw) (fun _ _ q => q.unwish) fun _ _ z => False.elim z
end
section
variable {X : Cx} {st : Stmt} {jm : List Stmt} {t u : TS} {e : Expr} {te : TE} {pos : Pos}
def zkx : TS := fun D σ H => D.nx σ H
def zls (t u : TS) : TS := fun D σ H => t { D with nx := u D } σ H
theorem zH : PSs X [] zkx := fun _ _ σ H _ I h => wpAny_execs_nil ⟨σ, H, I, h⟩
theorem zd (h1 : PS X st t) (h2 : PSs X jm u) : PSs X (st :: jm) (zls t u) := by
  intro pins s σ H D I h
  refine wpAny_execs_cons (thn (h1 pins s σ H { D with nx := u D } I h) fun f s1 q => ?_)
  cases f with
  | next =>
    obtain ⟨σ', H', I', q⟩ := q
    exact h2 pins s1 σ' H' D I' q
  | ret v => exact q
  | brk => exact q
  | cont => exact q
theorem zg (h1 : PS X st t) : PSs X [st] t := by
  intro pins s σ H D I h
  refine wpAny_execs_cons (thn (h1 pins s σ H D I h) fun f s1 q => ?_)
  cases f with
  | next => exact wpAny_execs_nil q
  | ret v => exact q
  | brk => exact q
  | cont => exact q
theorem Inv.quiet {pins : List (Addr × Obj)} {σ : St} {H : Hp} {s : Shared} (I : Inv X pins σ H s) : interactive X.env = false := by simp [interactive, I.ok.kind]
def zkT (te : TE) : TS := fun D σ H => te σ H fun _ H1 => D.nx σ H1
theorem yj (he : PE X e te) (hs : swapsWith e none pos.line X.env = pure false := by rfl) : PS X (.Expr e pos) (zkT te) := by
  intro pins s σ H D I h
  exact wpAny_Expr_any (thn (he pins s σ H _ I h) fun v s1 ⟨x, H1, I1, r1, q1⟩ => ⟨σ, H1, I1, q1⟩) I.quiet hs
def zkX (te : TE) : TS := fun D σ H => te σ H D.rt
theorem zB (he : PE X e te) : PS X (.Return (some e) pos) (zkX te) := by
  intro pins s σ H D I h
  exact wpAny_Return_some (thn (he pins s σ H _ I h) fun v s1 ⟨x, H1, I1, r1, q1⟩ => ⟨x, σ, H1, I1, r1, q1⟩)
def zlx (c : TT) (t u : TS) : TS := fun D σ H => c σ H fun b H1 => if b = true then t D σ H1 else u D σ H1
theorem ye {c : Expr} {a b : List Stmt} {tc : TT} (hc : PT X c tc) (ha : PSs X a t) (hb : PSs X b u) : PS X (.If c a b pos) (zlx tc t u) := by
  intro pins s σ H D I h
  refine wpAny_If (thn (hc pins s σ H _ I h) fun d s1 ⟨H1, I1, q1⟩ => ?_)
  cases d with
  | true => exact ha pins s1 σ H1 D I1 q1
  | false => exact hb pins s1 σ H1 D I1 q1
end
abbrev TG := V -> St -> Hp -> (St -> Hp -> Prop) -> Prop
abbrev TGs := List V -> St -> Hp -> (St -> Hp -> Prop) -> Prop
def PG (X : Cx) (target : Expr) (t : TG) : Prop :=
  ∀ (pins : List (Addr × Obj)) (s : Shared) (σ : St) (H : Hp) (v : V) (u : Value) (Q : St -> Hp -> Prop), Inv X pins σ H s -> yc v u -> t v σ H Q ->
    wpAny (model X.prog X.w) X.A (assign target X.env u) (fun _ s' => ∃ σ' H', Inv X pins σ' H' s' /\ Q σ' H') X.xe s
def PGs (X : Cx) (ts : List Expr) (t : TGs) : Prop :=
  ∀ (pins : List (Addr × Obj)) (s : Shared) (σ : St) (H : Hp) (vs : List V) (us : List Value) (Q : St -> Hp -> Prop), Inv X pins σ H s -> z7 vs us -> t vs σ H Q ->
    wpAny (model X.prog X.w) X.A (assignInOrder ((assignEach ts X.env).map (·.2)) us) (fun _ s' => ∃ σ' H', Inv X pins σ' H' s' /\ Q σ' H') X.xe s
abbrev zkP := V -> V -> V -> Hp -> (Hp -> Prop) -> Prop
def zk6 (X : Cx) (t : zkP) : Prop :=
  ∀ (pins : List (Addr × Obj)) (s : Shared) (σ : St) (H : Hp) (o i v : V) (ov iv u : Value) (Q : Hp -> Prop), Inv X pins σ H s -> yc o ov -> yc i iv -> yc v u -> t o i v H Q ->
    wpAny (model X.prog X.w) X.A (setItem ov iv u) (fun _ s' => ∃ H', Inv X pins σ H' s' /\ Q H') X.xe s
abbrev TIp := V -> V -> Hp -> VK -> Prop
def PIp (X : Cx) (op : Operator) (t : TIp) : Prop :=
  ∀ (pins : List (Addr × Obj)) (s : Shared) (σ : St) (H : Hp) (x y : V) (v u : Value) (Q : VK), Inv X pins σ H s -> yc x v -> yc y u -> t x y H Q ->
    wpAny (model X.prog X.w) X.A (inplaceOp op v u) (EP X pins σ Q) X.xe s
section
variable {X : Cx} {pos : Pos}
def zeU (i : Nat) : TG := fun v σ H Q => Q (σ.set i (some v)) H
theorem yz {i : Nat} {x : Str} (hN : X.N.Nodup) (hi : X.N[i]? = some x) (hx : Loc X.env.scope x) (hf : X.fn x = true \/ X.env.scope.names.lookup x = some .local := by first | exact .inl rfl | exact .inr rfl | assumption) : PG X (.Name x pos) (zeU i) := by
  intro pins s σ H v u Q I r h
  exact wpAny_assign_Name (vh I hN hi hx r (fun s' I' => ⟨_, H, I', h⟩) hf)
def zlI : TGs := fun vs σ H Q => vs = [] /\ Q σ H
def zko (t : TG) (u : TGs) : TGs := fun vs σ H Q => ∃ v r, vs = v :: r /\ t v σ H fun σ' H' => u r σ' H' Q
theorem zdG : PGs X [] zlI := by
  intro pins s σ H vs us Q I r h
  obtain ⟨e, h⟩ := h
  subst e
  cases r
  exact assignInOrder_nil ⟨σ, H, I, h⟩
theorem jx {e : Expr} {es : List Expr} {t : TG} {u : TGs} (h1 : PG X e t) (h2 : PGs X es u)
    (hs : (assignEach (e :: es) X.env).map (·.2) = assign e X.env :: (assignEach es X.env).map (·.2) := by rfl) : PGs X (e :: es) (zko t u) := by
  intro pins s σ H vs us Q I r h
  obtain ⟨v, vr, e1, h⟩ := h
  subst e1
  cases r with
  | cons r rr =>
    rw [hs]
    refine assignInOrder_cons (thn (h1 pins s σ H _ _ _ I r h) fun _ s1 ⟨σ1, H1, I1, q1⟩ => ?_)
    exact h2 pins s1 σ1 H1 _ _ Q I1 rr q1
def zk2 (K : PySem.W.Frag) (n : Nat) (t : TGs) : TG := fun v σ H Q => ∃ a xs, v = .ref a /\ SqT K H a xs /\ xs.length = n /\ t xs σ H Q
theorem zgF {es : List Expr} {k : Nat} {t : TGs} {n : Nat} (hc : X.calm = true) (h : PGs X es t)
    (hn : (assignEach es X.env).length = n := by rfl) (hst : (assignEach es X.env).findIdx? (·.1) = none := by rfl) : PG X (.Tuple es k pos) (zk2 X.K n t) := by
  intro pins s σ H v u Q I r hw
  obtain ⟨a, xs, e1, hq, hl, hw⟩ := hw
  subst e1
  cases r
  obtain ⟨its, rv, ht, hz⟩ := I.tuple hq
  refine assign_Tuple_tuple (I.ok.hd hc) ht (by simp [hn, <- hl, rv.length]) hst fun h' hx => ?_
  have I1 : Inv X pins σ H { s with heap := h' } := I.kept (t' := s.toks) fun b o e => hx b o (Nat.ne_of_lt (Heap.lt_size e)) e
  exact h pins _ σ H xs _ Q I1 (by simpa using rv) hw
def zlL (to ti : TE) (t : zkP) : TG := fun v σ H Q => to σ H fun o H1 => ti σ H1 fun i H2 => t o i v H2 fun H3 => Q σ H3
theorem zeN {o i : Expr} {to ti : TE} {t : zkP} (ho : PE X o to) (hi : PE X i ti) (hs : zk6 X t)
    (ha : ∀ v, assign (.Subscript o i pos) X.env v = (do
      let ov <- holding [v] (eval o X.env)
      let iv <- holding [v, ov] (eval i X.env)
      standAt pos
      holding [v, ov, iv] (setItem ov iv v)
      release [v, ov, iv] []) := by intro _; rfl) : PG X (.Subscript o i pos) (zlL to ti t) := by
  intro pins s σ H v u Q I r h
  rw [ha]
  refine wpAny_bind (wpAny_holding (thn (ho pins s σ H _ I h) fun ov s1 ⟨x, H1, I1, r1, q1⟩ => ?_))
  refine wpAny_bind (wpAny_holding (thn (hi pins s1 σ H1 _ I1 q1) fun iv s2 ⟨y, H2, I2, r2, q2⟩ => ?_))
  refine wpAny_bind (wpAny_standAt (wpAny_bind (wpAny_holding (thn (hs pins s2 σ H2 x y v ov iv u _ I2 r1 r2 r q2) fun _ s3 ⟨H3, I3, q3⟩ => ?_))))
  exact wpAny_release ⟨σ, H3, I3, q3⟩
def zkV (te : TE) (g : TG) : TS := fun D σ H => te σ H fun x H1 => g x σ H1 D.nx
theorem zeA {tg e : Expr} {te : TE} {g : TG} (he : PE X e te) (hg : PG X tg g) (hs : swapsWithSole [tg] e pos.line X.env = pure false := by rfl) (hw : swappedStores [tg] e X.env = pure none := by rfl)
    (h1 : (assignEach [tg] X.env).map (·.2) = [assign tg X.env] := by rfl) : PS X (.Assign [tg] e pos) (zkV te g) := by
  intro pins s σ H D I h
  refine wpAny_Assign_stores (thn (he pins s σ H _ I h) fun v s1 ⟨x, H1, I1, r1, q1⟩ => ?_) hs hw
  rw [h1]
  exact thn (hg pins s1 σ H1 x v _ I1 r1 q1) fun _ s2 q => q
theorem zw {i : Nat} {x : Str} {e : Expr} {te : TE} {pos' : Pos} (hN : X.N.Nodup) (hi : X.N[i]? = some x) (hx : Loc X.env.scope x) (he : PE X e te) (hs : swapsWith e (some (.Name x pos')) pos.line X.env = pure false := by rfl) (hf : X.fn x = true \/ X.env.scope.names.lookup x = some .local := by first | exact .inl rfl | exact .inr rfl | assumption) :
    PS X (.Assign [.Name x pos'] e pos) (zkV te (zeU i)) := by
  intro pins s σ H D I h
  refine wpAny_Assign_Name (thn (he pins s σ H _ I h) fun v s1 ⟨y, H1, I1, r1, q1⟩ => ?_) hs
  exact vh I1 hN hi hx r1 (fun s2 I2 => ⟨_, H1, I2, q1⟩) hf
def zlj (i : Nat) (te : TE) (ti : TIp) : TS := fun D σ H => ∃ x, σ[i]? = some (some x) /\ te σ H fun y H1 => ti x y H1 fun z H2 => D.nx (σ.set i (some z)) H2
theorem zew {i : Nat} {x : Str} {e : Expr} {te : TE} {op : Operator} {ti : TIp} {pos' : Pos} (hN : X.N.Nodup) (hi : X.N[i]? = some x) (hx : Loc X.env.scope x) (he : PE X e te) (ho : PIp X op ti) (hf : X.fn x = true \/ X.env.scope.names.lookup x = some .local := by first | exact .inl rfl | exact .inr rfl | assumption) :
    PS X (.AugAssign (.Name x pos') op e pos) (zlj i te ti) := by
  intro pins s σ H D I h
  obtain ⟨v, e1, h⟩ := h
  obtain ⟨m, hn, hl⟩ := I.loc
  have vis : Vis X.env.scope x := by rcases hx with k | k; exact .inl k; exact .inr (.inl k)
  obtain ⟨u, r, l⟩ := hl i x v hi e1 vis
  refine wpAny_AugAssign_Name ?_
  have go : wpAny (model X.prog X.w) X.A (eval e X.env) (fun w s₂ => wpAny (model X.prog X.w) X.A (inplaceOp op u w) (fun r s₃ => wpAny (model X.prog X.w) X.A (storeName X.env x r) (fun _ => SP X pins D .next) X.xe s₃) X.xe s₂) X.xe s := by
    refine thn (he pins s σ H _ I h) fun w s1 ⟨y, H1, I1, r1, q1⟩ => ?_
    refine thn (ho pins s1 σ H1 v y u w _ I1 r r1 q1) fun z s2 ⟨zv, H2, I2, r2, q2⟩ => ?_
    exact vh I2 hN hi hx r2 (fun s3 I3 => ⟨_, H2, I3, q2⟩) hf
  rcases l with ⟨hk, hm⟩ | ⟨hk, c, hc, hcell⟩
  . exact wpAny_loadName_local I.ok.kind hk hn hm go
  . rcases hk with hk | hk
    . exact wpAny_loadName_cell I.ok.kind hk hc hcell go
    . rcases hx with k | k
      . have : X.env.scope.names.lookup x = some .free := hk
        rw [k] at this; cases this
      . have : X.env.scope.names.lookup x = some .free := hk
        rw [k] at this; cases this
def ipI (f : Int -> Int -> Int) : TIp := fun x y H Q => ∃ i j, x = .int i /\ y = .int j /\ Q (.int (f i j)) H
theorem ziY : PIp X .Add (ipI fun i j => i + j) := by
  intro pins s σ H x y v u Q I r1 r2 h
  obtain ⟨i, j, e1, e2, q⟩ := h
  subst e1; subst e2
  obtain ⟨t, rfl⟩ := r1
  obtain ⟨t', rfl⟩ := r2
  exact iadd_int ⟨.int _, H, I.tok _, ⟨_, rfl⟩, q⟩
theorem zji : PIp X .Sub (ipI fun i j => i - j) := by
  intro pins s σ H x y v u Q I r1 r2 h
  obtain ⟨i, j, e1, e2, q⟩ := h
  subst e1; subst e2
  obtain ⟨t, rfl⟩ := r1
  obtain ⟨t', rfl⟩ := r2
  exact isub_int ⟨.int _, H, I.tok _, ⟨_, rfl⟩, q⟩
end
section
variable {X : Cx} {pos : Pos}
def zjp (c : TT) (tb : TS) : TS := fun D σ H => ∃ W : Nat -> St -> Hp -> Prop, (∃ m, W m σ H) /\ ∀ m σ H, W m σ H ->
  c σ H fun b H1 => if b = true then ∃ N : St -> Hp -> Prop, (∀ σ' H', N σ' H' -> ∃ m', m' < m /\ W m' σ' H') /\ tb { D with nx := N, ct := N, bk := D.nx } σ H1 else D.nx σ H1
theorem qB {c : Expr} {body : List Stmt} {tc : TT} {tb : TS} (hp : PassesOwn (model X.prog X.w) X.A X.env X.xe) (hc : PT X c tc) (hb : PSs X body tb) : PS X (.While c body [] pos) (zjp tc tb) := by
  intro pins s σ H D I h
  obtain ⟨W, ⟨m0, w0⟩, turn⟩ := h
  refine wpAny_While (codeAny_whileLoop (fun n s' => ∃ σ' H', Inv X pins σ' H' s' /\ W n σ' H') ?_ m0 ⟨σ, H, I, w0⟩)
  rintro n s1 ⟨σ1, H1, I1, w1⟩
  refine wpAny_passesOwn hp (thn (hc pins s1 σ1 H1 _ I1 (turn n σ1 H1 w1)) fun b s2 ⟨H2, I2, q2⟩ => ?_)
  cases b with
  | true =>
    obtain ⟨N, hN, q2⟩ := q2
    rw [if_pos rfl]
    refine wpAny_passesOwn hp (thn (hb pins s2 σ1 H2 _ I2 q2) fun f s3 q3 => ?_)
    cases f with
    | next =>
      obtain ⟨σ3, H3, I3, n3⟩ := q3
      obtain ⟨m', hm, w3⟩ := hN σ3 H3 n3
      exact ⟨m', hm, σ3, H3, I3, w3⟩
    | cont =>
      obtain ⟨σ3, H3, I3, n3⟩ := q3
      obtain ⟨m', hm, w3⟩ := hN σ3 H3 n3
      exact ⟨m', hm, σ3, H3, I3, w3⟩
    | brk => exact q3
    | ret v => exact q3
  | false =>
    rw [if_neg Bool.false_ne_true]
    exact wpAny_execs_nil ⟨σ1, H2, I2, q2⟩
end
structure It where
  go : Nat -> Hp -> Prop
  yld : Nat -> Hp -> V -> Hp -> Prop
  stop : Nat -> Hp -> Prop
def zdC (X : Cx) (pins : List (Addr × Obj)) (H : Hp) (b : Addr) : Prop :=
  H b = none /\ b ≠ X.env.locals /\ b ∉ X.fs /\ (b ∈ X.ex \/ X.s_0.heap.objs.size <= b) /\ (∀ x c, X.env.cells.lookup x = some c -> c ≠ b) /\ ∀ p ∈ X.pn ++ pins, p.1 ≠ b
theorem Inv.fpOk {X : Cx} {pins : List (Addr × Obj)} {σ : St} {H H' : Hp} {s : Shared} {b : Addr} (I : Inv X pins σ H s) (hb : s.heap.objs.size <= b) (hn : H' b = none) : zdC X pins H' b := by
  refine ⟨hn, Nat.ne_of_gt (Nat.lt_of_lt_of_le I.lt hb), I.nofs hb, .inr (Nat.le_trans I.sz hb), fun x c e z => ?_, fun p hp z => ?_⟩
  . obtain ⟨v, q⟩ := I.cell x c e
    exact absurd (Nat.lt_of_lt_of_le q.lt (by rw [z]; exact hb)) (Nat.lt_irrefl _)
  . exact absurd (Nat.lt_of_lt_of_le (Heap.lt_size (I.pin p hp).1) (by rw [z]; exact hb)) (Nat.lt_irrefl _)
structure zio (P : Program) (w : World) (K : PySem.W.Frag) (tg : Expr) (J : It) (fp : List Addr) (it : Addr) (tn : Nat -> Heap -> Prop) : Prop where
  mem : it ∈ fp
  obj : ∀ i h, tn i h -> ∀ b ∈ fp, ∃ o, h.get? b = some o /\ ∀ v, o.data ≠ .cell v
  keep : ∀ i h h', tn i h -> (∀ b ∈ fp, ∀ o, h.get? b = some o -> h'.get? b = some o) -> tn i h'
  item : ∀ (X : Cx), X.prog = P -> X.w = w -> X.K = K -> X.calm = true -> ∀ (i : Nat) (pins : List (Addr × Obj)) (s : Shared) (σ : St) (H : Hp) (E : Value -> Shared -> Prop), Inv X pins σ H s -> (∀ b ∈ fp, zdC X pins H b) -> tn i s.heap -> J.go i H ->
    wpAny (model P w) X.A (pyNext (.ref it)) (fun r s1 => ∃ u, r = some u /\
      wpAny (model P w) X.A (letOwnedTupleGo tg (.ref it) u) (fun _ s2 => ∃ x H', Inv X pins σ H' s2 /\ yc x u /\ J.yld i H x H' /\ tn (i + 1) s2.heap /\ ∀ b ∈ fp, H' b = none) E s1) E s
  done : ∀ (X : Cx), X.prog = P -> X.w = w -> X.K = K -> X.calm = true -> ∀ (i : Nat) (pins : List (Addr × Obj)) (s : Shared) (σ : St) (H : Hp) (E : Value -> Shared -> Prop), Inv X pins σ H s -> (∀ b ∈ fp, zdC X pins H b) -> tn i s.heap -> J.stop i H ->
    wpAny (model P w) X.A (pyNext (.ref it)) (fun r s1 => r = none /\ Inv X pins σ H s1) E s
  self : ∀ (A : Around) (i : Nat) (s : Shared) (Q : Value -> Shared -> Prop) (E : Value -> Shared -> Prop), tn i s.heap -> Q (.ref it) s -> wpAny (model P w) A (pyIter (.ref it)) Q E s
abbrev TI := St -> Hp -> (It -> Hp -> Prop) -> Prop
def PIE (X : Cx) (pins : List (Addr × Obj)) (σ : St) (tg : Expr) (R : It -> Hp -> Prop) (itv : Value) (s2 : Shared) : Prop :=
  ∃ (it : Addr) (fp : List Addr) (tn : Nat -> Heap -> Prop) (J : It) (H' : Hp), itv = .ref it /\ Inv X pins σ H' s2 /\ zio X.prog X.w X.K tg J fp it tn /\ tn 0 s2.heap /\ (∀ b ∈ fp, zdC X pins H' b) /\ R J H'
def PI (X : Cx) (tg iter : Expr) (wi : TI) : Prop :=
  ∀ (pins : List (Addr × Obj)) (s : Shared) (σ : St) (H : Hp) (R : It -> Hp -> Prop), Inv X pins σ H s -> wi σ H R ->
    wpAny (model X.prog X.w) X.A (eval iter X.env) (fun v s1 => wpAny (model X.prog X.w) X.A (pyIter v) (PIE X pins σ tg R) X.xe s1) X.xe s
theorem zfl {M : Model} {A : Around} {E : Value -> Shared -> Prop} {s : Shared} {tg : Expr} {it : Addr} {u : Value} {o : Obj} {n : String} {vs : Array Value} {Q : Unit -> Shared -> Prop} (ho : s.heap.get? it = some o) (hc : o.cls = .type n) (hd : o.data = .fields vs)
    (hn : ["enumerate", "zip", "dict_itemiterator", "dict_reverseitemiterator", "odict_iterator", "itertools.zip_longest", "itertools.pairwise"].contains n = false) (hQ : Q () s) : wpAny M A (letOwnedTupleGo tg (.ref it) u) Q E s := by
  unfold letOwnedTupleGo
  cases tg <;> first
    | exact wpAny_pure hQ
    | (cases u <;> first
        | exact wpAny_pure hQ
        | (refine wpAny_bind (wpAny_load ho ?_)
           rw [hc, hd]
           show wpAny M A (if (["enumerate", "zip", "dict_itemiterator", "dict_reverseitemiterator", "odict_iterator", "itertools.zip_longest", "itertools.pairwise"].contains n && vs[0]? == some (rawInt _)) = true then _ else _) Q E s
           rw [if_neg (by intro h; rw [hn, Bool.false_and] at h; cases h)]
           exact wpAny_pure hQ))
def Itl (K : PySem.W.Frag) (a : Addr) : It :=
  ⟨fun i H => ∃ xs x, SqL K H a xs /\ xs[i]? = some x, fun i H x H' => H' = H /\ ∀ xs, SqL K H a xs -> xs[i]? = some x, fun i H => ∃ xs, SqL K H a xs /\ xs.length <= i⟩
def Itt (K : PySem.W.Frag) (a : Addr) : It :=
  ⟨fun i H => ∃ xs x, SqT K H a xs /\ xs[i]? = some x, fun i H x H' => H' = H /\ ∀ xs, SqT K H a xs -> xs[i]? = some x, fun i H => ∃ xs, SqT K H a xs /\ xs.length <= i⟩
def Itr (lo : Int) (n : Nat) : It := ⟨fun i _ => i < n, fun i H x H' => H' = H /\ x = .int (lo + i), fun i _ => n <= i⟩
theorem zdo {P : Program} {w : World} {K : PySem.W.Frag} {tg : Expr} (a it : Addr) : zio P w K tg (Itl K a) [it] it (fun i h => h.IsListIter it a i) where
  mem := by simp
  obj := fun i h st b hb => by
    have e : b = it := by simpa using hb
    subst e
    obtain ⟨o, e, c, d⟩ := st
    exact ⟨o, e, fun v z => by rw [d] at z; cases z⟩
  keep := fun i h h' st k => st.at fun o e => k it (by simp) o e
  item := by
    intro X hP hw hK hc i pins s σ H E I hf st hg
    subst hP hw hK
    obtain ⟨xs, x, hq, hx⟩ := hg
    obtain ⟨its, rv, p, hz⟩ := I.list hq
    obtain ⟨u, hu, ru⟩ := rv.get hx
    obtain ⟨f0, f1, f2, f3, f4, f5⟩ := hf it (by simp)
    refine wpAny_pyNext_list_item st p.isList (x := u) (by simpa using hu) fun h' st' sb => ?_
    have I1 : Inv X pins σ H { s with heap := h' } := I.turned (t' := s.toks) (fun b o hb e => (sb.2 b hb).trans e) f0 f1 f3 f4 f5
    obtain ⟨o, e, c, d⟩ := id st'
    exact ⟨u, rfl, zfl (s := { s with heap := h' }) e c d (by decide) ⟨x, H, I1, ru, ⟨rfl, fun ys hy => by rw [I.list_inj hy hq]; exact hx⟩, st', fun b hb => (hf b hb).1⟩⟩
  done := by
    intro X hP hw hK hc i pins s σ H E I hf st hg
    subst hP hw hK
    obtain ⟨xs, hq, hx⟩ := hg
    obtain ⟨its, rv, p, hz⟩ := I.list hq
    obtain ⟨f0, f1, f2, f3, f4, f5⟩ := hf it (by simp)
    have hl := rv.length
    exact wpAny_pyNext_list_end (I.ok.hd hc) st p.isList (by simp; omega) fun h' eb => ⟨rfl, I.turned (t' := s.toks) (fun b o hb e => eb b o hb e) f0 f1 f3 f4 f5⟩
  self := fun _ _ _ _ _ st h => wpAny_pyIter_listiter st h
theorem zcC {P : Program} {w : World} {K : PySem.W.Frag} {tg : Expr} (a it : Addr) : zio P w K tg (Itt K a) [it] it (fun i h => h.IsTupleIter it a i) where
  mem := by simp
  obj := fun i h st b hb => by
    have e : b = it := by simpa using hb
    subst e
    obtain ⟨o, e, c, d⟩ := st
    exact ⟨o, e, fun v z => by rw [d] at z; cases z⟩
  keep := fun i h h' st k => st.at fun o e => k it (by simp) o e
  item := by
    intro X hP hw hK hc i pins s σ H E I hf st hg
    subst hP hw hK
    obtain ⟨xs, x, hq, hx⟩ := hg
    obtain ⟨its, rv, p, hz⟩ := I.tuple hq
    obtain ⟨u, hu, ru⟩ := rv.get hx
    obtain ⟨f0, f1, f2, f3, f4, f5⟩ := hf it (by simp)
    refine wpAny_pyNext_tuple_item st (show s.heap.IsTuple a its.toArray from p) (x := u) (by simpa using hu) fun h' st' sb => ?_
    have I1 : Inv X pins σ H { s with heap := h' } := I.turned (t' := s.toks) (fun b o hb e => (sb.2 b hb).trans e) f0 f1 f3 f4 f5
    obtain ⟨o, e, c, d⟩ := id st'
    exact ⟨u, rfl, zfl (s := { s with heap := h' }) e c d (by decide) ⟨x, H, I1, ru, ⟨rfl, fun ys hy => by rw [I.tuple_inj hy hq]; exact hx⟩, st', fun b hb => (hf b hb).1⟩⟩
  done := by
    intro X hP hw hK hc i pins s σ H E I hf st hg
    subst hP hw hK
    obtain ⟨xs, hq, hx⟩ := hg
    obtain ⟨its, rv, p, hz⟩ := I.tuple hq
    obtain ⟨f0, f1, f2, f3, f4, f5⟩ := hf it (by simp)
    have hl := rv.length
    exact wpAny_pyNext_tuple_end (I.ok.hd hc) st (show s.heap.IsTuple a its.toArray from p) (by simp; omega) fun h' eb => ⟨rfl, I.turned (t' := s.toks) (fun b o hb e => eb b o hb e) f0 f1 f3 f4 f5⟩
  self := fun _ _ _ _ _ st h => wpAny_pyIter_tupleiter st h
theorem zcE {P : Program} {w : World} {K : PySem.W.Frag} {tg : Expr} (it : Addr) (lo : Int) (n : Nat) : zio P w K tg (Itr lo n) [it] it (fun i h => IsRangeIter h it (lo + (i : Nat) * 1) ((n : Int) - (i : Nat)) 1) where
  mem := by simp
  obj := fun i h st b hb => by
    have e : b = it := by simpa using hb
    subst e
    exact ⟨_, st, fun v z => by
      have z' : Data.fields _ = Data.cell v := z
      cases z'⟩
  keep := fun i h h' st k => k it (by simp) _ st
  item := by
    intro X hP hw hK hc i pins s σ H E I hf st hg
    subst hP hw hK
    obtain ⟨f0, f1, f2, f3, f4, f5⟩ := hf it (by simp)
    have W := Walks.range (prog := X.prog) (w := X.w) (I.ok.hd hc) it lo 1 n
    refine W.item i s _ _ hg st fun v h' tk hv st' kk => ?_
    obtain ⟨t, rfl⟩ := hv
    have I1 : Inv X pins σ H { s with heap := h', toks := tk } := I.turned (fun b o hb e => kk b o (by simpa using hb) e) f0 f1 f3 f4 f5
    refine ⟨_, rfl, zfl (s := { s with heap := h', toks := tk }) (n := "range_iterator") st' rfl rfl (by decide) ⟨.int (lo + i), H, I1, ⟨t, ?_⟩, ⟨rfl, rfl⟩, st', fun b hb => (hf b hb).1⟩⟩
    rw [Int.mul_one]
  done := by
    intro X hP hw hK hc i pins s σ H E I hf st hg
    subst hP hw hK
    obtain ⟨f0, f1, f2, f3, f4, f5⟩ := hf it (by simp)
    exact wpAny_pyNext_range_end (I.ok.hd hc) st (by have : n <= i := hg; omega) fun h' eb => ⟨rfl, I.turned (t' := s.toks) (fun b o hb e => eb b o hb e) f0 f1 f3 f4 f5⟩
  self := fun _ _ _ _ _ st h => wpAny_pyIter_rangeiter st h
end L2
namespace L2
open PySem PySem.Spec PyProof.Rows
section
variable {X : Cx} {tg : Expr}
def zkn (K : PySem.W.Frag) (tl : TE) : TI := fun σ H R => tl σ H fun x H1 => ∃ a, x = .ref a /\ (∃ xs, SqL K H1 a xs) /\ R (Itl K a) H1
def zld (K : PySem.W.Frag) (tl : TE) : TI := fun σ H R => tl σ H fun x H1 => ∃ a, x = .ref a /\ (∃ xs, SqT K H1 a xs) /\ R (Itt K a) H1
theorem zbr {l : Expr} {tl : TE} (hl : PE X l tl) : PI X tg l (zkn X.K tl) := by
  intro pins s σ H R I h
  refine thn (hl pins s σ H _ I h) fun v s1 ⟨x, H1, I1, r1, q1⟩ => ?_
  obtain ⟨a, e, ⟨xs, hq⟩, q⟩ := q1
  subst e
  cases r1
  obtain ⟨its, rv, p, hz⟩ := I1.list hq
  refine wpAny_pyIter_list p.isList ?_
  refine ⟨s1.heap.objs.size, [s1.heap.objs.size], _, _, H1, rfl, I1.kept (t' := s1.toks) fun b o e => Heap.get?_push_of_some _ e, zdo a _, ⟨_, Heap.get?_push_size _ rfl, rfl, rfl⟩, fun b hb => ?_, q⟩
  have e : b = s1.heap.objs.size := by simpa using hb
  subst e
  exact I1.fpOk (Nat.le_refl _) (I1.hok.fresh (Nat.le_refl _))
theorem zd8 {l : Expr} {tl : TE} (hl : PE X l tl) : PI X tg l (zld X.K tl) := by
  intro pins s σ H R I h
  refine thn (hl pins s σ H _ I h) fun v s1 ⟨x, H1, I1, r1, q1⟩ => ?_
  obtain ⟨a, e, ⟨xs, hq⟩, q⟩ := q1
  subst e
  cases r1
  obtain ⟨its, rv, p, hz⟩ := I1.tuple hq
  refine wpAny_pyIter_tuple (show s1.heap.IsTuple a its.toArray from p) ?_
  refine ⟨s1.heap.objs.size, [s1.heap.objs.size], _, _, H1, rfl, I1.kept (t' := s1.toks) fun b o e => Heap.get?_push_of_some _ e, zcC a _, ⟨_, Heap.get?_push_size _ rfl, rfl, rfl⟩, fun b hb => ?_, q⟩
  have e : b = s1.heap.objs.size := by simpa using hb
  subst e
  exact I1.fpOk (Nat.le_refl _) (I1.hok.fresh (Nat.le_refl _))
theorem zb4 {pins : List (Addr × Obj)} {σ : St} {H : Hp} {s : Shared} {R : It -> Hp -> Prop} {E : Value -> Shared -> Prop} {lo hi : Int} {t u v : Tok} {tk : Nat} (I : Inv X pins σ H s) (h1 : -(2 ^ 62) <= lo) (h2 : lo < 2 ^ 62) (h3 : -(2 ^ 62) <= hi) (h4 : hi < 2 ^ 62)
    (q : R (Itr lo (hi - lo).toNat) H) : wpAny (model X.prog X.w) X.A (pyIter (.ref s.heap.objs.size)) (PIE X pins σ tg R) E { s with heap := s.heap.push { cls := .type "range", data := .fields #[.int lo t, .int hi u, .int 1 v] }, toks := tk } := by
  refine wpAny_pyIter_range (IsRange.new ..) (small_one h1 h2 h3 h4) ?_
  have I1 : Inv X pins σ H { s with heap := s.heap.push { cls := .type "range", data := .fields #[.int lo t, .int hi u, .int 1 v] }, toks := tk } := I.kept fun b o e => Heap.get?_push_of_some _ e
  refine ⟨(s.heap.push { cls := .type "range", data := .fields #[.int lo t, .int hi u, .int 1 v] }).objs.size, [(s.heap.push { cls := .type "range", data := .fields #[.int lo t, .int hi u, .int 1 v] }).objs.size], _, _, H, rfl,
    I1.kept (t' := tk) fun b o e => Heap.get?_push_of_some _ e, zcE _ lo (hi - lo).toNat, ?_, fun b hb => ?_, q⟩
  . have e1 : lo + ((0 : Nat) : Int) * 1 = lo := by simp
    have e2 : (((hi - lo).toNat : Nat) : Int) - ((0 : Nat) : Int) = Builtin.Range.rangeSize lo hi 1 := by rw [rangeSize_one]; split <;> omega
    show IsRangeIter _ _ (lo + ((0 : Nat) : Int) * 1) ((((hi - lo).toNat : Nat) : Int) - ((0 : Nat) : Int)) 1
    rw [e1, e2]
    exact Heap.get?_push_size _ rfl
  . have e : b = (s.heap.push { cls := .type "range", data := .fields #[.int lo t, .int hi u, .int 1 v] }).objs.size := by simpa using hb
    subst e
    exact I1.fpOk (Nat.le_refl _) (I1.hok.fresh (Nat.le_refl _))
def zkN (ta : TA) : TI := fun σ H R => ta σ H fun vs H1 => ∃ j : Int, vs = [.int j] /\ -(2 ^ 62) <= j /\ j < 2 ^ 62 /\ R (Itr 0 j.toNat) H1
def zkB (ta : TA) : TI := fun σ H R => ta σ H fun vs H1 => ∃ i j : Int, vs = [.int i, .int j] /\ (-(2 ^ 62) <= i /\ i < 2 ^ 62 /\ -(2 ^ 62) <= j /\ j < 2 ^ 62) /\ R (Itr i (j - i).toNat) H1
theorem wx {a : Expr} {ta : TA} {p pos : Pos} (hg : Gl X "range") (hm : X.mg "range" = none) (ha : PA X [a] ta) (hs : starEach [a] X.env = [(false, eval a X.env)] := by rfl) : PI X tg (.Call (.Name "range" p) [a] [] pos) (zkN ta) := by
  intro pins s σ H R I h
  refine Call_ (zbK I hg hm boot_range (PyProof.Rows.callWith_type1 (thn (ha pos pins s σ H _ I h) fun us s1 ⟨vs, H1, I1, r1, q1⟩ => ?_) hs rfl))
  obtain ⟨j, e, q1, q2, q⟩ := q1
  subst e
  cases r1 with
  | cons r rr =>
    cases rr
    obtain ⟨t, rfl⟩ := r
    exact call_range_1 (zb4 I1 (by omega) (by omega) q1 q2 (by simpa using q))
theorem zdQ {a b : Expr} {ta : TA} {p pos : Pos} (hg : Gl X "range") (hm : X.mg "range" = none) (ha : PA X [a, b] ta) (hs : starEach [a, b] X.env = [(false, eval a X.env), (false, eval b X.env)] := by rfl) (hs2 : starEach [b] X.env = [(false, eval b X.env)] := by rfl) :
    PI X tg (.Call (.Name "range" p) [a, b] [] pos) (zkB ta) := by
  intro pins s σ H R I h
  refine Call_ (zbK I hg hm boot_range (PyProof.Rows.callWith_type1 (thn (ha pos pins s σ H _ I h) fun us s1 ⟨vs, H1, I1, r1, q1⟩ => ?_) (by rw [hs, hs2]) (by rw [hs2]; rfl)))
  obtain ⟨i, j, e, ⟨q1, q2, q3, q4⟩, q⟩ := q1
  subst e
  cases r1 with
  | cons r rr =>
    cases rr with
    | cons r' rr =>
      cases rr
      obtain ⟨t, rfl⟩ := r
      obtain ⟨t', rfl⟩ := r'
      exact call_range_2 (zb4 I1 q1 q2 q3 q4 q)
def zlB (wi : TI) (g : TG) (tb : TS) : TS := fun D σ H => wi σ H fun J H1 => ∃ W : Nat -> Nat -> St -> Hp -> Prop, (∃ m, W 0 m σ H1) /\ ∀ i m σ H, W i m σ H ->
  (J.stop i H /\ D.nx σ H) \/ (J.go i H /\ ∃ N : St -> Hp -> Prop, (∀ σ' H', N σ' H' -> ∃ m', m' < m /\ W (i + 1) m' σ' H') /\ ∀ x H', J.yld i H x H' -> g x σ H' fun σ2 H2 => tb { D with nx := N, ct := N, bk := D.nx } σ2 H2)
def wv (fp : List Addr) (h : Heap) : List (Addr × Obj) := fp.filterMap fun b => (h.get? b).map fun o => (b, o)
theorem qL {fp : List Addr} {h : Heap} {b : Addr} {o : Obj} (hb : b ∈ fp) (e : h.get? b = some o) : (b, o) ∈ wv fp h := List.mem_filterMap.mpr ⟨b, hb, by rw [e]; rfl⟩
theorem zdj {fp : List Addr} {h : Heap} {p : Addr × Obj} (hp : p ∈ wv fp h) : p.1 ∈ fp /\ h.get? p.1 = some p.2 := by
  obtain ⟨b, hb, e⟩ := List.mem_filterMap.mp hp
  cases q : h.get? b with
  | none => rw [q] at e; cases e
  | some o =>
    rw [q] at e
    have e' : (b, o) = p := Option.some.inj e
    subst e'
    exact ⟨hb, q⟩
theorem Inv.pinned {pins : List (Addr × Obj)} {σ : St} {H : Hp} {s : Shared} {fp : List Addr} (I : Inv X pins σ H s) (hf : ∀ b ∈ fp, zdC X pins H b) (ho : ∀ b ∈ fp, ∃ o, s.heap.get? b = some o /\ ∀ v, o.data ≠ .cell v) : Inv X (pins ++ wv fp s.heap) σ H s :=
  I.pins_of fun p hp => (List.mem_append.mp hp).elim (fun z => I.pin p (List.mem_append_right _ z)) fun z => by
    obtain ⟨hb, e⟩ := zdj z
    obtain ⟨f0, f1, f2, _⟩ := hf p.1 hb
    obtain ⟨o, e', d⟩ := ho p.1 hb
    rw [e] at e'; cases e'
    exact ⟨e, f0, f1, f2, d⟩
theorem Inv.unpinned {pins pl : List (Addr × Obj)} {σ : St} {H : Hp} {s : Shared} (I : Inv X (pins ++ pl) σ H s) : Inv X pins σ H s := I.pins_of fun p hp => I.pin p (List.mem_append_right _ (List.mem_append_left _ hp))
theorem jW {iter : Expr} {body : List Stmt} {wi : TI} {g : TG} {tb : TS} {pos : Pos} (hp : PassesOwn (model X.prog X.w) X.A X.env X.xe) (hc : X.calm = true) (hi : PI X tg iter wi) (hg : PG X tg g) (hb : PSs X body tb)
    (hs : ∀ x, foldedSetIterable iter X.env x = pure x := by intro _; rfl) : PS X (.For tg iter body [] pos) (zlB wi g tb) := by
  intro pins s σ H D I h
  refine wpAny_For (thn (hi pins s σ H _ I h) fun v s1 h1 => thn h1 fun itv s2 h2 => ?_) hs
  obtain ⟨it, fp, tn, J, H2, e, I2, T, st2, f2, W, ⟨m0, w0⟩, turn⟩ := h2
  subst e
  have stat : ∀ {H' : Hp}, (∀ b ∈ fp, H' b = none) -> ∀ b ∈ fp, zdC X pins H' b := fun hn b hb => ⟨hn b hb, (f2 b hb).2⟩
  refine codeAny_forLoop_any (fun n s' => ∃ i σ' H', Inv X pins σ' H' s' /\ tn i s'.heap /\ (∀ b ∈ fp, H' b = none) /\ W i n σ' H') ?_ m0 ⟨0, σ, H2, I2, st2, fun b hb => (f2 b hb).1, w0⟩
  rintro n s3 ⟨i, σ3, H3, I3, st3, fr3, w3⟩
  rcases turn i n σ3 H3 w3 with ⟨stop, qn⟩ | ⟨go, N, hN, step⟩
  . refine wpAny_passesOwn hp (thn (T.done X rfl rfl rfl hc i pins s3 σ3 H3 X.xe I3 (stat fr3) st3 stop) fun r s4 ⟨hr, I4⟩ => ?_)
    subst hr
    exact wpAny_execs_nil ⟨σ3, H3, I4, qn⟩
  . refine wpAny_passesOwn hp (thn (T.item X rfl rfl rfl hc i pins s3 σ3 H3 X.xe I3 (stat fr3) st3 go) fun r s4 ⟨u, hr, h4⟩ => ?_)
    subst hr
    refine wpAny_passesOwn hp (thn h4 fun _ s5 ⟨x, H5, I5, r5, y5, st5, fr5⟩ => ?_)
    have I5' := I5.pinned (stat fr5) (T.obj _ _ st5)
    refine wpAny_passesOwn hp (thn (hg _ s5 σ3 H5 x u _ I5' r5 (step x H5 y5)) fun _ s6 ⟨σ6, H6, I6, q6⟩ => ?_)
    refine wpAny_passesOwn hp (thn (hb _ s6 σ6 H6 _ I6 q6) fun f s7 q7 => ?_)
    have again : ∀ {σ7 : St} {H7 : Hp}, Inv X (pins ++ wv fp s5.heap) σ7 H7 s7 -> N σ7 H7 -> ∃ m, m < n /\ ∃ i σ' H', Inv X pins σ' H' s7 /\ tn i s7.heap /\ (∀ b ∈ fp, H' b = none) /\ W i m σ' H' := fun {σ7 H7} I7 n7 => by
      obtain ⟨m', hm, w7⟩ := hN σ7 H7 n7
      refine ⟨m', hm, i + 1, σ7, H7, I7.unpinned, T.keep _ _ _ st5 fun b hb o e => (I7.pin (b, o) (List.mem_append_right _ (List.mem_append_right _ (qL hb e)))).1, fun b hb => ?_, w7⟩
      obtain ⟨o, e, d⟩ := T.obj _ _ st5 b hb
      exact (I7.pin (b, o) (List.mem_append_right _ (List.mem_append_right _ (qL hb e)))).2.1
    cases f with
    | next => obtain ⟨σ7, H7, I7, n7⟩ := q7; exact again I7 n7
    | cont => obtain ⟨σ7, H7, I7, n7⟩ := q7; exact again I7 n7
    | brk => obtain ⟨σ7, H7, I7, q7⟩ := q7; exact ⟨σ7, H7, I7.unpinned, q7⟩
    | ret v => obtain ⟨x7, σ7, H7, I7, r7, q7⟩ := q7; exact ⟨x7, σ7, H7, I7.unpinned, r7, q7⟩
end
theorem zbU {K : PySem.W.Frag} {a : Addr} {xs : List V} {g : TG} {tb : TS} {D : zez} {σ : St} {H : Hp} (Pv : Nat -> St -> Hp -> Prop) (h0 : Pv 0 σ H) (hl : ∀ i σ H, i <= xs.length -> Pv i σ H -> SqL K H a xs)
    (hs : ∀ i x σ H, xs[i]? = some x -> Pv i σ H -> g x σ H fun σ2 H2 => tb { D with nx := Pv (i + 1), ct := Pv (i + 1), bk := D.nx } σ2 H2) (hd : ∀ σ H, Pv xs.length σ H -> D.nx σ H) :
    ∃ W : Nat -> Nat -> St -> Hp -> Prop, (∃ m, W 0 m σ H) /\ ∀ i m σ H, W i m σ H ->
      ((Itl K a).stop i H /\ D.nx σ H) \/ ((Itl K a).go i H /\ ∃ N : St -> Hp -> Prop, (∀ σ' H', N σ' H' -> ∃ m', m' < m /\ W (i + 1) m' σ' H') /\ ∀ x H', (Itl K a).yld i H x H' -> g x σ H' fun σ2 H2 => tb { D with nx := N, ct := N, bk := D.nx } σ2 H2) := by
  refine ⟨fun i m σ H => m = xs.length - i /\ i <= xs.length /\ Pv i σ H, ⟨xs.length, by simp, Nat.zero_le _, h0⟩, ?_⟩
  rintro i m σ H ⟨rfl, hi, p⟩
  have q := hl i σ H hi p
  by_cases hlt : i < xs.length
  . refine .inr ⟨⟨xs, xs[i], q, by simp [hlt]⟩, Pv (i + 1), fun σ' H' p' => ⟨xs.length - (i + 1), by omega, rfl, hlt, p'⟩, fun x H' y => ?_⟩
    obtain ⟨e, y⟩ := y
    subst e
    exact hs i x σ _ (y xs q) p
  . have e : i = xs.length := by omega
    subst e
    exact .inl ⟨⟨xs, q, Nat.le_refl _⟩, hd σ H p⟩
theorem wg {K : PySem.W.Frag} {a : Addr} {xs : List V} {g : TG} {tb : TS} {D : zez} {σ : St} {H : Hp} (Pv : Nat -> St -> Hp -> Prop) (h0 : Pv 0 σ H) (hl : ∀ i σ H, i <= xs.length -> Pv i σ H -> SqT K H a xs)
    (hs : ∀ i x σ H, xs[i]? = some x -> Pv i σ H -> g x σ H fun σ2 H2 => tb { D with nx := Pv (i + 1), ct := Pv (i + 1), bk := D.nx } σ2 H2) (hd : ∀ σ H, Pv xs.length σ H -> D.nx σ H) :
    ∃ W : Nat -> Nat -> St -> Hp -> Prop, (∃ m, W 0 m σ H) /\ ∀ i m σ H, W i m σ H ->
      ((Itt K a).stop i H /\ D.nx σ H) \/ ((Itt K a).go i H /\ ∃ N : St -> Hp -> Prop, (∀ σ' H', N σ' H' -> ∃ m', m' < m /\ W (i + 1) m' σ' H') /\ ∀ x H', (Itt K a).yld i H x H' -> g x σ H' fun σ2 H2 => tb { D with nx := N, ct := N, bk := D.nx } σ2 H2) := by
  refine ⟨fun i m σ H => m = xs.length - i /\ i <= xs.length /\ Pv i σ H, ⟨xs.length, by simp, Nat.zero_le _, h0⟩, ?_⟩
  rintro i m σ H ⟨rfl, hi, p⟩
  have q := hl i σ H hi p
  by_cases hlt : i < xs.length
  . refine .inr ⟨⟨xs, xs[i], q, by simp [hlt]⟩, Pv (i + 1), fun σ' H' p' => ⟨xs.length - (i + 1), by omega, rfl, hlt, p'⟩, fun x H' y => ?_⟩
    obtain ⟨e, y⟩ := y
    subst e
    exact hs i x σ _ (y xs q) p
  . have e : i = xs.length := by omega
    subst e
    exact .inl ⟨⟨xs, q, Nat.le_refl _⟩, hd σ H p⟩
theorem wN {lo : Int} {n : Nat} {g : TG} {tb : TS} {D : zez} {σ : St} {H : Hp} (Pv : Nat -> St -> Hp -> Prop) (h0 : Pv 0 σ H)
    (hs : ∀ i σ H, i < n -> Pv i σ H -> g (.int (lo + i)) σ H fun σ2 H2 => tb { D with nx := Pv (i + 1), ct := Pv (i + 1), bk := D.nx } σ2 H2) (hd : ∀ σ H, Pv n σ H -> D.nx σ H) :
    ∃ W : Nat -> Nat -> St -> Hp -> Prop, (∃ m, W 0 m σ H) /\ ∀ i m σ H, W i m σ H ->
      ((Itr lo n).stop i H /\ D.nx σ H) \/ ((Itr lo n).go i H /\ ∃ N : St -> Hp -> Prop, (∀ σ' H', N σ' H' -> ∃ m', m' < m /\ W (i + 1) m' σ' H') /\ ∀ x H', (Itr lo n).yld i H x H' -> g x σ H' fun σ2 H2 => tb { D with nx := N, ct := N, bk := D.nx } σ2 H2) := by
  refine ⟨fun i m σ H => m = n - i /\ i <= n /\ Pv i σ H, ⟨n, by simp, Nat.zero_le _, h0⟩, ?_⟩
  rintro i m σ H ⟨rfl, hi, p⟩
  by_cases hlt : i < n
  . refine .inr ⟨hlt, Pv (i + 1), fun σ' H' p' => ⟨n - (i + 1), by omega, rfl, hlt, p'⟩, fun x H' y => ?_⟩
    obtain ⟨e, y⟩ := y
    subst e y
    exact hs i σ _ hlt p
  . have e : i = n := by omega
    subst e
    exact .inl ⟨Nat.le_refl _, hd σ H p⟩
end L2
namespace L2
open PySem PySem.Spec PyProof.Rows
abbrev R2 := V -> V -> Hp -> VK -> Prop
def OpR (X : Cx) (f : Value -> Value -> Sem Value) (r : R2) : Prop :=
  ∀ (pins : List (Addr × Obj)) (s : Shared) (σ : St) (H : Hp) (x y : V) (v u : Value) (Q : VK), Inv X pins σ H s -> yc x v -> yc y u -> r x y H Q ->
    wpAny (model X.prog X.w) X.A (f v u) (EP X pins σ Q) X.xe s
def qI (X : Cx) (f : Value) (r : List V -> Hp -> VK -> Prop) : Prop :=
  ∀ (pins : List (Addr × Obj)) (s : Shared) (σ : St) (H : Hp) (xs : List V) (us : List Value) (Q : VK), Inv X pins σ H s -> z7 xs us -> r xs H Q ->
    wpAny (model X.prog X.w) X.A (call f us) (EP X pins σ Q) X.xe s
def tOp (r : R2) (ta tb : TE) : TE := fun σ H Q => ta σ H fun x H1 => tb σ H1 fun y H2 => r x y H2 Q
def rI (C : Int -> Int -> Prop) (g : Int -> Int -> V) : R2 := fun x y H Q => ∃ i j, x = .int i /\ y = .int j /\ C i j /\ Q (g i j) H
def rI0 (g : Int -> Int -> V) : R2 := fun x y H Q => ∃ i j, x = .int i /\ y = .int j /\ Q (g i j) H
section
variable {X : Cx} {a b c : Expr} {ta tb tc : TE} {pos : Pos}
theorem zkM (ha : PE X a ta) (hb : PE X b tb) {pins : List (Addr × Obj)} {s : Shared} {σ : St} {H : Hp} {R : V -> V -> Hp -> Prop} (I : Inv X pins σ H s)
    (h : ta σ H fun x H1 => tb σ H1 fun y H2 => R x y H2) {Q : Value -> Shared -> Prop} {f : Value -> Value -> Sem Value}
    (hf : ∀ v u s2 x y H2, Inv X pins σ H2 s2 -> yc x v -> yc y u -> R x y H2 -> wpAny (model X.prog X.w) X.A (f v u) Q X.xe s2) :
    wpAny (model X.prog X.w) X.A (eval a X.env) (fun v s₁ => wpAny (model X.prog X.w) X.A (eval b X.env) (fun u s₂ => wpAny (model X.prog X.w) X.A (f v u) Q X.xe s₂) X.xe s₁) X.xe s := by
  refine thn (ha pins s σ H _ I h) fun v s1 ⟨x, H1, I1, r1, q1⟩ => ?_
  refine thn (hb pins s1 σ H1 _ I1 q1) fun u s2 ⟨y, H2, I2, r2, q2⟩ => ?_
  exact hf v u s2 x y H2 I2 r1 r2 q2
theorem zt {op : Operator} {r : R2} (ho : OpR X (binaryOp op) r) (ha : PE X a ta) (hb : PE X b tb) : PE X (.BinOp a op b pos) (tOp r ta tb) := by
  intro pins s σ H Q I h
  exact wpAny_BinOp (zkM ha hb I h fun v u s2 x y H2 I2 rx ry q => ho pins s2 σ H2 x y v u Q I2 rx ry q)
theorem opI {f : Value -> Value -> Sem Value} {C : Int -> Int -> Prop} {g : Int -> Int -> Int}
    (rule : ∀ (i j : Int) (t u : Tok) (s : Shared) (Q : Value -> Shared -> Prop) (E : Value -> Shared -> Prop), C i j -> Q (.int (g i j) s.toks) { s with toks := s.toks + 1 } -> wpAny (model X.prog X.w) X.A (f (.int i t) (.int j u)) Q E s) :
    OpR X f (rI C fun i j => .int (g i j)) := by
  intro pins s σ H x y v u Q I rx ry h
  obtain ⟨i, j, rfl, rfl, hc, q⟩ := h
  obtain ⟨t, rfl⟩ := rx
  obtain ⟨t', rfl⟩ := ry
  exact rule i j t t' s _ _ hc ⟨.int (g i j), H, I.tok _, ⟨_, rfl⟩, q⟩
theorem zjO {f : Value -> Value -> Sem Value} {g : Int -> Int -> Int}
    (rule : ∀ (i j : Int) (t u : Tok) (s : Shared) (Q : Value -> Shared -> Prop) (E : Value -> Shared -> Prop), Q (.int (g i j) s.toks) { s with toks := s.toks + 1 } -> wpAny (model X.prog X.w) X.A (f (.int i t) (.int j u)) Q E s) :
    OpR X f (rI0 fun i j => .int (g i j)) := by
  intro pins s σ H x y v u Q I rx ry h
  obtain ⟨i, j, rfl, rfl, q⟩ := h
  obtain ⟨t, rfl⟩ := rx
  obtain ⟨t', rfl⟩ := ry
  exact rule i j t t' s _ _ ⟨.int (g i j), H, I.tok _, ⟨_, rfl⟩, q⟩
theorem zkg {f : Value -> Value -> Sem Value} {g : Int -> Int -> Bool}
    (rule : ∀ (i j : Int) (t u : Tok) (s : Shared) (Q : Value -> Shared -> Prop) (E : Value -> Shared -> Prop), Q (.bool (g i j)) s -> wpAny (model X.prog X.w) X.A (f (.int i t) (.int j u)) Q E s) :
    OpR X f (rI0 fun i j => .bl (g i j)) := by
  intro pins s σ H x y v u Q I rx ry h
  obtain ⟨i, j, rfl, rfl, q⟩ := h
  obtain ⟨t, rfl⟩ := rx
  obtain ⟨t', rfl⟩ := ry
  exact rule i j t t' s _ _ ⟨.bl (g i j), H, I, rfl, q⟩
def zln (i j : Int) : Prop := 0 < j /\ j < 1073741824
def zll (i j : Int) : Prop := 0 <= j /\ j <= 1000000 /\ i.natAbs < 2 ^ 64
def zkU (i j : Int) : Prop := (-(2 ^ 64) < i /\ i < 2 ^ 64) \/ (-(2 ^ 64) < j /\ j < 2 ^ 64)
theorem zkU.ok {i j : Int} (h : zkU i j) : IntMulOk i j := by
  rcases h with ⟨h1, h2⟩ | ⟨h1, h2⟩
  . exact .of_left (intBits_le_64 h1 h2)
  . exact .of_right (intBits_le_64 h1 h2)
theorem two_pow_nn (k : Nat) : (0 : Int) <= 2 ^ k := by
  rw [two_pow_cast]
  exact Int.natCast_nonneg _
theorem zT : OpR X (binaryOp .Add) (rI0 fun i j => .int (i + j)) := zjO fun _ _ _ _ _ _ _ q => add_int q
theorem y8 : OpR X (binaryOp .Sub) (rI0 fun i j => .int (i - j)) := zjO fun _ _ _ _ _ _ _ q => sub_int q
theorem jh : OpR X (binaryOp .Mult) (rI zkU fun i j => .int (i * j)) := opI fun _ _ _ _ _ _ _ hc q => mul_int q hc.ok
theorem zdl : OpR X (binaryOp .FloorDiv) (rI zln fun i j => .int (i / j)) := opI fun i j _ _ _ _ _ hc q => by
  have h1 : (0 : Int) < j := hc.1
  have h2 : j < 1073741824 := hc.2
  exact floordiv_int (by omega) (by rw [Int.fdiv_eq_ediv_of_nonneg i (by omega)]; exact q) (.inl (PyProof.noPylong_small (by omega)))
theorem zeb : OpR X (binaryOp .Mod) (rI (fun _ j => 0 < j) fun i j => .int (i % j)) := opI fun i j _ _ _ _ _ hc q => by
  have h1 : (0 : Int) < j := hc
  exact mod_int' (by omega) (by rw [Int.fmod_eq_emod_of_nonneg i (by omega)]; exact q)
theorem xa : OpR X (binaryOp .LShift) (rI zll fun i j => .int (i * 2 ^ j.toNat)) := opI fun _ _ _ _ _ _ _ hc q => lshift_int_small hc.1 hc.2.1 hc.2.2 q
theorem qY : OpR X (binaryOp .RShift) (rI (fun _ j => 0 <= j) fun i j => .int (i / 2 ^ j.toNat)) := opI fun i j _ _ _ _ _ hc q =>
  rshift_int hc (by rw [Int.fdiv_eq_ediv_of_nonneg i (two_pow_nn _)]; exact q)
theorem xI : OpR X (binaryOp .BitAnd) (rI0 fun i j => .int (Builtin.bitAnd i j)) := zjO fun _ _ _ _ _ _ _ q => and_int q
theorem zaT : OpR X (binaryOp .BitOr) (rI0 fun i j => .int (Builtin.bitOr i j)) := zjO fun _ _ _ _ _ _ _ q => or_int q
theorem zjE : OpR X (inplaceOp .BitOr) (rI0 fun i j => .int (Builtin.bitOr i j)) := zjO fun _ _ _ _ _ _ _ q => ior_int q
end
def zk1 : V -> V -> Bool
  | .non, .non => true | .non, .int _ => true | .int _, .non => true | .non, .bl _ => true | .bl _, .non => true | .non, .str _ => true | .str _, .non => true
  | .int _, .int _ => true | .bl _, .bl _ => true | .str _, .str _ => true | .byt _, .byt _ => true
  | .int _, .str _ => true | .str _, .int _ => true | .bl _, .str _ => true | .str _, .bl _ => true
  | _, _ => false
def rEq : R2 := fun x y H Q => zk1 x y = true /\ Q (.bl (decide (x = y))) H
def rNe : R2 := fun x y H Q => zk1 x y = true /\ Q (.bl (!decide (x = y))) H
theorem zdO {i j : Int} : decide (V.int i = V.int j) = (i == j) := by
  rw [Bool.eq_iff_iff]
  simp
theorem zgM {i j : Bool} : decide (V.bl i = V.bl j) = (i == j) := by
  rw [Bool.eq_iff_iff]
  simp
theorem zeQ {i j : Str} : decide (V.str i = V.str j) = (i == j) := by
  rw [Bool.eq_iff_iff]
  simp
theorem zd0 {i j : Array UInt8} : decide (V.byt i = V.byt j) = (i.toList == j.toList) := by
  rw [Bool.eq_iff_iff]
  cases i
  cases j
  simp
section
variable {X : Cx} {a b c : Expr} {ta tb tc : TE} {pos : Pos}
theorem zZ {pins : List (Addr × Obj)} {σ : St} {H : Hp} {s : Shared} {Q : VK} {k k' : Bool} (I : Inv X pins σ H s) (q : Q (.bl k) H) (e : k = k') : EP X pins σ Q (.bool k') s := by
  subst e
  exact ⟨.bl k, H, I, rfl, q⟩
theorem xt : OpR X (compareOp .Eq) rEq := by
  intro pins s σ H x y v u Q I rx ry h
  obtain ⟨hs, q⟩ := h
  cases x with
  | non =>
    cases rx
    cases y with
    | non => cases ry; exact PySem.EqNone.eq_none_none (zZ I q (by simp))
    | bl j => cases ry; exact PySem.EqNone.eq_none_bool (zZ I q (by simp))
    | int j => obtain ⟨t', rfl⟩ := ry; exact PySem.EqNone.eq_none_int (zZ I q (by simp))
    | str j => obtain ⟨t', rfl⟩ := ry; exact PySem.EqNone.eq_none_str (zZ I q (by simp))
    | _ => exact absurd (show false = true from hs) Bool.false_ne_true
  | bl i =>
    cases rx
    cases y with
    | non => cases ry; exact PySem.EqNone.eq_bool_none (zZ I q (by simp))
    | bl j => cases ry; exact eq_bool (zZ I q zgM)
    | str j => obtain ⟨t', rfl⟩ := ry; exact PySem.EqMixed.eq_bool_str (zZ I q (by simp))
    | _ => exact absurd (show false = true from hs) Bool.false_ne_true
  | int i =>
    obtain ⟨t, rfl⟩ := rx
    cases y with
    | non => cases ry; exact PySem.EqNone.eq_int_none (zZ I q (by simp))
    | int j => obtain ⟨t', rfl⟩ := ry; exact eq_int (zZ I q zdO)
    | str j => obtain ⟨t', rfl⟩ := ry; exact PySem.EqMixed.eq_int_str (zZ I q (by simp))
    | _ => exact absurd (show false = true from hs) Bool.false_ne_true
  | str i =>
    obtain ⟨t, rfl⟩ := rx
    cases y with
    | non => cases ry; exact PySem.EqNone.eq_str_none (zZ I q (by simp))
    | bl j => cases ry; exact PySem.EqMixed.eq_str_bool (zZ I q (by simp))
    | int j => obtain ⟨t', rfl⟩ := ry; exact PySem.EqMixed.eq_str_int (zZ I q (by simp))
    | str j => obtain ⟨t', rfl⟩ := ry; exact eq_str (zZ I q zeQ)
    | _ => exact absurd (show false = true from hs) Bool.false_ne_true
  | byt i =>
    obtain ⟨t, rfl⟩ := rx
    cases y with
    | byt j => obtain ⟨t', rfl⟩ := ry; exact PySem.W.eq_bytes (zZ I q zd0)
    | _ => exact absurd (show false = true from hs) Bool.false_ne_true
  | _ => cases y <;> exact absurd (show false = true from hs) Bool.false_ne_true
theorem zcH : OpR X (compareOp .NotEq) rNe := by
  intro pins s σ H x y v u Q I rx ry h
  obtain ⟨hs, q⟩ := h
  cases x with
  | non =>
    cases rx
    cases y with
    | non => cases ry; exact PySem.EqNone.ne_none_none (zZ I q (by simp))
    | bl j => cases ry; exact PySem.EqNone.ne_none_bool (zZ I q (by simp))
    | int j => obtain ⟨t', rfl⟩ := ry; exact PySem.EqNone.ne_none_int (zZ I q (by simp))
    | str j => obtain ⟨t', rfl⟩ := ry; exact PySem.EqNone.ne_none_str (zZ I q (by simp))
    | _ => exact absurd (show false = true from hs) Bool.false_ne_true
  | bl i =>
    cases rx
    cases y with
    | non => cases ry; exact PySem.EqNone.ne_bool_none (zZ I q (by simp))
    | bl j => cases ry; exact ne_bool (zZ I q (congrArg not zgM))
    | str j => obtain ⟨t', rfl⟩ := ry; exact PySem.EqMixed.ne_bool_str (zZ I q (by simp))
    | _ => exact absurd (show false = true from hs) Bool.false_ne_true
  | int i =>
    obtain ⟨t, rfl⟩ := rx
    cases y with
    | non => cases ry; exact PySem.EqNone.ne_int_none (zZ I q (by simp))
    | int j => obtain ⟨t', rfl⟩ := ry; exact ne_int (zZ I q (congrArg not zdO))
    | str j => obtain ⟨t', rfl⟩ := ry; exact PySem.EqMixed.ne_int_str (zZ I q (by simp))
    | _ => exact absurd (show false = true from hs) Bool.false_ne_true
  | str i =>
    obtain ⟨t, rfl⟩ := rx
    cases y with
    | non => cases ry; exact PySem.EqNone.ne_str_none (zZ I q (by simp))
    | bl j => cases ry; exact PySem.EqMixed.ne_str_bool (zZ I q (by simp))
    | int j => obtain ⟨t', rfl⟩ := ry; exact PySem.EqMixed.ne_str_int (zZ I q (by simp))
    | str j => obtain ⟨t', rfl⟩ := ry; exact ne_str (zZ I q (congrArg not zeQ))
    | _ => exact absurd (show false = true from hs) Bool.false_ne_true
  | byt i =>
    obtain ⟨t, rfl⟩ := rx
    cases y with
    | byt j => obtain ⟨t', rfl⟩ := ry; exact PySem.W.ne_bytes (zZ I q (congrArg not zd0))
    | _ => exact absurd (show false = true from hs) Bool.false_ne_true
  | _ => cases y <;> exact absurd (show false = true from hs) Bool.false_ne_true
theorem wH : OpR X (compareOp .Lt) (rI0 fun i j => .bl (decide (i < j))) := zkg fun _ _ _ _ _ _ _ q => lt_int q
theorem zfi : OpR X (compareOp .LtE) (rI0 fun i j => .bl (decide (i <= j))) := zkg fun _ _ _ _ _ _ _ q => le_int q
theorem jk : OpR X (compareOp .Gt) (rI0 fun i j => .bl (decide (j < i))) := zkg fun _ _ _ _ _ _ _ q => gt_int q
theorem zf3 : OpR X (compareOp .GtE) (rI0 fun i j => .bl (decide (j <= i))) := zkg fun _ _ _ _ _ _ _ q => ge_int q
theorem OpR.or {f : Value -> Value -> Sem Value} {r r' : R2} (h : OpR X f r) (h' : OpR X f r') : OpR X f (fun x y H Q => r x y H Q \/ r' x y H Q) := by
  intro pins s σ H x y v u Q I rx ry q
  rcases q with q | q
  . exact h pins s σ H x y v u Q I rx ry q
  . exact h' pins s σ H x y v u Q I rx ry q
theorem zD (b : Expr) {op : CmpOp} (h : op ≠ .In := by decide) (h2 : op ≠ .NotIn := by decide) : behindInMarks op b = false := by
  have e1 : (op == CmpOp.In) = false := by cases op <;> first | rfl | exact absurd rfl h
  have e2 : (op == CmpOp.NotIn) = false := by cases op <;> first | rfl | exact absurd rfl h2
  cases b <;> simp [behindInMarks, e1, e2]
theorem zdJ {op : CmpOp} {r : R2} (ho : OpR X (compareOp op) r) (ha : PE X a ta) (hb : PE X b tb) (hm : behindInMarks op b = false) : PE X (.Compare a [op] [b] pos) (tOp r ta tb) := by
  intro pins s σ H Q I h
  exact wpAny_Compare1 (zkM ha hb I h fun v u s2 x y H2 I2 rx ry q => ho pins s2 σ H2 x y v u Q I2 rx ry q) hm
def zjo (t : TE) : TT := fun σ H Q => t σ H fun x H' => ∃ k, x = .bl k /\ Q k H'
theorem zu {op : CmpOp} {r : R2} (ho : OpR X (compareOp op) r) (ha : PE X a ta) (hb : PE X b tb) (hm : behindInMarks op b = false) : PT X (.Compare a [op] [b] pos) (zjo (tOp r ta tb)) := by
  intro pins s σ H Q I h
  refine wpAny_isTrue_Compare1 (thn (ha pins s σ H _ I h) fun v s1 ⟨x, H1, I1, r1, q1⟩ => thn (hb pins s1 σ H1 _ I1 q1) fun u s2 ⟨y, H2, I2, r2, q2⟩ =>
    thn (ho pins s2 σ H2 x y v u _ I2 r1 r2 q2) fun c s3 ⟨z, H3, I3, r3, k, e, q3⟩ => ?_) hm
  subst e
  cases r3
  exact wpAny_truthy_bool ⟨H3, I3, q3⟩
theorem wM : (sizeLine : Nat) < 2 ^ 63 := by rw [sizeLine_eq]; decide
theorem zeK {x : V} {us : List Value} (r : z7 [x] us) : ∃ u, us = [u] /\ yc x u := by
  cases r with
  | cons r1 r2 => cases r2; exact ⟨_, rfl, r1⟩
theorem zi7 {x y : V} {us : List Value} (r : z7 [x, y] us) : ∃ u w', us = [u, w'] /\ yc x u /\ yc y w' := by
  cases r with
  | cons r1 r2 =>
    cases r2 with
    | cons r3 r4 => cases r4; exact ⟨_, _, rfl, r1, r3⟩
theorem zan (hc : X.calm = true) : qI X (.builtin "max") (fun xs H Q => ∃ i j, xs = [.int i, .int j] /\ Q (.int (if j > i then j else i)) H) := by
  intro pins s σ H xs us Q I r h
  obtain ⟨i, j, rfl, q⟩ := h
  obtain ⟨u, w', rfl, ⟨t, rfl⟩, ⟨t', rfl⟩⟩ := zi7 r
  refine max_two_ints (I.ok.hd hc) fun h' tk k => ⟨_, H, I.kept k, ?_, q⟩
  by_cases hj : j > i
  . rw [if_pos hj, if_pos hj]; exact ⟨_, rfl⟩
  . rw [if_neg hj, if_neg hj]; exact ⟨_, rfl⟩
theorem zeR (hc : X.calm = true) : qI X (.builtin "min") (fun xs H Q => ∃ i j, xs = [.int i, .int j] /\ Q (.int (if j < i then j else i)) H) := by
  intro pins s σ H xs us Q I r h
  obtain ⟨i, j, rfl, q⟩ := h
  obtain ⟨u, w', rfl, ⟨t, rfl⟩, ⟨t', rfl⟩⟩ := zi7 r
  refine min_two_ints (I.ok.hd hc) fun h' tk k => ⟨_, H, I.kept k, ?_, q⟩
  by_cases hj : j < i
  . rw [if_pos hj, if_pos hj]; exact ⟨_, rfl⟩
  . rw [if_neg hj, if_neg hj]; exact ⟨_, rfl⟩
theorem zfn : qI X (.builtin "ord") (fun xs H Q => ∃ x, xs = [.str x] /\ x.length = 1 /\ Q (.int (x.cps.getD 0 0 : Nat)) H) := by
  intro pins s σ H xs us Q I r h
  obtain ⟨x, rfl, hz, q⟩ := h
  obtain ⟨u, rfl, t, rfl⟩ := zeK r
  exact ord_of_one hz ⟨.int _, H, I.tok _, ⟨_, rfl⟩, q⟩
end
end L2
namespace L2
open PySem PySem.Spec PyProof.Rows
structure zie (h : Heap) (x dx C : Addr) (mA : Str -> Option Value) : Prop where
  obj : h.get? x = some (PySem.W.instObj C dx)
  ns : h.Ns1 dx mA
  ne : dx ≠ x
theorem ze9 {h : Heap} {dx : Addr} {mA : Str -> Option Value} (n : h.Ns1 dx mA) : ∃ od, h.get? dx = some od /\ ∀ name, PySem.W.lookIn name od = some (mA name) := by
  obtain ⟨o, es, ep, ho, hd, hk, _, hm⟩ := n
  refine ⟨o, ho, fun name => ?_⟩
  have e := hm name
  unfold nsFind findBy at e
  rw [<- Array.find?_toList] at e
  unfold PySem.W.lookIn
  rw [hd]
  dsimp only
  split
  . rename_i y q
    rw [q] at e
    exact congrArg some e
  . rename_i q
    rw [q] at e
    have a : es.toList.any (·.refKey) = false := by
      rw [List.any_eq_false]
      intro y hy
      obtain ⟨z, t, hkey⟩ := hk y (Array.mem_toList_iff.mp hy)
      simp [DictEntry.refKey, hkey]
    have a' : ¬ es.toList.any (·.refKey) = true := by rw [a]; exact Bool.false_ne_true
    rw [if_neg a']
    exact congrArg some e
theorem zie.look {h : Heap} {x dx C : Addr} {mA : Str -> Option Value} (I : zie h x dx C mA) : ∃ od, PySem.W.InstAt h x (PySem.W.instObj C dx) C (some od) /\ ∀ name, PySem.W.lookIn name od = some (mA name) :=
  let ⟨od, ho, hl⟩ := ze9 I.ns
  ⟨od, ⟨I.obj, rfl, rfl, ho⟩, hl⟩
section
variable {prog : Program} {w : World} {A : Around} {E : Value -> Shared -> Prop} {s : Shared} {K : PySem.W.Frag} {x dx C f : Addr} {mA : Str -> Option Value} {name : Str} {v : Value}
theorem zhX {expr : Bool} {Q : Value -> Shared -> Prop} (X : K.In s.heap) (I : zie s.heap x dx C mA) (hg : PySem.W.plainGet K C name = true) (hh : PySem.W.hasDictIn K C = true)
    (ha : PySem.W.findIn K (.ref C) name = some none) (hv : mA name = some v) (hv' : PySem.W.handedIn v = true) (h : Q v { s with toks := s.toks + 1 }) :
    wpAny (model prog w) A (getAttr (.ref x) name expr) Q E s := by
  obtain ⟨od, J, hl⟩ := I.look
  exact PySem.W.get_value X J (PySem.W.plainGet_of hg).1 (PySem.W.findObj_own hh ha rfl (by rw [hl, hv])) hv' h
theorem zfE {pl : Sem Bool} {Q : Value × List Value -> Shared -> Prop} (X : K.In s.heap) (I : zie s.heap x dx C mA) (hg : PySem.W.plainGet K C name = true)
    (hf : PySem.W.findIn K (.ref C) name = some (some (.ref f))) (ht : PySem.W.isFn K (.ref f) = true) (hv : mA name = none) (h : Q (.ref f, [.ref x]) s) :
    wpAny (model prog w) A (getMethod (.ref x) name pl) Q E s := by
  obtain ⟨od, J, hl⟩ := I.look
  exact PySem.W.method_fn X J (PySem.W.plainGet_of hg).1 (PySem.W.plainGet_of hg).2 hf (beq_iff_eq.mp ht) (by show (PySem.W.lookIn name od).map (·.isSome) = some false; rw [hl, hv]; rfl) h
theorem ziq {ns : List Str} {Q : Unit -> Shared -> Prop} (X : K.In s.heap) (I : zie s.heap x dx C mA)
    (hs : PySem.W.findIn K (.ref C) "__setattr__" = some (some (.builtin "object.__setattr__"))) (hp : PySem.W.plainOver K C = true) (ht : PySem.W.takerIn K C name = some none) (hh : PySem.W.hasDictIn K C = true)
    (hw : PySem.Within mA ns) (hsz : ns.length <= sizeLine)
    (h : ∀ h', zie h' x dx C (fun y => if y = name then some v else mA y) -> Heap.SameBut dx s.heap h' -> Q () { s with heap := h', toks := s.toks + 2 }) :
    wpAny (model prog w) A (setAttr (.ref x) name v) Q E s := by
  obtain ⟨od, J, hl⟩ := I.look
  refine PySem.W.set_plain X J hs (PySem.W.osa_open (s := { s with toks := s.toks + 1 }) (r := none) X J hp ht fun b => ?_)
  obtain ⟨cd, hc, hd'⟩ := PySem.W.any_some hh
  have hx : s.heap.get? x = some ⟨.ref C, some dx, .plain, #[]⟩ := I.obj
  refine wpAny_bind (wpAny_pure (wpAny_bind (wpAny_bind (wpAny_loadPart hx (wpAny_bind (PySem.W.Looks.here (s := { s with toks := s.toks + 1 }) (PySem.W.looks_clsIn X hc) ?_))))))
  rw [hd']
  refine wpAny_pure (a := some dx) (wpAny_bind (wpAny_pure (wpAny_bind ?_)))
  refine wpAny_nsSet1 (s := { s with toks := s.toks + 1 }) I.ns fun h' hn2 hs2 => ?_
  obtain ⟨oD, esD, epD, hoD, hdD, hcD⟩ := hn2.count (PySem.Within.cons name v hw)
  refine wpAny_bind (wpAny_lookBehind hoD (by rw [hdD]; exact pastItsLine_dict (Nat.le_trans hcD (by rw [List.length_cons]; omega))) ?_)
  exact wpAny_pure (h _ ⟨(hs2.2 _ (Ne.symm I.ne)).trans I.obj, hn2, I.ne⟩ hs2)
theorem zgr {R : Result -> Shared -> Prop} {vs : List Value} {kw : List (Str × Value)} (X : K.In s.heap) (hm : PySem.W.makesIn K C = true)
    (hi : PySem.W.findIn K (.ref C) "__init__" = some (some (.ref f))) (hf : PySem.W.typeIn K (.ref f) = some (.type "function"))
    (h : codeAny (model prog w) (A.under (.builtin "type.__call__" ⟨.ref C :: vs, kw⟩)) (.call (.ref f) ⟨.ref (s.heap.objs.size + 1) :: vs, kw⟩) (PySem.W.InitBack (s.heap.objs.size + 1) R)
      { s with heap := (s.heap.push PySem.W.emptyDict).push (PySem.W.instObj C s.heap.objs.size) }) :
    codeAny (model prog w) A (.call (.ref C) ⟨vs, kw⟩) R s := by
  obtain ⟨hh, g, d, t, os⟩ := s
  exact PySem.W.make_core (PySem.W.makes_of X hm) (PySem.W.looks_findIn X hi) (fun self => PySem.W.bind_fn X self hf) (.inl rfl) h
theorem zfg {R : Result -> Shared -> Prop} (X : K.In s.heap) (hm : PySem.W.makesIn K C = true)
    (hi : PySem.W.findIn K (.ref C) "__init__" = some (some (.builtin "object.__init__")))
    (hb : ∀ self, PySem.W.Looks (model prog w) s.heap (bindSpecial (.builtin "object.__init__") self) (.builtin "object.__init__", [self]))
    (h : codeAny (model prog w) (A.under (.builtin "type.__call__" ⟨[.ref C], []⟩)) (.call (.builtin "object.__init__") ⟨[.ref (s.heap.objs.size + 1)], []⟩) (PySem.W.InitBack (s.heap.objs.size + 1) R)
      { s with heap := (s.heap.push PySem.W.emptyDict).push (PySem.W.instObj C s.heap.objs.size) }) :
    codeAny (model prog w) A (.call (.ref C) ⟨[], []⟩) R s := by
  obtain ⟨hh, g, d, t, os⟩ := s
  exact PySem.W.make_core (PySem.W.makes_of X hm) (PySem.W.looks_findIn X hi) hb (.inr ⟨rfl, rfl⟩) h
end
def jo (f : Str) (v : V) : List (Str × V) -> List (Str × V)
  | [] => [(f, v)]
  | (g, x) :: r => if g = f then (g, v) :: r else (g, x) :: jo f v r
theorem j3 (f g : Str) (v : V) : ∀ fs : List (Str × V), (jo f v fs).lookup g = if g = f then some v else fs.lookup g
  | [] => by
    show List.lookup g [(f, v)] = _
    by_cases h : g = f
    . have hb : (g == f) = true := beq_iff_eq.mpr h
      simp only [List.lookup, hb, if_pos h]
    . have hb : (g == f) = false := beq_eq_false_iff_ne.mpr h
      simp only [List.lookup, hb, if_neg h]
  | (k, x) :: r => by
    have ih := j3 f g v r
    rw [show jo f v ((k, x) :: r) = (if k = f then (k, v) :: r else (k, x) :: jo f v r) from rfl]
    by_cases hk : k = f
    . rw [if_pos hk]
      by_cases h : g = k
      . have hb : (g == k) = true := beq_iff_eq.mpr h
        simp only [List.lookup, hb, if_pos (h.trans hk)]
      . have hb : (g == k) = false := beq_eq_false_iff_ne.mpr h
        simp only [List.lookup, hb, if_neg (fun e : g = f => h (e.trans hk.symm))]
    . rw [if_neg hk]
      by_cases h : g = k
      . have hb : (g == k) = true := beq_iff_eq.mpr h
        simp only [List.lookup, hb, if_neg (fun e : g = f => hk (h.symm.trans e))]
      . have hb : (g == k) = false := beq_eq_false_iff_ne.mpr h
        simp only [List.lookup, hb]
        exact ih
theorem jN (f : Str) (v : V) : ∀ fs : List (Str × V), f ∈ (jo f v fs).map (·.1) /\ ∀ g, g ∈ fs.map (·.1) -> g ∈ (jo f v fs).map (·.1)
  | [] => ⟨by simp [jo], fun g h => by simp at h⟩
  | (k, x) :: r => by
    obtain ⟨i1, i2⟩ := jN f v r
    rw [show jo f v ((k, x) :: r) = (if k = f then (k, v) :: r else (k, x) :: jo f v r) from rfl]
    by_cases hk : k = f
    . rw [if_pos hk]
      subst hk
      exact ⟨by simp, fun g h => by simpa using h⟩
    . rw [if_neg hk]
      refine ⟨?_, fun g h => ?_⟩
      . rw [List.map_cons]
        exact List.mem_cons_of_mem _ i1
      . rw [List.map_cons] at h ⊢
        rcases List.mem_cons.mp h with e | e
        . exact List.mem_cons.mpr (.inl e)
        . exact List.mem_cons_of_mem _ (i2 g e)
theorem jR (f : Str) (v : V) : ∀ fs : List (Str × V), (jo f v fs).length <= fs.length + 1
  | [] => by simp [jo]
  | (k, x) :: r => by
    have ih := jR f v r
    rw [show jo f v ((k, x) :: r) = (if k = f then (k, v) :: r else (k, x) :: jo f v r) from rfl]
    by_cases hk : k = f
    . rw [if_pos hk, List.length_cons, List.length_cons]; omega
    . rw [if_neg hk, List.length_cons, List.length_cons]; omega
theorem zat.some_of {v : V} {o : Option Value} (r : zat (some v) o) : ∃ u, o = some u /\ yc v u := by
  cases o with
  | none => exact (show False from r).elim
  | some u => exact ⟨u, rfl, r⟩
theorem zat.none_of {o : Option Value} (r : zat none o) : o = none := by
  cases o with
  | none => rfl
  | some u => exact (show False from r).elim
theorem zdk {v : V} {u : Value} (r : yc v u) : PySem.W.handedIn u = true := by
  cases v with
  | non => cases (show u = Value.none from r); rfl
  | bl b => cases (show u = Value.bool b from r); rfl
  | int i => obtain ⟨t, e⟩ := (show ∃ t, u = Value.int i t from r); cases e; rfl
  | str x => obtain ⟨t, e⟩ := (show ∃ t, u = Value.str x t from r); cases e; rfl
  | byt b => obtain ⟨t, e⟩ := (show ∃ t, u = Value.bytes b t from r); cases e; rfl
  | flt b => obtain ⟨t, e⟩ := (show ∃ t, u = Value.float b t from r); cases e; rfl
  | ref a => cases (show u = Value.ref a from r); rfl
  | ty n => cases (show u = Value.type n from r); rfl
section
variable {P : Program} {w : World} {H H' : Hp} {h h' : Heap} {a C dx : Addr} {fs fs' : List (Str × V)}
theorem zaN (hok : HOk P w H h) (e : H a = some (.ins C dx fs)) : ∃ mA, zie h a dx C mA /\ (∀ f, zat (fs.lookup f) (mA f)) /\ PySem.Within mA (fs.map (·.1)) /\ fs.length <= 1000 /\ H dx = some (.own a) := by
  obtain ⟨d, z, ne, ob, mA, n, r, q⟩ := (show xz P w H h a (.ins C dx fs) from hok a _ e)
  exact ⟨mA, ⟨ob, n, ne⟩, r, q, z, d⟩
end
structure Cls (K : PySem.W.Frag) (C : Addr) : Prop where
  pg : PySem.W.plainGet K C Str.empty = true
  hd : PySem.W.hasDictIn K C = true
  po : PySem.W.plainOver K C = true
  sa : PySem.W.findIn K (.ref C) "__setattr__" = some (some (.builtin "object.__setattr__"))
theorem Cls.get {K : PySem.W.Frag} {C : Addr} (c : Cls K C) (f : Str) : PySem.W.plainGet K C f = true := c.pg
def zR (K : PySem.W.Frag) (C : Addr) (f : Str) : Prop := PySem.W.findIn K (.ref C) f = some none
theorem zR.taker {K : PySem.W.Frag} {C : Addr} {f : Str} (n : zR K C f) : PySem.W.takerIn K C f = some none := by
  unfold PySem.W.takerIn
  rw [show PySem.W.findIn K (.ref C) f = some none from n]
  rfl
structure zi4 (K : PySem.W.Frag) (C : Addr) (m : Str) (f : Addr) : Prop where
  at_ : PySem.W.findIn K (.ref C) m = some (some (.ref f))
  fn : PySem.W.isFn K (.ref f) = true
  kp : PySem.W.keepIn K (.ref f) = true
section
variable {X : Cx} {pins : List (Addr × Obj)} {σ : St} {H : Hp} {s : Shared} {a C dx : Addr} {fs : List (Str × V)} {f : Str} {v : V} {A : Around} {E : Value -> Shared -> Prop}
theorem zcT {b : Bool} {Q : Value -> Shared -> Prop} (I : Inv X pins σ H s) (e : H a = some (.ins C dx fs)) (c : Cls X.K C) (n : zR X.K C f) (l : fs.lookup f = some v)
    (h : ∀ u s', Inv X pins σ H s' -> yc v u -> Q u s') : wpAny (model X.prog X.w) A (getAttr (.ref a) f b) Q E s := by
  obtain ⟨mA, O, r, _, _, _⟩ := zaN I.hok e
  obtain ⟨u, hu, ru⟩ := zat.some_of (v := v) (o := mA f) (by rw [<- l]; exact r f)
  exact zhX I.kIn O (c.get f) c.hd n hu (zdk ru) (h u _ (I.tok _) ru)
theorem kF {m : Str} {g : Addr} {pl : Sem Bool} {Q : Value × List Value -> Shared -> Prop} (I : Inv X pins σ H s) (e : H a = some (.ins C dx fs)) (c : Cls X.K C) (k : zi4 X.K C m g) (l : fs.lookup m = none)
    (h : Q (.ref g, [.ref a]) s) : wpAny (model X.prog X.w) A (getMethod (.ref a) m pl) Q E s := by
  obtain ⟨mA, O, r, _, _, _⟩ := zaN I.hok e
  have hn : mA m = none := zat.none_of (by rw [<- l]; exact r m)
  exact zfE I.kIn O (c.get m) k.at_ k.fn hn h
theorem zci {y : V} {u : Value} {Q : Unit -> Shared -> Prop} (I : Inv X pins σ H s) (e : H a = some (.ins C dx fs)) (c : Cls X.K C) (n : zR X.K C f) (hl : fs.length < 1000) (ry : yc y u)
    (h : ∀ s', Inv X pins σ (upd H a (.ins C dx (jo f y fs))) s' -> Q () s') : wpAny (model X.prog X.w) A (setAttr (.ref a) f u) Q E s := by
  obtain ⟨mA, O, r, wi, _, ho⟩ := zaN I.hok e
  have hz : (fs.map (·.1)).length <= sizeLine := by rw [List.length_map, sizeLine_eq]; omega
  refine ziq I.kIn O c.sa c.po n.taker c.hd wi hz fun h' O' sb => h _ ?_
  have hd : ∃ o, h'.get? dx = some o := let ⟨o, _, _, e', _⟩ := O'.ns; ⟨o, e'⟩
  refine I.write (x := a) (e := dx) (by rw [e]; exact True.intro) (.inr ho) (fun b q hb z => (sb.2 b hb).trans z) hd ?_
  refine ⟨by rw [zh O.ne]; exact ho, ?_, O.ne, O'.obj, _, O'.ns, fun g => ?_, fun g hg => ?_⟩
  . have := jR f y fs; omega
  . show zat ((jo f y fs).lookup g) (if g = f then some u else mA g)
    rw [j3]
    by_cases q : g = f
    . rw [if_pos q, if_pos q]; exact ry
    . rw [if_neg q, if_neg q]; exact r g
  . by_cases q : g = f
    . rw [q]; exact (jN f y fs).1
    . refine (jN f y fs).2 g (wi g fun z => hg ?_)
      show (if g = f then some u else mA g) = none
      rw [if_neg q]; exact z
theorem Inv.made (I : Inv X pins σ H s) : Inv X pins σ (upd (upd H s.heap.objs.size (.own (s.heap.objs.size + 1))) (s.heap.objs.size + 1) (.ins C s.heap.objs.size []))
    { s with heap := (s.heap.push PySem.W.emptyDict).push (PySem.W.instObj C s.heap.objs.size) } := by
  have e1 : (s.heap.push PySem.W.emptyDict).get? s.heap.objs.size = some PySem.W.emptyDict := Heap.get?_push_size s.heap rfl
  have e2 : ((s.heap.push PySem.W.emptyDict).push (PySem.W.instObj C s.heap.objs.size)).get? (s.heap.objs.size + 1) = some (PySem.W.instObj C s.heap.objs.size) := by
    have := Heap.get?_push_size (s.heap.push PySem.W.emptyDict) (o := PySem.W.instObj C s.heap.objs.size) rfl
    rwa [Heap.size_push] at this
  have e3 : (s.heap.push PySem.W.emptyDict).Ns s.heap.objs.size (fun _ => none) := ⟨PySem.W.emptyDict, #[], _, e1, rfl, (fun e he => absurd he (by simp)), fun _ => rfl⟩
  have I1 := I.laid (a := s.heap.objs.size) (o := .own (s.heap.objs.size + 1)) (h' := s.heap.push PySem.W.emptyDict) (t' := s.toks) (fun b u q => Heap.get?_push_of_some _ q) (Nat.le_refl _) ⟨_, e1⟩
  refine I1.laid (a := s.heap.objs.size + 1) (o := .ins C s.heap.objs.size []) (t' := s.toks) (fun b u q => Heap.get?_push_of_some _ q) (Nat.le_of_eq (Heap.size_push _ _)) ?_
  have ne : s.heap.objs.size ≠ s.heap.objs.size + 1 := Nat.ne_of_lt (Nat.lt_succ_self _)
  refine ⟨by rw [zh ne, zb], Nat.zero_le _, ne, e2, fun _ => none, (Heap.Ns1.of_empty e3).at fun o q => Heap.get?_push_of_some _ q, fun _ => True.intro, fun y hy => absurd rfl hy⟩
theorem zg6 {prog : Program} {w : World} {env : Env} {e : Expr} {f : Str} {pos : Pos} {s : Shared} {Q : Value -> Shared -> Prop} (hb : attributeBase e f env (eval e env) = eval e env)
    (h : wpAny (model prog w) A (eval e env) (fun o s₁ => wpAny (model prog w) A (getAttr o f true) Q E s₁) E s) : wpAny (model prog w) A (eval (.Attribute e f pos) env) Q E s :=
  Attribute_any_ h (by rw [arm_eval_Attribute, hb])
end
def zke (K : PySem.W.Frag) (ta : TE) (f : Str) : TE := fun σ H Q => ta σ H fun x H1 => ∃ a C dx fs v, x = .ref a /\ H1 a = some (.ins C dx fs) /\ Cls K C /\ zR K C f /\ fs.lookup f = some v /\ Q v H1
def zlq (K : PySem.W.Frag) (ta tv : TE) (f : Str) : TS := fun D σ H => tv σ H fun y H1 => ta σ H1 fun x H2 => ∃ a C dx fs, x = .ref a /\ H2 a = some (.ins C dx fs) /\ Cls K C /\ zR K C f /\ fs.length < 1000 /\
  D.nx σ (upd H2 a (.ins C dx (jo f y fs)))
section
variable {X : Cx} {o e value : Expr} {f : Str} {pos pos' tpos : Pos} {ta tv : TE}
theorem zx (he : PE X e ta) (hb : attributeBase e f X.env (eval e X.env) = eval e X.env) : PE X (.Attribute e f pos) (zke X.K ta f) := by
  intro pins s σ H Q I h
  refine zg6 hb (thn (he pins s σ H _ I h) fun u s1 ⟨x, H1, I1, rx, a, C, dx, fs, v, ex, ea, c, n, l, q⟩ => ?_)
  subst ex
  obtain rfl : u = Value.ref a := rx
  exact zcT I1 ea c n l fun u' s2 I2 ru => ⟨v, H1, I2, ru, q⟩
theorem zU (ha : PE X o ta) (hv : PE X value tv) (hs : swapsWith value (some (.Attribute o f pos')) pos.line X.env = pure false) : PS X (.Assign [.Attribute o f pos'] value pos) (zlq X.K ta tv f) := by
  intro pins s σ H D I h
  refine plainObj_wpAny_Assign_Attribute (thn (hv pins s σ H _ I h) fun u s1 ⟨y, H1, I1, ry, q⟩ => thn (ha pins s1 σ H1 _ I1 q) fun ov s2 ⟨x, H2, I2, rx, a, C, dx, fs, ex, ea, c, n, l, q2⟩ => ?_) hs
  subst ex
  obtain rfl : ov = Value.ref a := rx
  exact zci I2 ea c n l ry fun s3 I3 => ⟨σ, _, I3, q2⟩
end
section
variable {X : Cx} {pins : List (Addr × Obj)} {σ : St} {H : Hp} {s : Shared} {A : Around} {E : Value -> Shared -> Prop} {Q : Value -> Shared -> Prop} {c : Value} {b : Bool}
end
end L2
namespace L2
open PySem PySem.Spec PyProof.Rows
structure yp (k : Nat) (A : Around) : Prop where
  hd : A.handled = none
  dp : A.depth + 3 * k + 5 < recursionLimit
  un : A.units + 16 * k + 200 < cLine
theorem yp.mono {j k : Nat} {A : Around} (r : yp k A) (h : j <= k) : yp j A := ⟨r.hd, by have := r.dp; omega, by have := r.un; omega⟩
theorem yp.deeper {k : Nat} {A : Around} (r : yp (k + 1) A) (env : Env) : yp k (A.deeper env) :=
  ⟨r.hd, by have := r.dp; show A.depth + 1 + 3 * k + 5 < _; omega, by have := r.un; show A.units + 3 + 16 * k + 200 < _; omega⟩
theorem zcX {A : Around} {C : Addr} {us : List Value} {kw : List (Str × Value)} : (A.under (.builtin "type.__call__" ⟨.ref C :: us, kw⟩)).depth = A.depth + 1 := by
  first | rfl | simp [Around.under, Code.weight, Code.isCreation, Code.isGuard, Code.isCaller, Code.frames, Code.isFrame, guardIds]
theorem zct {A : Around} {C : Addr} {us : List Value} {kw : List (Str × Value)} : (A.under (.builtin "type.__call__" ⟨.ref C :: us, kw⟩)).units = A.units + 1 := by
  first | rfl | simp [Around.under, Code.cUnits, Code.frames, Code.isFrame]
theorem yp.make {k : Nat} {A : Around} (r : yp (k + 1) A) (C : Addr) (us : List Value) (kw : List (Str × Value)) : yp k (A.under (.builtin "type.__call__" ⟨.ref C :: us, kw⟩)) :=
  ⟨r.hd, by have := r.dp; rw [zcX]; omega, by have := r.un; rw [zct]; omega⟩
theorem yp.depth {k : Nat} {A : Around} (r : yp k A) : A.depth < recursionLimit := by have := r.dp; omega
theorem yp.units {k : Nat} {A : Around} (r : yp k A) : A.units + 64 < cLine := by have := r.un; omega
def zkR : TA := fun _ H Q => Q [] H
def zkA (ta : TE) (tr : TA) : TA := fun σ H Q => ta σ H fun x H1 => tr σ H1 fun xs H2 => Q (x :: xs) H2
section
variable {X : Cx} {e : Expr} {es : List Expr} {te : TE} {t : TA} {pos : Pos}
theorem zf : PA X [] zkR := fun _ _ _ _ H Q I h => Calls.spliced_nil ⟨[], H, I, .nil, h⟩
theorem za (ha : PE X e te) (hr : PA X es t) (hs : starEach (e :: es) X.env = (false, eval e X.env) :: starEach es X.env := by rfl) : PA X (e :: es) (zkA te t) := by
  intro pos pins s σ H Q I h
  rw [hs]
  show wpAny _ _ (spliced ((false, eval e X.env) :: backTo pos (starEach es X.env))) _ _ s
  refine Calls.spliced_cons (thn (ha pins s σ H _ I h) fun u s1 ⟨x, H1, I1, r1, q1⟩ => ?_)
  exact thn (hr pos pins s1 σ H1 _ I1 q1) fun us s2 ⟨xs, H2, I2, r2, q2⟩ => ⟨x :: xs, H2, I2, .cons r1 r2, q2⟩
def zlc (t : TA) : TE := fun σ H Q => t σ H fun xs H1 => xs.length <= sizeLine /\ ∀ p, H1 p = none -> Q (.ref p) (upd H1 p (.tup xs))
def zlC (t : TA) : TE := fun σ H Q => t σ H fun xs H1 => xs.length <= sizeLine /\ ∀ p, H1 p = none -> Q (.ref p) (upd H1 p (.lst xs))
theorem zi9 {x1} (h : PA X es t) : PE X (.Tuple es x1 pos) (zlc t) := by
  intro pins s σ H Q I hq
  refine wpAny_Tuple_spliced (thn (h pos pins s σ H _ I hq) fun us s1 ⟨xs, H1, I1, r, z, q⟩ => ⟨by rw [<- r.length]; exact z, ?_⟩)
  have hf : H1 s1.heap.objs.size = none := I1.hok.fresh (Nat.le_refl _)
  refine ⟨.ref s1.heap.objs.size, upd H1 s1.heap.objs.size (.tup xs), I1.laid (t' := s1.toks) (fun b u e => Heap.get?_push_of_some _ e) (Nat.le_refl _) ?_, rfl, q _ hf⟩
  exact ⟨z, us, r, ⟨_, Heap.get?_push_size _ rfl, rfl, _, rfl⟩⟩
theorem yh (h : PA X es t) : PE X (.List es pos) (zlC t) := by
  intro pins s σ H Q I hq
  refine wpAny_List_spliced (thn (h pos pins s σ H _ I hq) fun us s1 ⟨xs, H1, I1, r, z, q⟩ => ⟨by rw [<- r.length]; exact z, ?_⟩)
  have hf : H1 s1.heap.objs.size = none := I1.hok.fresh (Nat.le_refl _)
  refine ⟨.ref s1.heap.objs.size, upd H1 s1.heap.objs.size (.lst xs), I1.laid (t' := s1.toks) (fun b u e => Heap.get?_push_of_some _ e) (Nat.le_refl _) ?_, rfl, q _ hf⟩
  exact ⟨z, us, 0, r, Heap.get?_push_size _ rfl⟩
end
abbrev Sp := List V -> Hp -> VK -> XK -> Prop
abbrev CXT := List Env -> Hp -> Shared -> XK -> Value -> Shared -> Prop
structure zhH (P : Program) (w : World) (K : PySem.W.Frag) (mg : Str -> Option Value) (base : Heap) (A : Around) (outer : List Env) (s : Shared) (H : Hp) : Prop where
  frames : A.frames = some outer
  mod : Mod K mg base
  bs : ∀ b o, base.get? b = some o -> s.heap.get? b = some o /\ H b = none
  bsz : base.objs.size <= s.heap.objs.size
  funs : s.heap.FunFrames base outer
  frf : ∀ b ∈ frs outer, H b = none
  hok : HOk P w H s.heap
  bare : AllBare s.gens
def CE (outer : List Env) (P : Program) (w : World) (H : Hp) (s : Shared) (Q : VK) (u : Value) (s' : Shared) : Prop :=
  ∃ v H', s'.os = s.os /\ AllBare s'.gens /\ Un (frs outer) [] H H' s.heap s'.heap /\ HOk P w H' s'.heap /\ yc v u /\ Q v H'
def CR (CX : CXT) (outer : List Env) (P : Program) (w : World) (H : Hp) (s : Shared) (Q : VK) (E : XK) (r : Result) (s' : Shared) : Prop :=
  match r with
  | .ok (.ret u) => CE outer P w H s Q u s'
  | .ok _ => False
  | .error e => CX outer H s E e s'
structure yg (P : Program) (w : World) (K : PySem.W.Frag) (mg : Str -> Option Value) (base : Heap) (CX : CXT) (k : Nat) (f : Addr) (fd : FuncData) (ps : List Str) (sp : Sp) : Prop where
  len : ∀ vs H Q E, sp vs H Q E -> vs.length = ps.length
  run : ∀ (A : Around) (outer : List Env) (s : Shared) (H : Hp) (args : Args) (us : List Value) (vs : List V) (Q : VK) (E : XK), yp k A -> zhH P w K mg base A outer s H -> BindsTo s fd args (ps.zip us) -> z7 vs us -> sp vs H Q E ->
    codeAny (model P w) A (.call (.ref f) args) (CR CX outer P w H s Q E) s
theorem yg.mono {P : Program} {w : World} {K : PySem.W.Frag} {mg : Str -> Option Value} {base : Heap} {CX : CXT} {j k : Nat} {f : Addr} {fd : FuncData} {ps : List Str} {sp : Sp} (F : yg P w K mg base CX j f fd ps sp) (h : j <= k) :
    yg P w K mg base CX k f fd ps sp := ⟨F.len, fun A outer s H args us vs Q E hr => F.run A outer s H args us vs Q E (hr.mono h)⟩
theorem yg.imp {P : Program} {w : World} {K : PySem.W.Frag} {mg : Str -> Option Value} {base : Heap} {CX : CXT} {k : Nat} {f : Addr} {fd : FuncData} {ps : List Str} {sp sp' : Sp} (F : yg P w K mg base CX k f fd ps sp)
    (h : ∀ vs H Q E, sp' vs H Q E -> sp vs H Q E) : yg P w K mg base CX k f fd ps sp' :=
  ⟨fun vs H Q E q => F.len vs H Q E (h _ _ _ _ q), fun A outer s H args us vs Q E hr he hb hv hs => F.run A outer s H args us vs Q E hr he hb hv (h _ _ _ _ hs)⟩
theorem zhH.make {P : Program} {w : World} {K : PySem.W.Frag} {mg : Str -> Option Value} {base : Heap} {A : Around} {outer : List Env} {s : Shared} {H : Hp} (e : zhH P w K mg base A outer s H) (C : Addr) (us : List Value) (kw : List (Str × Value)) :
    zhH P w K mg base (A.under (.builtin "type.__call__" ⟨.ref C :: us, kw⟩)) outer s H := ⟨by first | exact e.frames | (simpa [Around.under, Code.envs, Code.isFrame, pushEnvs] using e.frames), e.mod, e.bs, e.bsz, e.funs, e.frf, e.hok, e.bare⟩
section
variable {X : Cx} {pins : List (Addr × Obj)} {σ : St} {H : Hp} {s s' : Shared}
theorem Inv.env0 (I : Inv X pins σ H s) : zhH X.prog X.w X.K X.mg X.base X.A X.stack s H :=
  ⟨I.ok.frames, I.ok.mod, I.bs, Nat.le_trans I.ok.bsz I.sz, I.stack, I.stkFree, I.hok, I.bare⟩
theorem Inv.after {Q : VK} {u : Value} (I : Inv X pins σ H s) (h : CE X.stack X.prog X.w H s Q u s') : EP X pins σ Q u s' := by
  obtain ⟨v, H', os, bare, un, hok, r, q⟩ := h
  obtain ⟨hh, g, d, t, os'⟩ := s'
  obtain rfl : os' = s.os := os
  exact ⟨v, H', I.call (h' := hh) (g' := g) (d' := d) (t' := t) (ch := []) un hok bare (fun b z => absurd z (by simp)), r, q⟩
end
def zgj (sp : Sp) (dvs : List V) (E : XK) (t : TA) : TE := fun σ H Q => t σ H fun vs H1 => sp (vs ++ dvs) H1 Q E
def zfC (C : Addr) (m : Str) (sp : Sp) (dvs : List V) (E : XK) (ta : TE) (t : TA) : TE := fun σ H Q => ta σ H fun x H1 => ∃ a dx fs, x = .ref a /\ H1 a = some (.ins C dx fs) /\ fs.lookup m = none /\
  t σ H1 fun vs H2 => sp (x :: (vs ++ dvs)) H2 Q E
def zjV (C : Addr) (sp : Sp) (dvs : List V) (E : XK) (t : TA) : TE := fun σ H Q => t σ H fun vs H1 => ∀ x dx, H1 x = none -> H1 dx = none -> dx ≠ x ->
  sp (.ref x :: (vs ++ dvs)) (upd (upd H1 dx (.own x)) x (.ins C dx [])) (fun v H2 => v = .non /\ Q (.ref x) H2) E
def qG (K : PySem.W.Frag) (fd : FuncData) (ps : List Str) (ds : List Value) : Prop :=
  ∀ (s : Shared) (us : List Value), K.In s.heap -> (us ++ ds).length = ps.length -> BindsTo s fd ⟨us, []⟩ (ps.zip (us ++ ds))
theorem qG.all {K : PySem.W.Frag} {fd : FuncData} {ps : List Str} (h : ∀ us : List Value, us.length = ps.length -> bindArgs fd ⟨us, []⟩ = pure (ps.zip us)) : qG K fd ps [] := fun s us _ hl => by
  rw [List.append_nil] at hl ⊢
  exact .of_eq (h us hl)
def xZ (CX : CXT) (X : Cx) (E : XK) : Prop := ∀ (pins : List (Addr × Obj)) (σ : St) (H : Hp) (s : Shared) (e : Value) (s' : Shared), Inv X pins σ H s -> CX X.stack H s E e s' -> X.xe e s'
section
variable {X : Cx} {CX : CXT} {k : Nat} {f C : Addr} {fd : FuncData} {ps : List Str} {sp : Sp} {dvs : List V} {ds : List Value} {E : XK} {x m : Str} {p pos apos : Pos} {e o : Expr} {es : List Expr} {ta : TE} {t : TA}
theorem zb3 {pins : List (Addr × Obj)} {σ : St} {H : Hp} {s : Shared} {Q : VK} {us : List Value} {vs : List V} (F : yg X.prog X.w X.K X.mg X.base CX k f fd ps sp) (hr : yp k X.A) (hb : qG X.K fd ps ds) (hd : z7 dvs ds) (hx : xZ CX X E)
    (I : Inv X pins σ H s) (r : z7 vs us) (h : sp (vs ++ dvs) H Q E) : wpAny (model X.prog X.w) X.A (call (.ref f) us) (EP X pins σ Q) X.xe s := by
  have r2 : z7 (vs ++ dvs) (us ++ ds) := r.append hd
  have hl : (us ++ ds).length = ps.length := by rw [<- r2.length]; exact F.len _ _ _ _ h
  refine wpAny_call (codeAny_mono (F.run X.A X.stack s H ⟨us, []⟩ (us ++ ds) (vs ++ dvs) Q E hr I.env0 (hb s us I.kIn hl) r2 h) fun r s' hq => ?_)
  cases r with
  | error e => exact hx pins σ H s e s' I hq
  | ok fl =>
    cases fl with
    | ret u => exact I.after hq
    | next => exact False.elim hq
    | brk => exact False.elim hq
    | cont => exact False.elim hq
theorem zbm (F : yg X.prog X.w X.K X.mg X.base CX k f fd ps sp) (hr : yp k X.A) (hg : Gl X x) (hm : X.mg x = some (.ref f)) (hk : PySem.W.keepIn X.K (.ref f) = true) (hb : qG X.K fd ps ds) (hd : z7 dvs ds) (hx : xZ CX X E)
    (ha : PA X (e :: es) t) (hdb : (x == ("__debug__" : Str)) = false := by decide) (he : starEach (e :: es) X.env = (false, eval e X.env) :: starEach es X.env := by rfl) (hpl : (backTo pos (starEach es X.env)).any (·.1) = false := by rfl) :
    PE X (.Call (.Name x p) (e :: es) [] pos) (zgj sp dvs E t) := by
  intro pins s σ H Q I h
  refine wpAny_Call_Name_kw (xC I hg hm ?_ hdb)
  refine PySem.W.callWith_K (h₀ := X.base) I.ok.mod.kin hk (thn (ha pos pins s σ H _ I h) fun us s1 ⟨vs, H1, I1, r, q⟩ => ⟨I1.kIn, ?_⟩) he hpl
  exact zb3 F hr hb hd hx I1 r q
theorem zit {pl : Sem Bool} (he : PE X o ta) (c : Cls X.K C) (hm : zi4 X.K C m f) (F : yg X.prog X.w X.K X.mg X.base CX k f fd ps sp) (hr : yp k X.A) (hb : qG X.K fd ps ds) (hd : z7 dvs ds) (hx : xZ CX X E) (ha : PA X (e :: es) t)
    (hst : starEach (e :: es) X.env = (false, eval e X.env) :: starEach es X.env := by rfl) (hpl : (backTo pos (starEach es X.env)).any (·.1) = false := by rfl)
    (ht : eval (.Call (.Attribute o m apos) (e :: es) [] pos) X.env = (do
      let ov <- eval o X.env
      standAt apos.atName
      let (f, first) <- holding [ov] (getMethod ov m pl)
      callWith pos f first (backTo pos (starEach (e :: es) X.env)) (backToKw pos (keywordEach [] X.env))) := by rfl) :
    PE X (.Call (.Attribute o m apos) (e :: es) [] pos) (zfC C m sp dvs E ta t) := by
  intro pins s σ H Q I h
  refine PySem.W.methodCall_KW (pl := pl) (thn (he pins s σ H _ I h) fun u s1 ⟨x, H1, I1, rx, a, dx, fs, ex, ea, l, q⟩ => ?_) ht
  subst ex
  obtain rfl : u = Value.ref a := rx
  refine kF I1 ea c hm l ?_
  refine PySem.W.callWith_K (first := [.ref a]) (h₀ := X.base) I.ok.mod.kin hm.kp (thn (ha pos pins s1 σ H1 _ I1 q) fun us s2 ⟨vs, H2, I2, r, q2⟩ => ⟨I2.kIn, ?_⟩) hst hpl
  exact zb3 (us := .ref a :: us) (vs := .ref a :: vs) F hr hb hd hx I2 (.cons rfl r) q2
theorem zfw {pl : Sem Bool} (he : PE X o ta) (c : Cls X.K C) (hm : zi4 X.K C m f) (F : yg X.prog X.w X.K X.mg X.base CX k f fd ps sp) (hr : yp k X.A) (hb : qG X.K fd ps ds) (hd : z7 dvs ds) (hx : xZ CX X E)
    (ht : eval (.Call (.Attribute o m apos) [] [] pos) X.env = (do
      let ov <- eval o X.env
      standAt apos.atName
      let (f, first) <- holding [ov] (getMethod ov m pl)
      callWith pos f first (backTo pos (starEach [] X.env)) (backToKw pos (keywordEach [] X.env))) := by rfl) :
    PE X (.Call (.Attribute o m apos) [] [] pos) (zfC C m sp dvs E ta zkR) := by
  intro pins s σ H Q I h
  refine PySem.W.methodCall_KW (pl := pl) (thn (he pins s σ H _ I h) fun u s1 ⟨x, H1, I1, rx, a, dx, fs, ex, ea, l, q⟩ => ?_) ht
  subst ex
  obtain rfl : u = Value.ref a := rx
  refine kF I1 ea c hm l ?_
  exact PySem.W.callWith_K0 (first := [.ref a]) I1.kIn hm.kp (zb3 (us := [.ref a]) (vs := [.ref a]) F hr hb hd hx I1 (.cons rfl .nil) q)
structure Mk (K : PySem.W.Frag) (C f : Addr) : Prop where
  makes : PySem.W.makesIn K C = true
  init : PySem.W.findIn K (.ref C) "__init__" = some (some (.ref f))
  fn : PySem.W.isFn K (.ref f) = true
  kp : PySem.W.keepIn K (.ref C) = true
theorem zfS {pins : List (Addr × Obj)} {σ : St} {H : Hp} {s : Shared} {Q : VK} {us : List Value} {vs : List V} (M : Mk X.K C f) (F : yg X.prog X.w X.K X.mg X.base CX k f fd ps sp) (hr : yp (k + 1) X.A) (hb : qG X.K fd ps ds) (hd : z7 dvs ds)
    (hx : xZ CX X E) (I : Inv X pins σ H s) (r : z7 vs us)
    (h : ∀ x dx, H x = none -> H dx = none -> dx ≠ x -> sp (.ref x :: (vs ++ dvs)) (upd (upd H dx (.own x)) x (.ins C dx [])) (fun v H2 => v = .non /\ Q (.ref x) H2) E) :
    wpAny (model X.prog X.w) X.A (call (.ref C) us) (EP X pins σ Q) X.xe s := by
  have hq := h (s.heap.objs.size + 1) s.heap.objs.size (I.hok.fresh (Nat.le_succ _)) (I.hok.fresh (Nat.le_refl _)) (Nat.ne_of_lt (Nat.lt_succ_self _))
  have I2 := Inv.made (C := C) I
  have r2 : z7 (V.ref (s.heap.objs.size + 1) :: (vs ++ dvs)) (Value.ref (s.heap.objs.size + 1) :: (us ++ ds)) := .cons rfl (r.append hd)
  have hl : (Value.ref (s.heap.objs.size + 1) :: us ++ ds).length = ps.length := by
    have e := r2.length
    rw [F.len _ _ _ _ hq] at e
    exact e.symm
  refine wpAny_call (zgr (f := f) I.kIn M.makes M.init (beq_iff_eq.mp M.fn) (codeAny_mono (F.run _ X.stack _ _ ⟨Value.ref (s.heap.objs.size + 1) :: us, []⟩ (Value.ref (s.heap.objs.size + 1) :: (us ++ ds)) _ _ E (hr.make C us [])
    (I2.env0.make C us []) (hb _ (Value.ref (s.heap.objs.size + 1) :: us) I2.kIn hl) r2 hq) fun r s' hq' => ?_))
  cases r with
  | error e => exact hx pins σ _ _ e s' I2 hq'
  | ok fl =>
    cases fl with
    | ret u =>
      obtain ⟨v, H', I3, rv, ev, q3⟩ := I2.after hq'
      subst ev
      exact ⟨rv, ⟨V.ref (s.heap.objs.size + 1), H', I3, rfl, q3⟩⟩
    | next => exact False.elim hq'
    | brk => exact False.elim hq'
    | cont => exact False.elim hq'
theorem zgZ (M : Mk X.K C f) (F : yg X.prog X.w X.K X.mg X.base CX k f fd ps sp) (hr : yp (k + 1) X.A) (hg : Gl X x) (hm : X.mg x = some (.ref C)) (hb : qG X.K fd ps ds) (hd : z7 dvs ds) (hx : xZ CX X E)
    (ha : PA X (e :: es) t) (hdb : (x == ("__debug__" : Str)) = false := by decide) (he : starEach (e :: es) X.env = (false, eval e X.env) :: starEach es X.env := by rfl) (hpl : (backTo pos (starEach es X.env)).any (·.1) = false := by rfl) :
    PE X (.Call (.Name x p) (e :: es) [] pos) (zjV C sp dvs E t) := by
  intro pins s σ H Q I h
  refine wpAny_Call_Name_kw (xC I hg hm ?_ hdb)
  refine PySem.W.callWith_K (h₀ := X.base) I.ok.mod.kin M.kp (thn (ha pos pins s σ H _ I h) fun us s1 ⟨vs, H1, I1, r, q⟩ => ⟨I1.kIn, ?_⟩) he hpl
  exact zfS M F hr hb hd hx I1 r q
end
section
variable {X : Cx} {CX : CXT} {k : Nat} {f C : Addr} {fd : FuncData} {ps ks : List Str} {sp : Sp} {E : XK} {x m : Str} {p pos apos kpos : Pos} {e o : Expr} {es : List Expr} {kws : List Keyword} {te ta : TE} {t tk : TA} {nm : Option Str}
variable {g : List Value -> List Value -> List Value} {gV : List V -> List V -> List V}
end
structure zq (N P : List Str) (sc : Scope) : Prop where
  kind : sc.kind = .function
  co : sc.isCoroutine = false
  gen : sc.isGenerator = false
  nd : N.Nodup
  pre : N.take P.length = P
  par : ∀ x ∈ P, sc.names.lookup x = some .local \/ sc.names.lookup x = some .cell
  nofree : ∀ y ∈ sc.names, y.2 ≠ .free
theorem wL {kindOf : Str -> Option NameKind} {x : Str} : ∀ {binds : List (Str × Value)} {m : Str -> Option Value}, (∀ v, (x, v) ∉ binds) -> bindL kindOf binds m x = m x
  | [], _, _ => rfl
  | (n, v) :: r, m, h => by
    unfold bindL
    rw [wL fun w hw => h w (List.mem_cons_of_mem _ hw)]
    split
    . have : x ≠ n := by rintro rfl; exact h v List.mem_cons_self
      simp [this]
    . rfl
theorem zag {kindOf : Str -> Option NameKind} {x : Str} : ∀ {binds : List (Str × Value)} {m : Str -> Option Value}, (∀ v, (x, v) ∉ binds) -> bindC kindOf binds m x = m x
  | [], _, _ => rfl
  | (n, v) :: r, m, h => by
    unfold bindC
    rw [zag fun w hw => h w (List.mem_cons_of_mem _ hw)]
    split
    . rfl
    . have : x ≠ n := by rintro rfl; exact h v List.mem_cons_self
      simp [this]
theorem zaa {kindOf : Str -> Option NameKind} {x : Str} {v : Value} : ∀ {P : List Str} {vs : List Value} {i : Nat} {m : Str -> Option Value}, P.Nodup -> P[i]? = some x -> vs[i]? = some v -> kindOf x = some .local ->
    bindL kindOf (P.zip vs) m x = some v
  | [], _, _, _, _, h, _, _ => by simp at h
  | _ :: _, [], _, _, _, _, h, _ => by simp at h
  | p :: P, w :: vs, 0, m, nd, h1, h2, hk => by
    simp at h1 h2; subst h1; subst h2
    show bindL kindOf ((p, w) :: P.zip vs) m p = _
    unfold bindL
    rw [wL fun v hv => (List.nodup_cons.mp nd).1 (List.of_mem_zip hv).1, if_pos hk]
    simp
  | p :: P, w :: vs, i + 1, m, nd, h1, h2, hk => by
    show bindL kindOf ((p, w) :: P.zip vs) m x = _
    unfold bindL
    exact zaa (i := i) (List.nodup_cons.mp nd).2 (by simpa using h1) (by simpa using h2) hk
theorem wX {kindOf : Str -> Option NameKind} {x : Str} {v : Value} : ∀ {P : List Str} {vs : List Value} {i : Nat} {m : Str -> Option Value}, P.Nodup -> P[i]? = some x -> vs[i]? = some v -> kindOf x ≠ some .local ->
    bindC kindOf (P.zip vs) m x = some v
  | [], _, _, _, _, h, _, _ => by simp at h
  | _ :: _, [], _, _, _, _, h, _ => by simp at h
  | p :: P, w :: vs, 0, m, nd, h1, h2, hk => by
    simp at h1 h2; subst h1; subst h2
    show bindC kindOf ((p, w) :: P.zip vs) m p = _
    unfold bindC
    rw [zag fun v hv => (List.nodup_cons.mp nd).1 (List.of_mem_zip hv).1, if_neg hk]
    simp
  | p :: P, w :: vs, i + 1, m, nd, h1, h2, hk => by
    show bindC kindOf ((p, w) :: P.zip vs) m x = _
    unfold bindC
    exact wX (i := i) (List.nodup_cons.mp nd).2 (by simpa using h1) (by simpa using h2) hk
def vR (N : List Str) (vs : List V) : St := vs.map some ++ List.replicate (N.length - vs.length) none
def zgJ (CX : CXT) (P : Program) (w : World) (K : PySem.W.Frag) (mg : Str -> Option Value) (base : Heap) (N : List Str) (qual : Str) (scope : Scope) (f : Addr) (cd : Value) (A : Around) (outer : List Env) (s : Shared) (H : Hp) (E : XK) : Cx where
  prog := P
  w := w
  K := K
  mg := mg
  base := base
  A := A.deeper (envOfC qual scope s.heap.objs.size f cd)
  N := N
  s_0 := s
  H_0 := H
  env := envOfC qual scope s.heap.objs.size f cd
  outer := outer
  stack := envOfC qual scope s.heap.objs.size f cd :: outer
  ex := []
  calm := true
  fn := fun _ => true
  pn := []
  xe := fun e s' => wpAny (model P w) (A.deeper (envOfC qual scope s.heap.objs.size f cd)) (leaving (envOfC qual scope s.heap.objs.size f cd) e) (fun _ s'' => CX outer H s E e s'') (fun e' s'' => CX outer H s E e' s'') s'
theorem zb8 {sc : Scope} {n : Nat} {x : Str} (h : sc.names.lookup x = some .cell) : ∃ c, (cellsFrom n sc.names []).lookup x = some c := by
  have q := PySem.W.cellsFrom_some sc.names n [] (.inl h)
  exact Option.isSome_iff_exists.mp q
theorem zee {CX : CXT} {P : Program} {w : World} {K : PySem.W.Frag} {mg : Str -> Option Value} {base : Heap} {N ps : List Str} {qual : Str} {scope : Scope} {f : Addr} {cd : Value} {A : Around} {outer : List Env} {s s1 : Shared} {H : Hp} {E : XK} {us : List Value} {vs : List V}
    (S : zq N ps scope) (hd : A.handled = none) (e0 : zhH P w K mg base A outer s H) (hl : vs.length = ps.length) (r : z7 vs us)
    (x : InCallC s s.heap.objs.size (bindL (envOfC qual scope s.heap.objs.size f cd).kindOf (ps.zip us) fun _ => none) (cellsFrom (s.heap.objs.size + 1) scope.names []) (bindC (envOfC qual scope s.heap.objs.size f cd).kindOf (ps.zip us) fun _ => none) s1) :
    Inv (zgJ CX P w K mg base N qual scope f cd A outer s H E) [] (vR N vs) H s1 := by
  have hpl : ps.length <= N.length := by have := congrArg List.length S.pre; rw [List.length_take] at this; omega
  obtain ⟨h1, tk, rfl, hk⟩ := x.done
  have noA : ∀ b : Addr, b ∉ (zgJ CX P w K mg base N qual scope f cd A outer s H E).ex := fun b z => absurd (show b ∈ ([] : List Addr) from z) (by simp)
  refine ⟨⟨e0.mod, S.kind, rfl, rfl, Nat.le_refl _, fun y z c h1 h2 => ?_, fun y hy => ?_, fun y c _ h => ?_, fun _ => hd, Around.frames_deeper e0.frames, .inr ⟨rfl, rfl⟩, fun b z => absurd z (noA b), e0.bs, e0.bsz, fun b _ _ => noA b, fun b z => absurd z (noA b), e0.funs, e0.frf⟩,
    rfl, e0.bare, Un.kept hk, ⟨_, x.toInCall.ns, fun i y v h1 h2 h3 => ?_⟩, fun y c h => ⟨_, x.cell y c h⟩, e0.hok.fresh (Nat.le_refl _), fun y c h => ?_, fun p hp => absurd (show p ∈ ([] : List (Addr × Obj)) from hp) (by simp), e0.hok.kept hk, ?_⟩
  . exact name_of_addr x.apart (PySem.mem_of_lookup h1) (PySem.mem_of_lookup h2)
  . have hy : scope.names.lookup y = some .cell \/ scope.names.lookup y = some .free := hy
    rcases hy with hy | hy
    . exact zb8 hy
    . exact absurd rfl (S.nofree _ (PySem.mem_of_lookup hy))
  . exact Nat.le_of_lt (x.above y c (PySem.mem_of_lookup h))
  . have hi : i < vs.length := by
      unfold vR at h2
      by_cases hi : i < vs.length
      . exact hi
      . rw [List.getElem?_append_right (by simpa using hi)] at h2
        rw [List.getElem?_replicate] at h2
        split at h2 <;> cases h2
    have ha : vs[i]? = some v := by
      unfold vR at h2
      rw [List.getElem?_append_left (by simpa using hi), List.getElem?_map] at h2
      cases e : vs[i]? with
      | none => rw [e] at h2; cases h2
      | some a => rw [e] at h2; cases h2; rfl
    obtain ⟨u, hu, rv⟩ := r.get ha
    have hp : ps[i]? = some y := by
      rw [<- S.pre, List.getElem?_take_of_lt (by omega)]; exact h1
    have ndP : ps.Nodup := by rw [<- S.pre]; exact S.nd.sublist (List.take_sublist _ _)
    refine ⟨u, rv, ?_⟩
    rcases S.par y (List.mem_of_getElem? hp) with k | k
    . exact .inl ⟨k, zaa ndP hp hu k⟩
    . obtain ⟨c, e⟩ := zb8 (n := s.heap.objs.size + 1) k
      refine .inr ⟨.inl k, c, e, ?_⟩
      have q := x.cell y c e
      rw [wX ndP hp hu (by show scope.names.lookup y ≠ _; rw [k]; decide)] at q
      exact q
  . exact e0.hok.fresh (Nat.le_of_lt (x.above y c (PySem.mem_of_lookup h)))
  . unfold vR
    show _ = N.length
    rw [List.length_append, List.length_map, List.length_replicate]
    omega
theorem zjW {CX : CXT} {P : Program} {w : World} {K : PySem.W.Frag} {mg : Str -> Option Value} {base : Heap} {k : Nat} {f : Addr} {name qual : Str} {params : Arguments} {body : List Stmt} {scope : Scope} {dV kV doc pm cdv ct oc : Value} {an od : Option Addr}
    {osl : Array (Option Value)} {N ps : List Str} {sp : Sp} (lk : K.lookup f = some ⟨oc, od, .func (PySem.W.fnOf name qual params body scope dV kV doc pm an cdv ct), osl⟩) (hcd : PySem.W.codeIn K cdv qual = true) (S : zq N ps scope)
    (len : ∀ vs H Q E, sp vs H Q E -> vs.length = ps.length)
    (hbody : ∀ (A : Around) (outer : List Env) (s : Shared) (H : Hp) (vs : List V) (Q : VK) (E : XK), yp k (A.deeper (envOfC qual scope s.heap.objs.size f cdv)) -> sp vs H Q E ->
      ∃ t, PSs (zgJ CX P w K mg base N qual scope f cdv A outer s H E) body t /\ t { nx := fun _ H' => Q .non H', rt := Q } (vR N vs) H) :
    yg P w K mg base CX (k + 1) f (PySem.W.fnOf name qual params body scope dV kV doc pm an cdv ct) ps sp := by
  refine ⟨len, fun A outer s H args us vs Q E hr e0 hb r hsp => ?_⟩
  have hl := len _ _ _ _ hsp
  have KX : K.In s.heap := e0.mod.kin.keeps fun b o e => (e0.bs b o e).1
  have lim : s.heap.NoLimit := e0.mod.nolimit.keeps fun b o e => (e0.bs b o e).1
  have hkind : ∀ y ∈ ps.zip us, scope.names.lookup y.1 = some .local \/ (scope.names.lookup y.1 = some .cell /\ ((cellsFrom (s.heap.objs.size + 1) scope.names []).lookup y.1).isSome = true) := fun ⟨n, v⟩ hy => by
    rcases S.par n (List.of_mem_zip hy).1 with q | q
    . exact .inl q
    . exact .inr ⟨q, PySem.W.cellsFrom_some _ _ _ (.inl q)⟩
  refine codeAny_call_function hr.depth (KX _ _ lk) rfl S.co S.gen rfl (PySem.W.codeRec_of KX hcd) (hb _ _ _ _ ?_)
  refine wpAny_newFunctionEnv_cells S.kind hkind fun env he s1 x => ?_
  subst he
  refine ⟨lim.keeps x.toInCall.keep, codeAny_func ?_⟩
  obtain ⟨t, ht, hq⟩ := hbody A outer s H vs Q E (hr.deeper _) hsp
  have I : Inv (zgJ CX P w K mg base N qual scope f cdv A outer s H E) [] (vR N vs) H s1 := zee S hr.hd e0 hl r x
  refine wpAny_mono (ht [] s1 (vR N vs) H _ I hq) (fun fl s' hs => ?_) fun e s' hs => hs
  have fin : ∀ {σ' : St} {H' : Hp} {v : V} {u : Value}, Inv (zgJ CX P w K mg base N qual scope f cdv A outer s H E) [] σ' H' s' -> yc v u -> Q v H' -> CE outer P w H s Q u s' :=
    fun {σ' H' v u} J rv q => ⟨v, H', J.os, J.bare, J.base, J.hok, rv, q⟩
  cases fl with
  | ret u =>
    obtain ⟨v, σ', H', J, rv, q⟩ := hs
    exact fin J rv q
  | next =>
    obtain ⟨σ', H', J, q⟩ := hs
    exact fin (v := V.non) (u := Value.none) J rfl q
  | brk =>
    obtain ⟨_, _, _, q⟩ := hs
    exact False.elim q
  | cont =>
    obtain ⟨_, _, _, q⟩ := hs
    exact False.elim q
end L2
namespace L2
open PySem PySem.Spec PyProof.Rows
section
variable {X : Cx} {x : Str} {p pos : Pos} {e : Expr} {es : List Expr} {t : TA} {id T : String} {r : List V -> Hp -> VK -> Prop}
def tCB (r : List V -> Hp -> VK -> Prop) (t : TA) : TE := fun σ H Q => t σ H fun vs H1 => r vs H1 Q
theorem zL (hc : qI X (.builtin id) r) (hg : Gl X x) (hm : X.mg x = none) (hv : bootBuiltins x = some (.builtin id)) (ha : PA X (e :: es) t) (hn : x ≠ "__name__" := by decide) (hdb : (x == ("__debug__" : Str)) = false := by decide)
    (he : starEach (e :: es) X.env = (false, eval e X.env) :: starEach es X.env := by rfl) (hpl : (backTo pos (starEach es X.env)).any (·.1) = false := by rfl) : PE X (.Call (.Name x p) (e :: es) [] pos) (tCB r t) := by
  intro pins s σ H Q I h
  refine wpAny_Call_Name_kw (zbK I hg hm hv ?_ hn hdb)
  exact PyProof.Rows.callWith_builtin1 (thn (ha pos pins s σ H _ I h) fun us s1 ⟨vs, H1, I1, r1, q1⟩ => hc pins s1 σ H1 vs us Q I1 r1 q1) he hpl
end
end L2
namespace HT
open PySem PyProof.Rows
section
open PySem.SeqAt
open PySem.AutoSeq1 (wpAny_loadPart')
open PySem.MeetsSeq PySem.MeetsSeq2 PySem.MeetsSeq3
end
section
variable {prog : Program} {w : World} {A : Around} {E : Value -> Shared -> Prop} {s : Shared}
def sIx (n d : Nat) : Option Int -> Nat
  | none => d
  | some v => if v < 0 then (v + (n : Int)).toNat else min v.toNat n
theorem zbe (n d k : Nat) : sIx n d (some (k : Int)) = min k n := by
  show (if (k : Int) < 0 then ((k : Int) + (n : Int)).toNat else min (k : Int).toNat n) = min k n
  rw [if_neg (by omega), Int.toNat_natCast]
theorem zjF (n d : Nat) (hd : d <= n) (o : Option Int) : sIx n d o <= n := by
  cases o with
  | none => exact hd
  | some v =>
    show (if v < 0 then (v + (n : Int)).toNat else min v.toNat n) <= n
    by_cases hv : v < 0
    . rw [if_pos hv]; omega
    . rw [if_neg hv]; exact Nat.min_le_right _ _
theorem zeh (v : Int) (n d : Nat) : (if v < 0 then max (v + (n : Int)) 0 else min v (n : Int)) = ((sIx n d (some v) : Nat) : Int) := by
  show (if v < 0 then max (v + (n : Int)) 0 else min v (n : Int)) = (((if v < 0 then (v + (n : Int)).toNat else min v.toNat n) : Nat) : Int)
  by_cases hv : v < 0
  . simp only [if_pos hv]; omega
  . simp only [if_neg hv]; omega
theorem zcM (lo hi : Option Int) (n : Nat) : Builtin.Slice.sliceAdjust lo hi 1 (n : Int) = (((sIx n 0 lo : Nat) : Int), ((sIx n n hi : Nat) : Int)) := by
  have h1 : ¬ ((1 : Int) < 0) := by omega
  unfold Builtin.Slice.sliceAdjust
  simp only [h1, if_false]
  refine Prod.ext ?_ ?_
  . cases lo with
    | none => rfl
    | some v => exact zeh v n 0
  . cases hi with
    | none => rfl
    | some v => exact zeh v n n
theorem zcN (i j : Nat) : Builtin.Slice.slicePlaces (i : Int) (j : Int) 1 = j - i := by
  unfold Builtin.Slice.slicePlaces
  have h1 : (1 : Int) > 0 := by omega
  simp only [h1, if_true, Int.ediv_one]
  split <;> omega
theorem kN {v : Value} {o : Option Int} {Q : Option Int -> Shared -> Prop} (p : IsPart v o) (h : Q o s) : wpAny (model prog w) A (Builtin.Slice.slicePartIndex v) Q E s := by
  cases p with
  | none => exact slicePart_none h
  | int i t => exact slicePart_int h
theorem sliceApplied_gen {sl : Addr} {vl vu : Value} {lo hi : Option Int} {n : Nat} {Q : Int × Int × Nat -> Shared -> Prop} (hs : s.heap.IsSliceOf sl vl vu .none) (pl : IsPart vl lo) (pu : IsPart vu hi)
    (h : Q (((sIx n 0 lo : Nat) : Int), 1, sIx n n hi - sIx n 0 lo) s) : wpAny (model prog w) A (Builtin.Slice.sliceApplied (.ref sl) (pure (n : Int))) Q E s := by
  obtain ⟨os, hos, hcs, hds⟩ := id hs
  unfold Builtin.Slice.sliceApplied Builtin.Slice.sliceFields
  refine wpAny_bind (wpAny_bind (wpAny_field hos hds (x := vl) rfl (wpAny_bind (wpAny_field hos hds (x := vu) rfl (wpAny_bind (wpAny_field hos hds (x := .none) rfl (wpAny_pure ?_)))))))
  refine wpAny_bind (slicePart_none ?_)
  show wpAny _ _ (if ((1 : Int) == 0) = true then _ else _) _ _ s
  rw [if_neg (by decide)]
  refine wpAny_bind (kN pl (wpAny_bind (kN pu (wpAny_bind (wpAny_pure ?_)))))
  show wpAny _ _ (match Builtin.Slice.sliceAdjust lo hi 1 (n : Int) with | (lo, hi) => pure (lo, (1 : Int), Builtin.Slice.slicePlaces lo hi 1)) _ _ s
  rw [zcM lo hi n]
  show wpAny _ _ (pure (((sIx n 0 lo : Nat) : Int), (1 : Int), Builtin.Slice.slicePlaces ((sIx n 0 lo : Nat) : Int) ((sIx n n hi : Nat) : Int) 1)) _ _ s
  rw [zcN]
  exact wpAny_pure h
theorem zf4 (xs : Array Value) (i k : Nat) : ((List.range k).filterMap fun (m : Nat) => xs[((i : Int) + (m : Int) * 1).toNat]?).toArray = ((xs.toList.drop i).take k).toArray := by
  have e : (fun (m : Nat) => xs[((i : Int) + (m : Int) * 1).toNat]?) = fun m => xs[i + m]? := by
    funext m
    have : ((i : Int) + (m : Int) * 1).toNat = i + m := by omega
    rw [this]
  rw [e]
  have := pick_run xs i k
  rw [List.filterMap_map] at this
  have e2 : ((fun x => xs[x]?) ∘ fun x => i + x) = fun m => xs[i + m]? := rfl
  rw [e2] at this
  rw [this]
theorem getItem_tuple_cut {t sl : Addr} {items : Array Value} {vl vu : Value} {lo hi : Option Int} {Q : Value -> Shared -> Prop} (ht : IsTup s.heap t items) (hs : s.heap.IsSliceOf sl vl vu .none) (pl : IsPart vl lo) (pu : IsPart vu hi)
    (hw : ¬ (sIx items.size 0 lo = 0 /\ sIx items.size items.size hi = items.size))
    (h : Q (.ref s.heap.objs.size) { s with heap := s.heap.push { cls := .type "tuple", data := .seq ((items.toList.drop (sIx items.size 0 lo)).take (sIx items.size items.size hi - sIx items.size 0 lo)).toArray } })
    (hsz : items.size <= sizeLine) : wpAny (model prog w) A (getItem (.ref t) (.ref sl)) Q E s := by
  have htake : sizeOk (.seq ((items.toList.drop (sIx items.size 0 lo)).take (sIx items.size items.size hi - sIx items.size 0 lo)).toArray) := by
    show ((items.toList.drop (sIx items.size 0 lo)).take (sIx items.size items.size hi - sIx items.size 0 lo)).toArray.size <= sizeLine
    rw [List.size_toArray, List.length_take, List.length_drop, Array.length_toList]
    omega
  have hj : sIx items.size items.size hi <= items.size := zjF _ _ (Nat.le_refl _) hi
  obtain ⟨os, hos, hcs, hds⟩ := id hs
  have hTs : s.TypeIs (.ref sl) "slice" := ⟨os, hos, hcs⟩
  unfold getItem
  try with_reducible refine wpAny_holding ?_
  first | refine wpAny_bind (wpAny_pure ?_) | skip
  refine wpAny_bind (wpAny_sequenceKey ht.typeIs (by decide) ?_)
  refine wpAny_bind (wpAny_callSpecial?_slot (name := Str.ofString "__getitem__") ht.typeIs PyProof.Rows.slot_tuple_getitem
    (wpAny_call_entry PyProof.Rows.slot_tuple_getitem ht.typeIs entry_tuple_getitem ?_ (args_tuple_getitem _ _)))
  show wpAny _ _ (Builtin.Tuple.tupleItemsOf (.ref t) >>= _) _ _ s
  refine wpAny_bind (tupleItemsOf_ ht ?_)
  refine wpAny_bind (wpAny_typeOf hTs ?_)
  rw [if_pos (by decide)]
  refine wpAny_bind (sliceApplied_gen hs pl pu ?_)
  have hno : ¬ ((((sIx items.size 0 lo : Nat) : Int) == 0 && (1 : Int) == 1 && (sIx items.size items.size hi - sIx items.size 0 lo) == items.size) = true) := by
    intro q
    rw [Bool.and_eq_true, Bool.and_eq_true] at q
    have q1 : ((sIx items.size 0 lo : Nat) : Int) = 0 := eq_of_beq q.1.1
    have q2 : sIx items.size items.size hi - sIx items.size 0 lo = items.size := eq_of_beq q.2
    exact hw ⟨by omega, by omega⟩
  show wpAny _ _ (if (((sIx items.size 0 lo : Nat) : Int) == 0 && (1 : Int) == 1 && (sIx items.size items.size hi - sIx items.size 0 lo) == items.size) = true then _ else _) _ _ s
  rw [if_neg hno, zf4]
  first
    | exact wpAny_bind (m := Builtin.Tuple.tupleExact _) (wpAny_newObj_type (wpAny_pure ⟨_, rfl, wpAny_pure h⟩) htake)
    | exact wpAny_bind (m := Builtin.Tuple.tupleExact _) (wpAny_newObj_type (wpAny_bind (wpAny_pure (wpAny_pure ⟨_, rfl, wpAny_pure h⟩))) htake)
    | exact wpAny_bind (wpAny_bind (m := Builtin.Tuple.tupleExact _) (wpAny_newObj_type (wpAny_pure (wpAny_pure ⟨_, rfl, wpAny_pure h⟩)) htake))
    | exact wpAny_bind (wpAny_bind (m := Builtin.Tuple.tupleExact _) (wpAny_newObj_type (wpAny_pure ⟨_, rfl, wpAny_pure h⟩) htake))
end
end HT
namespace L2
open PySem PySem.Spec PyProof.Rows
abbrev TO := St -> Hp -> (Option Int -> Hp -> Prop) -> Prop
def PO (X : Cx) (e : Option Expr) (t : TO) : Prop :=
  ∀ (pins : List (Addr × Obj)) (s : Shared) (σ : St) (H : Hp) (Q : Option Int -> Hp -> Prop), Inv X pins σ H s -> t σ H Q ->
    wpAny (model X.prog X.w) X.A (evalPart e X.env) (fun u s' => ∃ o H', Inv X pins σ H' s' /\ IsPart u o /\ Q o H') X.xe s
def zhc : TO := fun _ H Q => Q none H
def zg3 (t : TE) : TO := fun σ H Q => t σ H fun x H1 => ∃ i, x = .int i /\ Q (some i) H1
section
variable {X : Cx} {e : Expr} {te : TE} {lo hi : Option Expr} {tl th : TO} {pos p2 : Pos}
theorem zhm : PO X none zhc := by
  intro pins s σ H Q I h
  rw [evalPart_none]
  exact wpAny_pure ⟨none, H, I, .none, h⟩
theorem jC (h : PE X e te) : PO X (some e) (zg3 te) := by
  intro pins s σ H Q I hw
  rw [evalPart_some]
  refine thn (h pins s σ H _ I hw) fun u s1 ⟨x, H1, I1, r1, q1⟩ => ?_
  obtain ⟨i, rfl, q⟩ := q1
  obtain ⟨t, rfl⟩ := r1
  exact ⟨some i, H1, I1, .int i t, q⟩
def SlR (X : Cx) (r : V -> Option Int -> Option Int -> Hp -> VK -> Prop) : Prop :=
  ∀ (pins : List (Addr × Obj)) (s : Shared) (σ : St) (H : Hp) (x : V) (v vl vu : Value) (lo hi : Option Int) (sl : Addr) (Q : VK), Inv X pins σ H s -> yc x v -> s.heap.IsSliceOf sl vl vu .none -> IsPart vl lo -> IsPart vu hi -> r x lo hi H Q ->
    ∃ T id, typeLookup (.type T) "__getitem__" = pure (some (.builtin id)) /\ s.TypeIs v T /\ wpAny (model X.prog X.w) X.A (getItem v (.ref sl)) (EP X pins σ Q) X.xe s
theorem SlR.or {r r' : V -> Option Int -> Option Int -> Hp -> VK -> Prop} (h : SlR X r) (h' : SlR X r') : SlR X (fun x lo hi H Q => r x lo hi H Q \/ r' x lo hi H Q) := by
  intro pins s σ H x v vl vu lo hi sl Q I rx hs pl pu q
  rcases q with q | q
  . exact h pins s σ H x v vl vu lo hi sl Q I rx hs pl pu q
  . exact h' pins s σ H x v vl vu lo hi sl Q I rx hs pl pu q
def tSl (r : V -> Option Int -> Option Int -> Hp -> VK -> Prop) (te : TE) (tl th : TO) : TE := fun σ H Q => te σ H fun x H1 => tl σ H1 fun l H2 => th σ H2 fun u H3 => r x l u H3 Q
theorem vb {r : V -> Option Int -> Option Int -> Hp -> VK -> Prop} (hr : SlR X r) (he : PE X e te) (hl : PO X lo tl) (hu : PO X hi th) : PE X (.Subscript e (.Slice lo hi none p2) pos) (tSl r te tl th) := by
  intro pins s σ H Q I h
  refine Subscript_ (thn (he pins s σ H _ I h) fun v s1 ⟨x, H1, I1, r1, q1⟩ => ?_)
  refine wpAny_Slice (thn (hl pins s1 σ H1 _ I1 q1) fun vl s2 ⟨l, H2, I2, pl, q2⟩ => thn (hu pins s2 σ H2 _ I2 q2) fun vu s3 ⟨u, H3, I3, pu, q3⟩ => ?_)
  rw [evalPart_none]
  refine wpAny_pure ?_
  have I4 : Inv X pins σ H3 { s3 with heap := s3.heap.push { cls := .type "slice", data := .fields #[vl, vu, .none] } } := I3.kept (t' := s3.toks) fun b ob q => Heap.get?_push_of_some _ q
  obtain ⟨T, id, hT, ht, hg⟩ := hr pins { s3 with heap := s3.heap.push { cls := .type "slice", data := .fields #[vl, vu, .none] } } σ H3 x v vl vu l u s3.heap.objs.size Q I4 r1 (Heap.IsSliceOf.new ..) pl pu q3
  show wpAny (model X.prog X.w) X.A (subscriptTail e (.Slice lo hi none p2) v (.ref s3.heap.objs.size)) (EP X pins σ Q) X.xe { s3 with heap := s3.heap.push { cls := .type "slice", data := .fields #[vl, vu, .none] } }
  exact tail_any (ops := [.ref s3.heap.objs.size, v]) ht hT hg (by with_unfolding_all rfl)
def zc5 (xs : List V) (lo hi : Option Int) : List V := (xs.drop (HT.sIx xs.length 0 lo)).take (HT.sIx xs.length xs.length hi - HT.sIx xs.length 0 lo)
theorem jV (xs : List V) (lo hi : Option Int) : (zc5 xs lo hi).length <= xs.length := by
  unfold zc5
  rw [List.length_take, List.length_drop]
  omega
def zlm (K : PySem.W.Frag) : V -> Option Int -> Option Int -> Hp -> VK -> Prop := fun x lo hi H Q => ∃ a xs, x = .ref a /\ SqT K H a xs /\
  ¬ (HT.sIx xs.length 0 lo = 0 /\ HT.sIx xs.length xs.length hi = xs.length) /\ ∀ p, H p = none -> Q (.ref p) (upd H p (.tup (zc5 xs lo hi)))
theorem ziT : SlR X (zlm X.K) := by
  intro pins s σ H x v vl vu lo hi sl Q I rx hs pl pu h
  obtain ⟨a, xs, rfl, hx, hw, q⟩ := h
  cases rx
  obtain ⟨its, r, ht, hz⟩ := I.tuple hx
  have hlen : its.toArray.size = xs.length := by rw [List.size_toArray]; exact r.length.symm
  refine ⟨"tuple", _, PyProof.Rows.slot_tuple_getitem.lookup, ht.typeIs, ?_⟩
  refine HT.getItem_tuple_cut ht hs pl pu (by rw [hlen]; exact hw) ?_ (by rw [hlen]; exact hz)
  rw [hlen]
  refine ⟨.ref s.heap.objs.size, _, I.laid (t' := s.toks) (o := .tup (zc5 xs lo hi)) (fun b ob q => Heap.get?_push_of_some _ q) (Nat.le_refl _) ?_, rfl, q _ (I.hok.fresh (Nat.le_refl _))⟩
  exact ⟨Nat.le_trans (jV xs lo hi) hz, _, (r.drop (HT.sIx xs.length 0 lo)).take (HT.sIx xs.length xs.length hi - HT.sIx xs.length 0 lo), IsTup.new _ _⟩
end
end L2
namespace L2
open PySem PySem.Spec PyProof.Rows
def ixN (n : Nat) (i : Int) : Option Nat := if 0 <= i then (if i < n then some i.toNat else none) else if -(n : Int) <= i then some (i + n).toNat else none
def atI {α : Type} (xs : List α) (i : Int) : Option α := (ixN xs.length i).bind fun j => xs[j]?
theorem zem {n : Nat} {i : Int} {j : Nat} (h : ixN n i = some j) : seqIndex? i n = some j /\ j < n /\ -(n : Int) <= i /\ i < n := by
  unfold ixN at h
  by_cases h0 : 0 <= i
  . rw [if_pos h0] at h
    by_cases h1 : i < n
    . rw [if_pos h1] at h
      have e : i.toNat = j := Option.some.inj h
      exact ⟨by rw [seqIndex_of h0 h1, e], by omega, by omega, h1⟩
    . rw [if_neg h1] at h; cases h
  . rw [if_neg h0] at h
    by_cases h1 : -(n : Int) <= i
    . rw [if_pos h1] at h
      have e : (i + n).toNat = j := Option.some.inj h
      exact ⟨by rw [seqIndex_neg (by omega) h1, e], by omega, h1, by omega⟩
    . rw [if_neg h1] at h; cases h
theorem zdV {α : Type} {xs : List α} {i : Int} {v : α} (h : atI xs i = some v) : ∃ j, seqIndex? i xs.length = some j /\ xs[j]? = some v /\ j < xs.length /\ -(xs.length : Int) <= i /\ i < xs.length := by
  unfold atI at h
  cases e : ixN xs.length i with
  | none => rw [e] at h; cases h
  | some j =>
    rw [e] at h
    obtain ⟨h1, h2, h3, h4⟩ := zem e
    exact ⟨j, h1, h, h2, h3, h4⟩
theorem zhO {α : Type} {xs : List α} {j : Nat} {v : α} (h : xs[j]? = some v) : atI xs (j : Int) = some v := by
  have hj : j < xs.length := (List.getElem?_eq_some_iff.mp h).1
  have e : ixN xs.length (j : Int) = some j := by
    unfold ixN
    rw [if_pos (by omega), if_pos (by omega)]; simp
  unfold atI; rw [e]; exact h
def ziC (b : Expr) : Prop := ∀ o i, subscripted b false o i = operate [o, i] (getItem o i)
def IxR (X : Cx) (r : R2) : Prop :=
  ∀ (value slice : Expr) (pins : List (Addr × Obj)) (s : Shared) (σ : St) (H : Hp) (x y : V) (v u : Value) (Q : VK), Inv X pins σ H s -> yc x v -> yc y u -> r x y H Q ->
    subscripted slice false v u = operate [v, u] (getItem v u) -> wpAny (model X.prog X.w) X.A (subscriptTail value slice v u) (EP X pins σ Q) X.xe s
def MtR (X : Cx) (id : String) (r : V -> List V -> Hp -> VK -> Prop) : Prop :=
  ∀ (pins : List (Addr × Obj)) (s : Shared) (σ : St) (H : Hp) (x : V) (xs : List V) (v : Value) (us : List Value) (Q : VK), Inv X pins σ H s -> yc x v -> z7 xs us -> r x xs H Q ->
    wpAny (model X.prog X.w) X.A (call (.builtin id) (v :: us)) (EP X pins σ Q) X.xe s
section
variable {X : Cx} {a b : Expr} {ta tb : TE} {pos : Pos}
theorem IxR.or {r r' : R2} (h : IxR X r) (h' : IxR X r') : IxR X (fun x y H Q => r x y H Q \/ r' x y H Q) := by
  intro value slice pins s σ H x y v u Q I rx ry q hs
  rcases q with q | q
  . exact h value slice pins s σ H x y v u Q I rx ry q hs
  . exact h' value slice pins s σ H x y v u Q I rx ry q hs
theorem MtR.or {id : String} {r r' : V -> List V -> Hp -> VK -> Prop} (h : MtR X id r) (h' : MtR X id r') : MtR X id (fun x xs H Q => r x xs H Q \/ r' x xs H Q) := by
  intro pins s σ H x xs v us Q I rx rs q
  rcases q with q | q
  . exact h pins s σ H x xs v us Q I rx rs q
  . exact h' pins s σ H x xs v us Q I rx rs q
theorem yI {r : R2} (hr : IxR X r) (ha : PE X a ta) (hb : PE X b tb) (hs : ziC b) : PE X (.Subscript a b pos) (tOp r ta tb) := by
  intro pins s σ H Q I h
  exact Subscript_ (zkM ha hb I h fun v u s2 x y H2 I2 rx ry q => hr a b pins s2 σ H2 x y v u Q I2 rx ry q (hs _ _))
def zlJ (K : PySem.W.Frag) : R2 := fun x y H Q => ∃ p xs i v, x = .ref p /\ y = .int i /\ SqL K H p xs /\ atI xs i = some v /\ Q v H
def zlE (K : PySem.W.Frag) : R2 := fun x y H Q => ∃ p xs i v, x = .ref p /\ y = .int i /\ SqT K H p xs /\ atI xs i = some v /\ Q v H
theorem zX : IxR X (zlJ X.K) := by
  intro value slice pins s σ H x y v u Q I rx ry h hs
  obtain ⟨p, xs, i, z, rfl, rfl, hq, he, q⟩ := h
  cases rx
  obtain ⟨t, rfl⟩ := ry
  obtain ⟨its, r, pl, hz⟩ := I.list hq
  obtain ⟨j, h1, h2, h3, h4, h5⟩ := zdV he
  obtain ⟨w, ew, rw'⟩ := r.get h2
  have hl := r.length
  have hn := wM
  have fin : EP X pins σ Q w s := ⟨z, H, I, rw', q⟩
  by_cases h0 : 0 <= i
  . have hj : i.toNat = j := by
      rw [seqIndex_of h0 h5] at h1
      exact Option.some.inj h1
    exact item_listR pl.isList h0 (by omega) (by rw [hj]; simpa using ew) fin hs
  . have hj : (i + (its.toArray.size : Int)).toNat = j := by
      rw [seqIndex_neg (by omega) h4] at h1
      rw [List.size_toArray, <- hl]
      exact Option.some.inj h1
    exact subscriptTail_builtinR (x := w) pl.isList.typeIs slot_list_getitem.lookup
      (wpAny_getItem_list_neg (Q := fun r s' => r = w /\ EP X pins σ Q r s') pl.isList (by omega) (by rw [List.size_toArray] <;> omega) (by omega) (by rw [hj]; simpa using ew) ⟨rfl, fin⟩) hs
theorem zdp : IxR X (zlE X.K) := by
  intro value slice pins s σ H x y v u Q I rx ry h hs
  obtain ⟨p, xs, i, z, rfl, rfl, hq, he, q⟩ := h
  cases rx
  obtain ⟨t, rfl⟩ := ry
  obtain ⟨its, r, pl, hz⟩ := I.tuple hq
  obtain ⟨j, h1, h2, h3, h4, h5⟩ := zdV he
  obtain ⟨w, ew, rw'⟩ := r.get h2
  have hl := r.length
  have hn := wM
  have fin : EP X pins σ Q w s := ⟨z, H, I, rw', q⟩
  exact subscriptTail_builtinR (x := w) pl.typeIs slot_tuple_getitem.lookup
    (getItem_tuple (j := j) (Q := fun r s' => r = w /\ EP X pins σ Q r s') pl (by omega) (by omega) (by rw [List.size_toArray, <- hl]; exact h1) (by simpa using ew) ⟨rfl, fin⟩) hs
theorem zc3 (its : List Value) (n j : Nat) (u : Value) : Obj.mapSeq (·.setIfInBounds j u) { cls := .type "list", data := .seq its.toArray n } = { cls := .type "list", data := .seq (its.set j u).toArray n } := by
  simp [Obj.mapSeq]
theorem Inv.lst {pins : List (Addr × Obj)} {σ : St} {H : Hp} {s : Shared} {p : Addr} {xs : List V} (I : Inv X pins σ H s) (h : H p = some (.lst xs)) :
    ∃ (its : List Value) (n : Nat), z7 xs its /\ s.heap.get? p = some { cls := .type "list", data := .seq its.toArray n } /\ xs.length <= sizeLine := by
  obtain ⟨z, its, n, r, e⟩ := I.hok p _ h
  exact ⟨its, n, r, e, z⟩
theorem Inv.lstUpd {pins : List (Addr × Obj)} {σ : St} {H : Hp} {s : Shared} {p : Addr} {xs ys : List V} {its its' : List Value} {n n' : Nat} {f : Obj -> Obj} (I : Inv X pins σ H s) (h : H p = some (.lst xs))
    (ho : s.heap.get? p = some { cls := .type "list", data := .seq its.toArray n }) (hf : f { cls := .type "list", data := .seq its.toArray n } = { cls := .type "list", data := .seq its'.toArray n' }) (r : z7 ys its') (hz : ys.length <= sizeLine) (t : Nat) :
    Inv X pins σ (upd H p (.lst ys)) { s with heap := s.heap.update p f, toks := t } := by
  have e : (s.heap.update p f).get? p = some { cls := .type "list", data := .seq its'.toArray n' } := by
    rw [Heap.get?_update_self f ho (by rw [hf] <;> rfl), hf]
  refine I.write (x := p) (e := p) (by rw [h]; trivial) (.inl rfl) (fun b u hb q => (Heap.get?_update_other _ _ (Ne.symm hb)).trans q) ⟨_, e⟩ ?_
  exact ⟨hz, its', n', r, e⟩
def zkH : V -> V -> V -> Hp -> (Hp -> Prop) -> Prop := fun o i v H Q => ∃ p xs k j, o = .ref p /\ i = .int k /\ H p = some (.lst xs) /\ ixN xs.length k = some j /\ Q (upd H p (.lst (xs.set j v)))
theorem ve : zk6 X zkH := by
  intro pins s σ H o i v ov iv u Q I ro ri rv h
  obtain ⟨p, xs, k, j, rfl, rfl, hp, hj, q⟩ := h
  cases ro
  obtain ⟨t, rfl⟩ := ri
  obtain ⟨its, n, r, ho, hz⟩ := I.lst hp
  obtain ⟨h1, h2, h3, h4⟩ := zem hj
  have hl := r.length
  have hn := wM
  have I' : Inv X pins σ (upd H p (.lst (xs.set j v))) { s with heap := s.heap.update p (Obj.mapSeq (·.setIfInBounds j u)) } :=
    I.lstUpd hp ho (zc3 its n j u) (r.set rv j) (by rw [List.length_set]; exact hz) s.toks
  by_cases h0 : 0 <= k
  . have hk : k.toNat = j := by
      rw [seqIndex_of h0 h4] at h1
      exact Option.some.inj h1
    exact PySem.W.ki_setAt ho h0 (by omega) (by rw [List.size_toArray, <- hl]; exact h4) (by rw [hk]; exact ⟨_, I', q⟩)
  . have hk : (k + (its.toArray.size : Int)).toNat = j := by
      rw [seqIndex_neg (by omega) h3] at h1
      rw [List.size_toArray, <- hl]
      exact Option.some.inj h1
    exact PySem.W.ki_setBack ho (by omega) (by rw [List.size_toArray, <- hl]; exact h3) (by omega) (by rw [hk]; exact ⟨_, I', q⟩)
theorem zap (lo hi : Option Int) (n : Nat) : (sliceBounds lo hi none n).1 = ((HT.sIx n 0 lo : Nat) : Int) /\ (sliceBounds lo hi none n).2.1 = ((HT.sIx n n hi : Nat) : Int) /\ (sliceBounds lo hi none n).2.2 = 1 := by
  refine ⟨?_, ?_, rfl⟩
  . cases lo with
    | none => simp [sliceBounds, HT.sIx]
    | some i =>
      simp only [sliceBounds, HT.sIx, Option.getD_none, show (1 : Int) > 0 by decide, if_true]
      by_cases h : i < 0
      . simp only [h, if_true] <;> omega
      . simp only [h, if_false] <;> omega
  . cases hi with
    | none => simp [sliceBounds, HT.sIx]
    | some i =>
      simp only [sliceBounds, HT.sIx, Option.getD_none, show (1 : Int) > 0 by decide, if_true]
      by_cases h : i < 0
      . simp only [h, if_true] <;> omega
      . simp only [h, if_false] <;> omega
theorem wb (its : List Value) (lo hi : Option Int) : slicePick its.toArray lo hi none = ((its.drop (HT.sIx its.length 0 lo)).take (HT.sIx its.length its.length hi - HT.sIx its.length 0 lo)).toArray := by
  obtain ⟨h1, h2, h3⟩ := zap lo hi its.toArray.size
  unfold slicePick
  rw [h1, h2, h3]
  simp only [sliceRange_one, pick_run, List.size_toArray] <;> rfl
def zkY (K : PySem.W.Frag) : V -> Option Int -> Option Int -> Hp -> VK -> Prop := fun x lo hi H Q => ∃ a xs, x = .ref a /\ SqL K H a xs /\ ∀ p, H p = none -> Q (.ref p) (upd H p (.lst (zc5 xs lo hi)))
theorem zeJ : SlR X (zkY X.K) := by
  intro pins s σ H x v vl vu lo hi sl Q I rx hs pl pu h
  obtain ⟨a, xs, rfl, hx, q⟩ := h
  cases rx
  obtain ⟨its, r, ht, hz⟩ := I.list hx
  have hlen := r.length
  refine ⟨"list", _, slot_list_getitem.lookup, ht.isList.typeIs, ?_⟩
  refine wpAny_getItem_list_slice ht.isList hs pl pu .none (by simp) ?_ (by rw [List.size_toArray] <;> omega)
  rw [wb, <- hlen]
  refine ⟨.ref s.heap.objs.size, _, I.laid (t' := s.toks) (o := .lst (zc5 xs lo hi)) (fun b ob q => Heap.get?_push_of_some _ q) (Nat.le_refl _) ?_, rfl, q _ (I.hok.fresh (Nat.le_refl _))⟩
  exact ⟨Nat.le_trans (jV xs lo hi) hz, _, 0, (r.drop (HT.sIx xs.length 0 lo)).take (HT.sIx xs.length xs.length hi - HT.sIx xs.length 0 lo), Heap.get?_push_size _ rfl⟩
def qT : V -> Bool
  | .non => true
  | .bl _ => true
  | .int _ => true
  | .str _ => true
  | _ => false
def eqV : V -> V -> Bool
  | .non, .non => true
  | .bl a, .bl b => a == b
  | .bl a, .int b => (if a then 1 else 0) == b
  | .int a, .bl b => a == (if b then 1 else 0)
  | .int a, .int b => a == b
  | .str a, .str b => a == b
  | _, _ => false
theorem zjK {A : Around} {s : Shared} {y x : V} {u v : Value} (ry : yc y u) (rx : yc x v) (fy : qT y = true) (fx : qT x = true) : SeqAt.EqAt A s u v (eqV y x) := by
  cases y with
  | non =>
    cases ry
    cases x with
    | non => cases rx; exact SeqAt.EqAt.same _
    | bl b => cases rx; exact SeqAt.EqAt.none_bool b
    | int b => obtain ⟨t, rfl⟩ := rx; exact SeqAt.EqAt.none_int b t
    | str b => obtain ⟨t, rfl⟩ := rx; exact SeqAt.EqAt.none_str b t
    | _ => exact absurd (show false = true from fx) Bool.false_ne_true
  | bl a =>
    cases ry
    cases x with
    | non => cases rx; exact SeqAt.EqAt.bool_none a
    | bl b => cases rx; exact SeqAt.EqAt.bool_bool a b
    | int b => obtain ⟨t, rfl⟩ := rx; exact SeqAt.EqAt.bool_int a b t
    | str b => obtain ⟨t, rfl⟩ := rx; exact SeqAt.EqAt.bool_str a b t
    | _ => exact absurd (show false = true from fx) Bool.false_ne_true
  | int a =>
    obtain ⟨t', rfl⟩ := ry
    cases x with
    | non => cases rx; exact SeqAt.EqAt.int_none a t'
    | bl b => cases rx; exact SeqAt.EqAt.int_bool a t' b
    | int b => obtain ⟨t, rfl⟩ := rx; exact SeqAt.EqAt.int_int a t' b t
    | str b => obtain ⟨t, rfl⟩ := rx; exact SeqAt.EqAt.int_str a t' b t
    | _ => exact absurd (show false = true from fx) Bool.false_ne_true
  | str a =>
    obtain ⟨t', rfl⟩ := ry
    cases x with
    | non => cases rx; exact SeqAt.EqAt.str_none a t'
    | bl b => cases rx; exact SeqAt.EqAt.str_bool a t' b
    | int b => obtain ⟨t, rfl⟩ := rx; exact SeqAt.EqAt.str_int a t' b t
    | str b => obtain ⟨t, rfl⟩ := rx; exact SeqAt.EqAt.str_str a t' b t
    | _ => exact absurd (show false = true from fx) Bool.false_ne_true
  | _ => exact absurd (show false = true from fy) Bool.false_ne_true
def eqU (x : V) (u : Value) : Bool := match u with
  | .none => eqV .non x
  | .bool b => eqV (.bl b) x
  | .int i _ => eqV (.int i) x
  | .str z _ => eqV (.str z) x
  | _ => false
theorem zbZ {x y : V} {u : Value} (r : yc y u) (f : qT y = true) : eqU x u = eqV y x := by
  cases y with
  | non => cases r; rfl
  | bl b => cases r; rfl
  | int i => obtain ⟨t, rfl⟩ := r; rfl
  | str z => obtain ⟨t, rfl⟩ := r; rfl
  | _ => exact absurd (show false = true from f) Bool.false_ne_true
theorem zaC {x : V} : ∀ {xs : List V} {us : List Value}, z7 xs us -> xs.all qT = true -> us.any (eqU x) = xs.any fun y => eqV y x
  | _, _, .nil, _ => rfl
  | y :: xs, u :: us, .cons r t, f => by
    rw [List.all_cons, Bool.and_eq_true] at f
    rw [List.any_cons, List.any_cons, zbZ r f.1, zaC t f.2]
theorem ju {A : Around} {s : Shared} {x : V} {v : Value} (rx : yc x v) (fx : qT x = true) : ∀ {xs : List V} {us : List Value}, z7 xs us -> xs.all qT = true -> ∀ u ∈ us, SeqAt.EqAt A s u v (eqU x u)
  | _, _, .nil, _ => fun u hu => by cases hu
  | y :: xs, u :: us, .cons r t, f => fun u' hu => by
    rw [List.all_cons, Bool.and_eq_true] at f
    rcases List.mem_cons.mp hu with rfl | hu
    . rw [zbZ r f.1]; exact zjK r rx f.1 fx
    . exact ju rx fx t f.2 u' hu
def inV (x : V) (xs : List V) : Bool := xs.any fun y => eqV y x
def rIn (K : PySem.W.Frag) (neg : Bool) : R2 := fun x y H Q => ∃ p xs, y = .ref p /\ (SqL K H p xs \/ SqT K H p xs) /\ qT x = true /\ xs.all qT = true /\ Q (.bl (if neg then !inV x xs else inV x xs)) H
theorem zeO : OpR X (compareOp .In) (rIn X.K false) := by
  intro pins s σ H x y v u Q I rx ry h
  obtain ⟨p, xs, rfl, hq, fx, fs, q⟩ := h
  cases ry
  rcases hq with hq | hq
  . obtain ⟨its, r, pl, hz⟩ := I.list hq
    refine SeqAt.in_listAt (eqU x) pl.isList (fun w hw => ju rx fx r fs w (by simpa using hw)) ⟨.bl _, H, I, rfl, ?_⟩
    rw [show its.toArray.any (eqU x) = its.any (eqU x) by simp, zaC r fs]
    exact q
  . obtain ⟨its, r, pl, hz⟩ := I.tuple hq
    refine SeqAt.in_tupleAt (eqU x) pl (fun w hw => ju rx fx r fs w (by simpa using hw)) ⟨.bl _, H, I, rfl, ?_⟩
    rw [show its.toArray.any (eqU x) = its.any (eqU x) by simp, zaC r fs]
    exact q
theorem zC : qI X (.builtin "len") (fun xs H Q => ∃ p ys, xs = [.ref p] /\ (SqL X.K H p ys \/ SqT X.K H p ys) /\ Q (.int ys.length) H) := by
  intro pins s σ H xs us Q I r h
  obtain ⟨p, ys, rfl, hq, q⟩ := h
  obtain ⟨u, rfl, rx⟩ := zeK r
  cases rx
  have hn := wM
  rcases hq with hq | hq
  . obtain ⟨its, r', pl, hz⟩ := I.list hq
    have hlen := r'.length
    exact Calls.call_len_list pl.isList (by simp only [List.size_toArray] <;> omega) ⟨.int ys.length, H, I.tok _, ⟨s.toks + 1, by rw [List.size_toArray, hlen]⟩, q⟩
  . obtain ⟨its, r', pl, hz⟩ := I.tuple hq
    have hlen := r'.length
    exact len_tuple pl (by simp only [List.size_toArray] <;> omega) ⟨.int ys.length, H, I.tok _, ⟨s.toks + 1, by rw [List.size_toArray, hlen]⟩, q⟩
theorem wt : qI X (.builtin "len") (fun xs H Q => ∃ z, xs = [.str z] /\ z.length <= sizeLine /\ Q (.int z.length) H) := by
  intro pins s σ H xs us Q I r h
  obtain ⟨z, rfl, hz, q⟩ := h
  obtain ⟨u, rfl, t, rfl⟩ := zeK r
  have hn := wM
  exact len_str (by omega) ⟨.int z.length, H, I.tok _, ⟨_, rfl⟩, q⟩
theorem qI.or {f : Value} {r r' : List V -> Hp -> VK -> Prop} (h : qI X f r) (h' : qI X f r') : qI X f (fun xs H Q => r xs H Q \/ r' xs H Q) := by
  intro pins s σ H xs us Q I rs q
  rcases q with q | q
  . exact h pins s σ H xs us Q I rs q
  . exact h' pins s σ H xs us Q I rs q
def tyV (K : PySem.W.Frag) (T : String) (x : V) (H : Hp) : Prop := match x with
  | .str _ => T = "str"
  | .int _ => T = "int"
  | .ref p => (T = "list" /\ ∃ xs, SqL K H p xs) \/ (T = "tuple" /\ ∃ o, K.lookup p = some o /\ o.cls = .type "tuple" /\ o.dict = none) \/
      (T = "dict" /\ ((∃ kvs, H p = some (.dK kvs)) \/ ∃ kvs, H p = some (.dT kvs))) \/ (T = "set" /\ ∃ S n, H p = some (.set S n))
  | _ => False
theorem zjN {pins : List (Addr × Obj)} {σ : St} {H : Hp} {s : Shared} {T : String} {x : V} {v : Value} (I : Inv X pins σ H s) (r : yc x v) (ty : tyV X.K T x H) :
    s.TypeIs v T /\ ∀ a, v = .ref a -> ∃ ob, s.heap.get? a = some ob /\ ob.dict = none := by
  cases x with
  | str z =>
    obtain ⟨t, rfl⟩ := r
    cases (show T = "str" from ty)
    exact ⟨typeIs_str s z t, fun _ e => nomatch e⟩
  | int i =>
    obtain ⟨t, rfl⟩ := r
    cases (show T = "int" from ty)
    exact ⟨typeIs_int s i t, fun _ e => nomatch e⟩
  | ref p =>
    cases r
    rcases ty with ⟨rfl, xs, hq⟩ | ⟨rfl, o, hk, hc, hd⟩ | ⟨rfl, hk⟩ | ⟨rfl, S, n, hk⟩
    . obtain ⟨its, _, pl, _⟩ := I.list hq
      refine ⟨pl.isList.typeIs, fun a e => ?_⟩
      cases e
      obtain ⟨o, n, e, c, hd, _⟩ := pl
      exact ⟨o, e, hd⟩
    . refine ⟨⟨o, I.kIn p o hk, hc⟩, fun a e => ?_⟩
      cases e
      exact ⟨o, I.kIn _ o hk, hd⟩
    . have z : ∃ o, s.heap.get? p = some o /\ o.ExactDict := by
        rcases hk with ⟨kvs, hk⟩ | ⟨kvs, hk⟩
        . obtain ⟨_, _, _, _, o, _, _, e, ex, _⟩ := I.hok p _ hk
          exact ⟨o, e, ex⟩
        . obtain ⟨_, _, _, _, o, _, _, e, ex, _⟩ := I.hok p _ hk
          exact ⟨o, e, ex⟩
      obtain ⟨o, e, ex⟩ := z
      refine ⟨⟨o, e, ex.1⟩, fun a e2 => ?_⟩
      cases e2
      exact ⟨o, e, ex.2.1⟩
    . obtain ⟨o, _, _, _, e, ex, _⟩ := I.hok p _ hk
      refine ⟨⟨o, e, ex.1⟩, fun a e2 => ?_⟩
      cases e2
      exact ⟨o, e, ex.2.1⟩
  | _ => exact False.elim ty
def tBM (K : PySem.W.Frag) (T : String) (r : V -> List V -> Hp -> VK -> Prop) (to : TE) (t : TA) : TE := fun σ H Q => to σ H fun x H1 => tyV K T x H1 /\ t σ H1 fun xs H2 => r x xs H2 Q
variable {o e : Expr} {es : List Expr} {to : TE} {t : TA} {name : Str} {apos cpos : Pos} {T id : String} {r : V -> List V -> Hp -> VK -> Prop}
theorem qQ (pa : PlainAttrs T) (slot : Slot T name id) (hty : typeOf (.builtin id) = pure (.type "method_descriptor")) (hm : MtR X id r) (ho : PE X o to) (ha : PA X (e :: es) t)
    (hbase : attributeBase o name X.env (eval o X.env) = eval o X.env := by rfl)
    (hfew : ((backTo cpos (starEach (e :: es) X.env)).all (fun x => !x.1) && (backToKw cpos (keywordEach [] X.env)).all (fun x => x.1.isSome)
      && decide ((e :: es).length + ([] : List Keyword).length + (if ([] : List Keyword).isEmpty then 0 else 1) < 30)) = true := by rfl)
    (hline : (apos.endLine == cpos.line) = true := by rfl) (hs : starEach (e :: es) X.env = (false, eval e X.env) :: starEach es X.env := by rfl) (hplain : (backTo cpos (starEach es X.env)).any (·.1) = false := by rfl) :
    PE X (.Call (.Attribute o name apos) (e :: es) [] cpos) (tBM X.K T r to t) := by
  intro pins s σ H Q I h
  refine wpAny_Call_method_late hbase hfew hline rfl (thn (ho pins s σ H _ I h) fun v s1 ⟨x, H1, I1, r1, ty, q1⟩ => ?_)
  obtain ⟨h1, h2⟩ := zjN I1 r1 ty
  refine ⟨T, id, pa, slot, hty, h1, h2, ?_⟩
  have hA := ha cpos pins s1 σ H1 _ I1 q1
  rw [hs] at hA ⊢
  refine Calls.callWith_builtin (by show (false || (backTo cpos (starEach es X.env)).any (·.1)) = false; rw [hplain] <;> rfl) (Calls.evalArgs_plain ?_)
  exact thn hA fun us s2 ⟨vs, H2, I2, r2, q2⟩ => hm pins s2 σ H2 x vs v us Q I2 r1 r2 q2
end
end L2
namespace L2
open PySem PySem.Spec PyProof.Rows
def MtM (X : Cx) (id : String) (r : V -> List V -> Hp -> VK -> Prop) : Prop :=
  ∀ (pins : List (Addr × Obj)) (s : Shared) (σ : St) (H : Hp) (x : V) (xs : List V) (v : Value) (us : List Value) (Q : VK), Inv X pins σ H s -> yc x v -> z7 xs us -> r x xs H Q ->
    wpAny (model X.prog X.w) X.A (call (.builtin id) (v :: us)) (EP X pins σ Q) X.xe s
theorem z7.one : ∀ {x : V} {us : List Value}, z7 [x] us -> ∃ u, us = [u] /\ yc x u
  | _, _, .cons r .nil => ⟨_, rfl, r⟩
theorem z7.two : ∀ {x y : V} {us : List Value}, z7 [x, y] us -> ∃ u v, us = [u, v] /\ yc x u /\ yc y v
  | _, _, _, .cons r (.cons q .nil) => ⟨_, _, rfl, r, q⟩
theorem z7.zero : ∀ {us : List Value}, z7 [] us -> us = []
  | _, .nil => rfl
theorem z7.reverse {xs : List V} {us : List Value} (h : z7 xs us) : z7 xs.reverse us.reverse := by
  induction h with
  | nil => exact .nil
  | cons r t ih => rw [List.reverse_cons, List.reverse_cons]; exact z7.append ih (.cons r .nil)
theorem z7.rep {xs : List V} {us : List Value} (h : z7 xs us) : ∀ k : Nat, z7 (List.replicate k xs).flatten (List.replicate k us).flatten
  | 0 => .nil
  | k + 1 => by
    rw [List.replicate_succ, List.replicate_succ, List.flatten_cons, List.flatten_cons]
    exact z7.append h (z7.rep h k)
theorem wW (its : List Value) : ∀ (k : Nat) (acc : List Value),
    List.foldl (fun x1 x2 => x1 ++ x2) acc.toArray (List.replicate k its.toArray) = (acc ++ (List.replicate k its).flatten).toArray
  | 0, acc => by simp
  | k + 1, acc => by
    have e : acc.toArray ++ its.toArray = (acc ++ its).toArray := by simp
    have e2 : (acc ++ its) ++ (List.replicate k its).flatten = acc ++ (List.replicate (k + 1) its).flatten := by
      rw [List.replicate_succ, List.flatten_cons, List.append_assoc]
    rw [<- e2, <- wW its k (acc ++ its), <- e, List.replicate_succ, List.foldl_cons]
section
variable {X : Cx} {pins : List (Addr × Obj)} {σ : St} {H : Hp} {s : Shared} {l b : Addr} {xs ys zs : List V}
theorem Inv.lset {its its' : List Value} {n : Nat} {f : Array Value -> Array Value} {t' : Nat} (I : Inv X pins σ H s) (hH : H l = some (.lst xs))
    (e : s.heap.get? l = some { cls := .type "list", data := .seq its.toArray n }) (hf : f its.toArray = its'.toArray) (hv : z7 ys its') (hz : ys.length <= sizeLine) :
    Inv X pins σ (upd H l (.lst ys)) { s with heap := s.heap.update l (Obj.mapSeq f), toks := t' } := by
  have q := PySem.IsL.update e f
  rw [hf] at q
  refine I.write (x := l) (e := l) (by rw [hH]; exact trivial) (.inl rfl) (fun b' u hb hu => (Heap.get?_update_other s.heap (Obj.mapSeq f) (Ne.symm hb)).trans hu) ⟨_, q⟩ ?_
  exact ⟨hz, its', _, hv, q⟩
theorem Inv.lnew {its : List Value} {t' : Nat} (I : Inv X pins σ H s) (hv : z7 ys its) (hz : ys.length <= sizeLine) :
    Inv X pins σ (upd H s.heap.objs.size (.lst ys)) { s with heap := s.heap.push { cls := .type "list", data := .seq its.toArray }, toks := t' } :=
  I.laid (fun _ _ q => Heap.get?_push_of_some _ q) (Nat.le_refl _) ⟨hz, its, 0, hv, Heap.get?_push_size _ rfl⟩
theorem Inv.fresh (I : Inv X pins σ H s) : H s.heap.objs.size = none := I.hok.fresh (Nat.le_refl _)
theorem Inv.lstM (I : Inv X pins σ H s) (hH : H l = some (.lst xs)) : xs.length <= sizeLine /\ ∃ (its : List Value) (n : Nat), z7 xs its /\ xs.length = its.length /\ s.heap.get? l = some { cls := .type "list", data := .seq its.toArray n } := by
  obtain ⟨z, its, n, r, e⟩ := I.hok l _ hH
  exact ⟨z, its, n, r, r.length, e⟩
theorem va {n : Nat} (h : n <= sizeLine) : Builtin.List.listTooLong n = false := by
  unfold Builtin.List.listTooLong
  exact decide_eq_false (by omega)
end
section
variable {X : Cx}
def zhS : V -> List V -> Hp -> VK -> Prop := fun x vs H Q => ∃ l xs y, x = .ref l /\ vs = [y] /\ H l = some (.lst xs) /\ xs.length < sizeLine /\ Q .non (upd H l (.lst (xs ++ [y])))
theorem yo : MtM X "list.append" zhS := by
  intro pins s σ H x vs v us Q I rx rv h
  obtain ⟨l, xs, y, rfl, rfl, hH, hz, q⟩ := h
  cases rx
  obtain ⟨u, rfl, ru⟩ := rv.one
  obtain ⟨z, its, n, r, hl, e⟩ := I.lstM hH
  refine call_meets F.slot_list_append ⟨_, e, rfl⟩ F.entry_list_append (F.args_list_append_2 _ _) (PySem.list_append l its.toArray n u (by rw [List.size_toArray]; omega)) ⟨e, ?_⟩
  refine ⟨.non, _, I.lset (its' := its ++ [u]) hH e (by simp) (r.append (.cons ru .nil)) ?_, rfl, q⟩
  rw [List.length_append, List.length_singleton]
  omega
def ziB : V -> List V -> Hp -> VK -> Prop := fun x vs H Q => ∃ l b xs zs, x = .ref l /\ vs = [.ref b] /\ H l = some (.lst xs) /\ H b = some (.lst zs) /\ xs.length + zs.length <= sizeLine /\ Q .non (upd H l (.lst (xs ++ zs)))
theorem zd5 : MtM X "list.extend" ziB := by
  intro pins s σ H x vs v us Q I rx rv h
  obtain ⟨l, b, xs, zs, rfl, rfl, hH, hB, hz, q⟩ := h
  cases rx
  obtain ⟨u, rfl, ru⟩ := rv.one
  cases ru
  obtain ⟨z, its, n, r, hl, e⟩ := I.lstM hH
  obtain ⟨z2, its2, n2, r2, hl2, e2⟩ := I.lstM hB
  have hsz : its.toArray.size + its2.toArray.size <= sizeLine := by rw [List.size_toArray, List.size_toArray]; omega
  have hlong : ¬ (!its.toArray.isEmpty && Builtin.List.listTooLong (its.toArray.size + its2.toArray.size)) = true := by
    rw [va hsz, Bool.and_false]
    exact Bool.false_ne_true
  refine call_meets F.slot_list_extend ⟨_, e, rfl⟩ F.entry_list_extend (F.args_list_extend_2 _ _)
    (AutoSeq1.list_extend_list_list_0 l its.toArray n b its2.toArray n2 hlong (by rw [List.size_toArray]; omega) (by omega)) ⟨e, e2, ?_⟩
  refine ⟨.non, _, I.lset (its' := its ++ its2) hH e (by simp) (r.append r2) ?_, rfl, q⟩
  rw [List.length_append]
  omega
def zlt : R2 := fun x y H Q => ∃ l b xs zs, x = .ref l /\ y = .ref b /\ H l = some (.lst xs) /\ H b = some (.lst zs) /\ xs.length + zs.length <= sizeLine /\ ∀ p, H p = none -> Q (.ref p) (upd H p (.lst (xs ++ zs)))
theorem ziW : OpR X (binaryOp .Add) zlt := by
  intro pins s σ H x y v u Q I rx ry h
  obtain ⟨l, b, xs, zs, rfl, rfl, hH, hB, hz, q⟩ := h
  cases rx
  cases ry
  obtain ⟨z, its, n, r, hl, e⟩ := I.lstM hH
  obtain ⟨z2, its2, n2, r2, hl2, e2⟩ := I.lstM hB
  refine PySem.P.add_list e e2 ?_ (by rw [List.size_toArray, List.size_toArray]; omega)
  have ea : its.toArray ++ its2.toArray = (its ++ its2).toArray := by simp
  rw [ea]
  exact ⟨.ref _, _, I.lnew (t' := s.toks) (r.append r2) (by rw [List.length_append]; omega), rfl, q _ I.fresh⟩
def zlo : R2 := fun x y H Q => ∃ l k xs, x = .ref l /\ y = .int k /\ H l = some (.lst xs) /\ -(2 ^ 63) <= k /\ k < 2 ^ 63 /\ xs.length * k.toNat <= sizeLine /\
  ∀ p, H p = none -> Q (.ref p) (upd H p (.lst (List.replicate k.toNat xs).flatten))
theorem zhJ {α : Type} (xs : List α) (k : Nat) : (List.replicate k xs).flatten.length = k * xs.length := by
  induction k with
  | zero => simp
  | succ k ih => rw [List.replicate_succ, List.flatten_cons, List.length_append, ih, Nat.succ_mul, Nat.add_comm]
theorem km : OpR X (binaryOp .Mult) zlo := by
  intro pins s σ H x y v u Q I rx ry h
  obtain ⟨l, k, xs, rfl, rfl, hH, h1, h2, hz, q⟩ := h
  cases rx
  obtain ⟨t, rfl⟩ := ry
  obtain ⟨z, its, n, r, hl, e⟩ := I.lstM hH
  have hlen : its.toArray.size * k.toNat <= sizeLine := by rw [List.size_toArray, <- hl]; exact hz
  have hcap : ¬ its.toArray.size * k.toNat > (2 ^ 63 - 1) / 8 := by
    have : (sizeLine : Nat) <= (2 ^ 63 - 1) / 8 := by decide
    omega
  have hfit : ¬ (!Builtin.List.listFitsIndex k) = true := by
    rw [fitsIndex_both h1 h2]
    exact Bool.false_ne_true
  have hlong : ¬ Builtin.List.listTooLong (its.toArray.size * k.toNat) = true := by
    rw [va hlen]
    exact Bool.false_ne_true
  have hnew : List.foldl (fun x1 x2 => x1 ++ x2) #[] (List.replicate (if its.toArray.isEmpty = true then 0 else k.toNat) its.toArray) = (List.replicate k.toNat its).flatten.toArray := by
    have f0 : ∀ m : Nat, List.foldl (fun x1 x2 => x1 ++ x2) #[] (List.replicate m its.toArray) = (List.replicate m its).flatten.toArray := fun m => by
      have := wW its m []
      rw [List.nil_append] at this
      exact this
    rw [f0]
    cases its with
    | nil => simp
    | cons a r' => rw [if_neg (by simp)]
  refine wpAny_binaryOp_repeat_ref (T := "list") (U := "int") (by decide) ⟨_, e, rfl⟩ (fun s' => typeIs_int s' k t) noFill_list_mul F.fills_int_mul F.slot_int_rmul repeat_list F.slot_int_index.lookup
    (call_meets F.slot_int_rmul (typeIs_int s k t) F.entry_int_rmul (F.args_int_rmul_2 _ _) (int___rmul___int_list k t l its.toArray n)
      ⟨e, rfl, ⟨_, e, rfl⟩, call_meets F.slot_list_mul ⟨_, e, rfl⟩ F.entry_list_mul (F.args_list_mul_2 _ _) (AutoListH.list___mul___list_int_3 l its.toArray n k t hfit hcap hlong) ⟨e, ?_⟩⟩)
  rw [hnew]
  exact ⟨.ref _, _, I.lnew (t' := s.toks) (r.rep k.toNat) (by rw [zhJ, Nat.mul_comm]; exact hz), rfl, q _ I.fresh⟩
end
section
variable {prog : Program} {w : World} {A : Around} {E : Value -> Shared -> Prop} {s : Shared}
end
section
variable {X : Cx}
end
end L2
namespace L2
open PySem PySem.Spec PyProof.Rows
theorem z7.ints : ∀ {ns : List Int} {us : List Value}, z7 (ns.map V.int) us -> IntsAre us ns
  | [], us, h => by
    rw [List.map_nil] at h
    cases h
    exact IntsAre.nil
  | n :: ns, us, h => by
    rw [List.map_cons] at h
    cases h with
    | cons r t =>
      obtain ⟨k, rfl⟩ := r
      exact IntsAre.cons n k (z7.ints t)
theorem z7.strs : ∀ {xs : List Str} {us : List Value}, z7 (xs.map V.str) us -> StrsAre us xs
  | [], us, h => by
    rw [List.map_nil] at h
    cases h
    exact StrsAre.nil
  | x :: xs, us, h => by
    rw [List.map_cons] at h
    cases h with
    | cons r t =>
      obtain ⟨k, rfl⟩ := r
      exact StrsAre.cons x k (z7.strs t)
section
variable {prog : Program} {w : World} {A : Around} {E : Value -> Shared -> Prop} {s : Shared} {l : Addr} {its : List Value} {ns : List Int} {Q : Value -> Shared -> Prop}
end
section
variable {X : Cx}
end
section
variable {X : Cx}
def zi5 (K : PySem.W.Frag) : V -> List V -> Hp -> VK -> Prop := fun x xs H Q => ∃ (a : Addr) (ys : List V) (y : V) (j : Nat) (z : V), x = V.ref a /\ xs = [y] /\ SqL K H a ys /\ qT y = true /\ ys.all qT = true /\ ys[j]? = some z /\ eqV z y = true /\
  (∀ (m : Nat) (z' : V), m < j -> ys[m]? = some z' -> eqV z' y = false) /\ Q (.int (j : Nat)) H
theorem ze5 {ys : List V} (f : ys.all qT = true) {j : Nat} {z : V} (h : ys[j]? = some z) : qT z = true := List.all_eq_true.mp f z (List.mem_of_getElem? h)
theorem zf5 : MtR X "list.index" (zi5 X.K) := by
  intro pins s σ H x xs v us Q I rx rxs h
  obtain ⟨a, ys, y, j, z, rfl, rfl, hs, fy, fys, hz, hzj, hno, q⟩ := h
  cases rx
  cases rxs with
  | cons ry rt =>
    rename_i uy ut
    cases rt
    obtain ⟨its, rv, ⟨⟨cls, dd, data, sl⟩, n, ho, hc, hdn, hd⟩, hlen⟩ := I.list hs
    simp only at hc hd
    subst hc hd
    obtain ⟨u, hu, ru⟩ := rv.get hz
    obtain ⟨hjl, hje⟩ := List.getElem?_eq_some_iff.mp hu
    have hvl := rv.length
    have hj : j < its.toArray.size := by simpa using hjl
    have hsl := sizeLine_eq
    refine call_meets PySem.F.slot_list_index ⟨_, ho, rfl⟩ PySem.F.entry_list_index (PySem.F.args_list_index_2 _ _)
      (SeqAt.list_indexAt a its.toArray n dd sl uy (eqU y) j hj (by omega) ?_ ?_) ⟨ho, fun u' hu' => ju ry fy rv fys u' (by simpa using hu'), ?_⟩
    . have e1 : its.toArray[j] = u := by simpa using hje
      rw [e1, zbZ ru (ze5 fys hz)]
      exact hzj
    . intro m hm hmj
      have hml : m < its.length := by simpa using hm
      have hmy : m < ys.length := by omega
      have hy' : ys[m]? = some ys[m] := List.getElem?_eq_getElem hmy
      obtain ⟨u2, hu2, ru2⟩ := rv.get hy'
      obtain ⟨_, hme⟩ := List.getElem?_eq_some_iff.mp hu2
      have e1 : its.toArray[m] = u2 := by simpa using hme
      rw [e1, zbZ ru2 (ze5 fys hy')]
      exact hno m _ hmj hy'
    . exact ⟨.int (j : Nat), H, I.tok _, ⟨_, rfl⟩, q⟩
end
section
variable {X : Cx}
end
section
variable {X : Cx}
end
mutual
inductive Dp (K : PySem.W.Frag) (H : Hp) : V -> PyData -> Prop
  | non : Dp K H .non .none
  | bl (b : Bool) : Dp K H (.bl b) (.bool b)
  | int (i : Int) : Dp K H (.int i) (.int i)
  | str (x : Str) : Dp K H (.str x) (.str x)
  | lst {a : Addr} {xs : List V} {ds : List PyData} : SqL K H a xs -> zau K H xs ds -> Dp K H (.ref a) (.list ds)
  | tup {a : Addr} {xs : List V} {ds : List PyData} : SqT K H a xs -> zau K H xs ds -> Dp K H (.ref a) (.tuple ds)
inductive zau (K : PySem.W.Frag) (H : Hp) : List V -> List PyData -> Prop
  | nil : zau K H [] []
  | cons {v : V} {vs : List V} {d : PyData} {ds : List PyData} : Dp K H v d -> zau K H vs ds -> zau K H (v :: vs) (d :: ds)
end
section
variable {X : Cx} {pins : List (Addr × Obj)} {σ : St} {H : Hp} {s : Shared}
mutual
theorem Dp.reads (I : Inv X pins σ H s) : ∀ (d : PyData) (v : V) (u : Value), Dp X.K H v d -> yc v u -> ∃ as, Reads s.heap u d as
  | .none, _, _, h, r => by
    cases h
    cases r
    exact ⟨_, Reads.none⟩
  | .bool b, _, _, h, r => by
    cases h
    cases r
    exact ⟨_, Reads.bool b⟩
  | .int i, _, _, h, r => by
    cases h
    obtain ⟨t, rfl⟩ := r
    exact ⟨_, Reads.int i t⟩
  | .str x, _, _, h, r => by
    cases h
    obtain ⟨t, rfl⟩ := r
    exact ⟨_, Reads.str x t⟩
  | .list ds, _, _, h, r => by
    cases h with
    | lst hs ha =>
      cases r
      obtain ⟨its, rv, ⟨o, n, ho, hc, _, hd⟩, _⟩ := I.list hs
      obtain ⟨as, hr⟩ := Dp.readsAll I ds _ its ha rv
      exact ⟨_, Reads.list ho hc hd hr⟩
  | .tuple ds, _, _, h, r => by
    cases h with
    | tup hs ha =>
      cases r
      obtain ⟨its, rv, ⟨o, ho, hc, n, hd⟩, _⟩ := I.tuple hs
      obtain ⟨as, hr⟩ := Dp.readsAll I ds _ its ha rv
      exact ⟨_, Reads.tuple ho hc hd hr⟩
  | .dict _, _, _, h, _ => by cases h
theorem Dp.readsAll (I : Inv X pins σ H s) : ∀ (ds : List PyData) (vs : List V) (us : List Value), zau X.K H vs ds -> z7 vs us -> ∃ as, ReadsAll s.heap us ds as
  | [], _, _, h, r => by
    cases h
    cases r
    exact ⟨_, ReadsAll.nil⟩
  | d :: ds, _, _, h, r => by
    cases h with
    | cons h1 h2 =>
      cases r with
      | cons r1 r2 =>
        obtain ⟨as, q1⟩ := Dp.reads I d _ _ h1 r1
        obtain ⟨bs, q2⟩ := Dp.readsAll I ds _ _ h2 r2
        exact ⟨_, ReadsAll.cons q1 q2⟩
end
end
section
variable {X : Cx}
def zli (K : PySem.W.Frag) : R2 := fun x y H Q => ∃ d e, Dp K H x d /\ Dp K H y e /\ SeqAt.shaped d = true /\ SeqAt.shaped e = true /\ Q (.bl (PyData.eqv d e)) H
theorem zjL (hu : X.A.units + 64 < cLine) : OpR X (compareOp .Eq) (zli X.K) := by
  intro pins s σ H x y v u Q I rx ry h
  obtain ⟨d, e, hd, he, sd, se, q⟩ := h
  obtain ⟨as, r1⟩ := Dp.reads I d x v hd rx
  obtain ⟨bs, r2⟩ := Dp.reads I e y u he ry
  exact SeqAt.compareEq_shaped r1 r2 sd se hu ⟨.bl _, H, I, rfl, q⟩
end
end L2
namespace L2
open PySem PySem.Spec PyProof.Rows
abbrev zgN (h : Heap) (c : Addr) (v : Option Value) : Prop := h.IsCell c v
def zlp (scope sc : Scope) : Scope :=
  { scope with names := scope.names.map fun (n, k) => if (k == .free && sc.kind == .function && sc.names.lookup n == some .cell) then (n, .cell) else (n, k) }
def z9 (cells : List (Str × Addr)) : List (Str × NameKind) -> List (Str × Addr) -> List (Str × Addr)
  | [], acc => acc
  | (n, k) :: r, acc => if k == .free then z9 cells r ((n, (cells.lookup n).getD 0) :: acc) else z9 cells r acc
theorem jg (env : Env) (f : Str × NameKind -> List (Str × Addr) -> Sem (ForInStep (List (Str × Addr))))
    (hf : ∀ n k c, f (n, k) c = if k == .free then (do let a <- cellOf env n; pure (.yield ((n, a) :: c))) else pure (.yield c)) :
    ∀ (names : List (Str × NameKind)) (acc : List (Str × Addr)), (∀ y ∈ names, y.2 = .free -> ∃ c, env.cells.lookup y.1 = some c) -> forIn names acc f = pure (z9 env.cells names acc)
  | [], acc, _ => by rw [List.forIn_nil]; rfl
  | (n, k) :: r, acc, h => by
    rw [List.forIn_cons, hf]
    have ih := fun acc => jg env f hf r acc fun y hy => h y (List.mem_cons_of_mem _ hy)
    unfold z9
    by_cases hk : (k == NameKind.free) = true
    . rw [if_pos hk, if_pos hk]
      obtain ⟨c, hc⟩ := h (n, k) List.mem_cons_self (by simpa using hk)
      have e : cellOf env n = pure c := by unfold cellOf; rw [hc]
      rw [e]
      have e2 : (env.cells.lookup n).getD 0 = c := by rw [hc]; rfl
      rw [e2]
      exact ih _
    . rw [if_neg hk, if_neg hk]
      exact ih _
theorem zcF {scope : Scope} {env : Env} (h : ∀ y ∈ scope.names, y.2 = .free -> ∃ c, env.cells.lookup y.1 = some c) : closureFor scope env = pure (z9 env.cells scope.names []) := by
  simp only [closureFor]
  rw [jg env _ (fun n k c => rfl) scope.names [] h]
  rfl
theorem qU {α : Type} : ∀ {l : List (Str × α)} {n : Str} {c : α}, (n, c) ∈ l -> ∃ c', l.lookup n = some c'
  | (k, v) :: r, n, c, h => by
    rw [List.lookup_cons]
    cases hb : n == k with
    | true => exact ⟨_, rfl⟩
    | false =>
      rcases List.mem_cons.mp h with e | h
      . cases e; simp at hb
      . exact qU h
theorem xi {cells : List (Str × Addr)} : ∀ {names : List (Str × NameKind)} {acc : List (Str × Addr)} {n : Str} {c : Addr}, (n, c) ∈ z9 cells names acc -> (n, c) ∈ acc \/ ((n, .free) ∈ names /\ c = (cells.lookup n).getD 0)
  | [], _, _, _, h => .inl h
  | (m, k) :: r, acc, n, c, h => by
    unfold z9 at h
    split at h
    . rename_i hk
      have hk : k = .free := by simpa using hk
      rcases xi h with h | ⟨h1, h2⟩
      . rcases List.mem_cons.mp h with e | h
        . cases e; exact .inr ⟨hk ▸ List.mem_cons_self, rfl⟩
        . exact .inl h
      . exact .inr ⟨List.mem_cons_of_mem _ h1, h2⟩
    . rcases xi h with h | ⟨h1, h2⟩
      . exact .inl h
      . exact .inr ⟨List.mem_cons_of_mem _ h1, h2⟩
theorem x8 {cells : List (Str × Addr)} : ∀ {names : List (Str × NameKind)} {acc : List (Str × Addr)} {p : Str × Addr}, p ∈ acc -> p ∈ z9 cells names acc
  | [], _, _, h => h
  | (m, k) :: r, acc, p, h => by
    unfold z9
    split
    . exact x8 (List.mem_cons_of_mem _ h)
    . exact x8 h
theorem qe {cells : List (Str × Addr)} : ∀ {names : List (Str × NameKind)} {acc : List (Str × Addr)} {n : Str}, (n, .free) ∈ names -> (n, (cells.lookup n).getD 0) ∈ z9 cells names acc
  | (m, k) :: r, acc, n, h => by
    unfold z9
    rcases List.mem_cons.mp h with e | h
    . cases e
      exact x8 List.mem_cons_self
    . split
      . exact qe h
      . exact qe h
theorem xE : ∀ {names : List (Str × NameKind)} {h : Heap} {acc : List (Str × Addr)} {x : Str} {c : Addr}, (x, c) ∈ cellsFrom h.objs.size names acc ->
    (x, c) ∈ acc \/ ((x, .cell) ∈ names /\ h.objs.size <= c /\ zgN (pushCells h names) c none)
  | [], _, _, _, _, h => .inl h
  | (n, k) :: r, h, acc, x, c, hm => by
    unfold cellsFrom at hm
    unfold pushCells
    split at hm
    . rename_i hk
      rw [if_pos hk]
      have hk : k = .cell := by simpa using hk
      rw [<- Heap.size_push h { cls := .type "cell", data := .cell none }] at hm
      rcases xE hm with hm | ⟨h1, h2, h3⟩
      . rcases List.mem_cons.mp hm with e | hm
        . cases e
          exact .inr ⟨hk ▸ List.mem_cons_self, Nat.le_refl _, _, pushCells_keeps r _ _ _ (Heap.get?_push_size _ rfl), rfl⟩
        . exact .inl hm
      . rw [Heap.size_push] at h2
        exact .inr ⟨List.mem_cons_of_mem _ h1, Nat.le_of_succ_le h2, h3⟩
    . rename_i hk
      rw [if_neg hk]
      rcases xE hm with hm | ⟨h1, h2, h3⟩
      . exact .inl hm
      . exact .inr ⟨List.mem_cons_of_mem _ h1, h2, h3⟩
theorem ql : ∀ {names : List (Str × NameKind)} {n : Nat} {acc : List (Str × Addr)} {p : Str × Addr}, p ∈ acc -> p ∈ cellsFrom n names acc
  | [], _, _, _, h => h
  | (m, k) :: r, n, acc, p, h => by
    unfold cellsFrom
    split
    . exact ql (List.mem_cons_of_mem _ h)
    . exact ql h
theorem jB : ∀ {names : List (Str × NameKind)} {n : Nat} {acc : List (Str × Addr)} {x : Str}, (x, .cell) ∈ names -> ∃ c, (x, c) ∈ cellsFrom n names acc
  | (m, k) :: r, n, acc, x, h => by
    unfold cellsFrom
    rcases List.mem_cons.mp h with e | h
    . cases e
      exact ⟨n, ql List.mem_cons_self⟩
    . split
      . exact jB h
      . exact jB h
theorem jZ : ∀ {names : List (Str × NameKind)} {h : Heap} {acc : List (Str × Addr)} {x y : Str} {c : Addr}, (∀ p ∈ acc, p.2 < h.objs.size) -> (∀ x y c, (x, c) ∈ acc -> (y, c) ∈ acc -> x = y) ->
    (x, c) ∈ cellsFrom h.objs.size names acc -> (y, c) ∈ cellsFrom h.objs.size names acc -> x = y
  | [], _, _, _, _, _, _, hi, h1, h2 => hi _ _ _ h1 h2
  | (n, k) :: r, h, acc, x, y, c, hl, hi, h1, h2 => by
    unfold cellsFrom at h1 h2
    split at h1
    . rename_i hk
      rw [if_pos hk] at h2
      rw [<- Heap.size_push h { cls := .type "cell", data := .cell none }] at h1 h2
      refine jZ (h := h.push _) (fun p hp => ?_) (fun x y c a b => ?_) h1 h2
      . rw [Heap.size_push]
        rcases List.mem_cons.mp hp with rfl | hp
        . exact Nat.lt_succ_self _
        . exact Nat.lt_succ_of_lt (hl p hp)
      . rcases List.mem_cons.mp a with e | a <;> rcases List.mem_cons.mp b with e' | b
        . cases e; cases e'; rfl
        . cases e; exact absurd (hl _ b) (Nat.lt_irrefl _)
        . cases e'; exact absurd (hl _ a) (Nat.lt_irrefl _)
        . exact hi _ _ _ a b
    . rename_i hk
      rw [if_neg hk] at h2
      exact jZ hl hi h1 h2
theorem zbx {M : Model} {A : Around} {E : Value -> Shared -> Prop} {s : Shared} {scope : Scope} {globals : Addr} {closure : List (Str × Addr)} {qual : Str} {func : Option Addr} {code : Value} {around : Env} {builtins : Addr} {Q : Env -> Shared -> Prop}
    (h : Q (newEnv scope s.heap.objs.size globals (cellsFrom (s.heap.objs.size + 1) scope.names closure) qual func code (some around) builtins)
      { s with heap := pushCells (s.heap.push { cls := .type "dict", data := .dict #[] }) scope.names }) :
    wpAny M A (newFunctionEnv scope globals closure [] qual func code (some around) builtins) Q E s := by
  simp only [newFunctionEnv, Option.isSome_some, if_true]
  refine wpAny_bind (wpAny_alloc ?_)
  refine wpAny_bind (wpAny_layCells _ (fun n k c => rfl) scope.names closure _ _ ?_)
  rw [show ({ s with heap := s.heap.push { cls := .type "dict", data := .dict #[] } } : Shared).heap.objs.size = s.heap.objs.size + 1 from Heap.size_push ..]
  rw [List.forIn_nil]
  exact wpAny_bind (wpAny_pure (wpAny_pure h))
theorem qc {sc : Scope} : ∀ {names : List (Str × NameKind)} {x : Str} {k : NameKind},
    (names.map fun (n, k) => if (k == NameKind.free && sc.kind == .function && sc.names.lookup n == some .cell) then (n, NameKind.cell) else (n, k)).lookup x = some k ->
    ∃ k', names.lookup x = some k' /\ (k = k' \/ (k' = .free /\ k = .cell))
  | [], _, _, h => by simp at h
  | (n, k₀) :: r, x, k, h => by
    have ih := @qc sc r x k
    have h' : List.lookup x ((if (k₀ == NameKind.free && sc.kind == .function && sc.names.lookup n == some .cell) = true then (n, NameKind.cell) else (n, k₀)) :: (r.map _)) = some k := h
    cases hx : x == n with
    | true =>
      simp only [List.lookup_cons, hx]
      by_cases hc : (k₀ == NameKind.free && sc.kind == .function && sc.names.lookup n == some .cell) = true
      . rw [if_pos hc] at h'
        simp only [List.lookup_cons, hx] at h'
        cases h'
        simp only [Bool.and_eq_true, beq_iff_eq] at hc
        exact ⟨k₀, rfl, .inr ⟨hc.1.1, rfl⟩⟩
      . rw [if_neg hc] at h'
        simp only [List.lookup_cons, hx] at h'
        cases h'
        exact ⟨_, rfl, .inl rfl⟩
    | false =>
      simp only [List.lookup_cons, hx]
      by_cases hc : (k₀ == NameKind.free && sc.kind == .function && sc.names.lookup n == some .cell) = true
      . rw [if_pos hc] at h'
        simp only [List.lookup_cons, hx] at h'
        exact ih h'
      . rw [if_neg hc] at h'
        simp only [List.lookup_cons, hx] at h'
        exact ih h'
structure ke (N : List Str) (sc scope : Scope) (own : List (Str × Nat)) : Prop where
  kind : scope.kind = .function
  uniq : ∀ y ∈ scope.names, scope.names.lookup y.1 = some y.2
  ix : ∀ p ∈ own, N[p.2]? = some p.1
  free : ∀ y ∈ scope.names, y.2 = .free -> sc.names.lookup y.1 = some .cell \/ sc.names.lookup y.1 = some .free
  own : ∀ y ∈ scope.names, y.2 = .local \/ y.2 = .cell -> y.1 ∈ own.map (·.1) \/ y.1 ∉ N
def y3 (σ : St) : List Nat -> St
  | [] => σ
  | v :: vs => (y3 σ vs).set v none
theorem qf (σ : St) : ∀ vs : List Nat, (y3 σ vs).length = σ.length
  | [] => rfl
  | v :: vs => by unfold y3; rw [List.length_set, qf σ vs]
theorem jA {σ : St} {i : Nat} {x : V} : ∀ {vs : List Nat}, (y3 σ vs)[i]? = some (some x) -> σ[i]? = some (some x) /\ i ∉ vs
  | [], h => ⟨h, by simp⟩
  | v :: vs, h => by
    unfold y3 at h
    by_cases hi : v = i
    . subst hi
      by_cases hv : v < (y3 σ vs).length
      . rw [List.getElem?_set_self hv] at h; cases h
      . rw [List.getElem?_eq_none (by simpa using hv)] at h; cases h
    . rw [List.getElem?_set_ne hi] at h
      obtain ⟨h1, h2⟩ := jA h
      exact ⟨h1, by simp only [List.mem_cons, not_or]; exact ⟨fun e => hi e.symm, h2⟩⟩
abbrev Cx.blk (X : Cx) (s : Shared) (H : Hp) (scope : Scope) (cenv : Env) (fp : List Addr) : Cx := { X with s_0 := s, H_0 := H, env := cenv, outer := X.stack, ex := fp, fn := fun x => scope.names.lookup x == some .cell, pn := [], xe := fun _ _ => False }
section
variable {X : Cx} {pins : List (Addr × Obj)} {σ : St} {H : Hp} {s : Shared}
theorem zaH {scope : Scope} {own : List (Str × Nat)} {fp : List Addr} (I : Inv X pins σ H s) (ok : ke X.N X.env.scope scope own) (hN : X.N.Nodup) (hfp : ∀ b ∈ fp, zdC X pins H b /\ b < s.heap.objs.size) :
    Inv (X.blk s H scope (compEnvC scope (cellsFrom (s.heap.objs.size + 1) scope.names (z9 X.env.cells scope.names [])) s.heap.objs.size X.env) fp) [] (y3 σ (own.map (·.2))) H { s with heap := pushCells (s.heap.push { cls := .type "dict", data := .dict #[] }) scope.names } := by
  have hfree : ∀ y ∈ scope.names, y.2 = .free -> ∃ c, X.env.cells.lookup y.1 = some c := fun y hy e => by
    rcases ok.free y hy e with k | k
    . exact I.ok.has _ (.inl k)
    . exact I.ok.has _ (.inr k)
  generalize hcenv : compEnvC scope (cellsFrom (s.heap.objs.size + 1) scope.names (z9 X.env.cells scope.names [])) s.heap.objs.size X.env = cenv
  have kp : ∀ b o, s.heap.get? b = some o -> (pushCells (s.heap.push { cls := .type "dict", data := .dict #[] }) scope.names).get? b = some o := fun b o e => pushCells_keeps _ _ _ _ (Heap.get?_push_of_some _ e)
  have hL : cenv.locals = s.heap.objs.size := by rw [<- hcenv]; rfl
  have hcl : cenv.cells = cellsFrom (s.heap.objs.size + 1) scope.names (z9 X.env.cells scope.names []) := by rw [<- hcenv]; rfl
  have hsc : cenv.scope = zlp scope X.env.scope := by rw [<- hcenv]; rfl
  rw [<- Heap.size_push s.heap { cls := .type "dict", data := .dict #[] }] at hcl
  have cm : ∀ {y c}, (y, c) ∈ z9 X.env.cells scope.names [] -> X.env.cells.lookup y = some c /\ c < s.heap.objs.size := fun {y c} hm => by
    rcases xi hm with hm | ⟨h1, rfl⟩
    . cases hm
    . obtain ⟨c, hc⟩ := hfree _ h1 rfl
      rw [hc]
      obtain ⟨w, z⟩ := I.cell _ _ hc
      exact ⟨rfl, z.lt⟩
  have mem : ∀ {y c}, cenv.cells.lookup y = some c -> (X.env.cells.lookup y = some c /\ c < s.heap.objs.size) \/ (s.heap.objs.size + 1 <= c /\ zgN (pushCells (s.heap.push { cls := .type "dict", data := .dict #[] }) scope.names) c none) := fun {y c} e => by
    rw [hcl] at e
    rcases xE (PySem.mem_of_lookup e) with hm | ⟨_, h2, h3⟩
    . exact .inl (cm hm)
    . rw [Heap.size_push] at h2; exact .inr ⟨h2, h3⟩
  have look : ∀ {y}, scope.names.lookup y = some .free -> ∃ c, cenv.cells.lookup y = some c /\ X.env.cells.lookup y = some c := fun {y} hl => by
    have hy : (y, NameKind.free) ∈ scope.names := PySem.mem_of_lookup hl
    obtain ⟨c', e'⟩ := qU (ql (names := scope.names) (n := (s.heap.push { cls := .type "dict", data := .dict #[] }).objs.size) (qe (cells := X.env.cells) (acc := []) hy))
    rw [<- hcl] at e'
    refine ⟨c', e', ?_⟩
    rw [hcl] at e'
    rcases xE (PySem.mem_of_lookup e') with hm | ⟨h1, _, _⟩
    . exact (cm hm).1
    . have := ok.uniq _ h1
      rw [hl] at this; cases this
  have okB : (X.blk s H scope cenv fp).Ok := by
    refine ⟨I.ok.mod, by show cenv.scope.kind = _; rw [hsc]; exact ok.kind, by show cenv.globals = _; rw [<- hcenv]; exact I.ok.glob, by show cenv.builtins = _; rw [<- hcenv]; exact I.ok.blt, by show s.heap.objs.size <= cenv.locals; rw [hL]; exact Nat.le_refl _,
      fun y z c e1 e2 => ?_, fun y hy => ?_, fun y c z e => ?_, I.ok.hd, I.ok.frames, .inl rfl, fun b hb => ⟨?_, fun y c e z => ?_⟩, I.bs, Nat.le_trans I.ok.bsz I.sz, fun b o e hb => ?_, fun b hb z => ?_, I.stack, I.stkFree⟩
    . have e1 : cenv.cells.lookup y = some c := e1
      have e2 : cenv.cells.lookup z = some c := e2
      rw [hcl] at e1 e2
      refine jZ (fun p hp => ?_) (fun y z c a b => I.ok.inj y z c (cm a).1 (cm b).1) (PySem.mem_of_lookup e1) (PySem.mem_of_lookup e2)
      rw [Heap.size_push]
      exact Nat.lt_succ_of_lt (cm (y := p.1) (c := p.2) hp).2
    . show ∃ c, cenv.cells.lookup y = some c
      have key : ∀ k, cenv.kindOf y = some k -> (k = .cell \/ k = .free) -> ∃ c, cenv.cells.lookup y = some c := fun k hk hk' => by
        unfold Env.kindOf at hk
        rw [hsc] at hk
        obtain ⟨k', e, r⟩ := qc hk
        have : k' = .cell \/ k' = .free := by
          rcases r with rfl | ⟨rfl, _⟩
          . exact hk'
          . exact .inr rfl
        rcases this with rfl | rfl
        . obtain ⟨c, hm⟩ := jB (n := (s.heap.push { cls := .type "dict", data := .dict #[] }).objs.size) (acc := z9 X.env.cells scope.names []) (PySem.mem_of_lookup e)
          obtain ⟨c', e'⟩ := qU hm
          exact ⟨c', by rw [hcl]; exact e'⟩
        . obtain ⟨c, h1, _⟩ := look e
          exact ⟨c, h1⟩
      rcases hy with hy | hy
      . exact key _ hy (.inl rfl)
      . exact key _ hy (.inr rfl)
    . have z : (scope.names.lookup y == some NameKind.cell) = true := z
      have z : scope.names.lookup y = some .cell := by simpa using z
      have e : cenv.cells.lookup y = some c := e
      rw [hcl] at e
      rcases xE (PySem.mem_of_lookup e) with hm | ⟨_, h2, _⟩
      . rcases xi hm with hm | ⟨h1, _⟩
        . cases hm
        . have q := ok.uniq _ h1
          rw [z] at q; cases q
      . rw [Heap.size_push] at h2
        exact Nat.le_of_succ_le h2
    . show b ≠ cenv.locals
      rw [hL]; exact Nat.ne_of_lt (hfp b hb).2
    . have e : cenv.cells.lookup y = some c := e
      rcases mem e with ⟨h1, _⟩ | ⟨h1, _⟩
      . exact (hfp b hb).1.2.2.2.2.1 y c h1 z
      . have h2 : s.heap.objs.size + 1 <= b := by rw [<- z]; exact h1
        exact absurd (Nat.lt_of_lt_of_le (hfp b hb).2 (Nat.le_of_succ_le h2)) (Nat.lt_irrefl _)
    . rcases (hfp b hb).1.2.2.2.1 with z | z
      . exact I.ok.noex b o e z
      . exact absurd (Nat.lt_of_lt_of_le (Heap.lt_size e) (Nat.le_trans I.ok.bsz z)) (Nat.lt_irrefl _)
    . rcases List.mem_cons.mp (I.stkSub b z) with z | z
      . exact (hfp b hb).1.2.1 z
      . exact (hfp b hb).1.2.2.1 z
  refine ⟨okB, rfl, I.bare, Un.kept kp, ⟨fun _ => none, ?_, fun i y av e1 e2 e3 => ?_⟩, fun y c e => ?_, ?_, fun y c e => ?_, fun p hp => ?_, I.hok.kept kp, by rw [qf]; exact I.len⟩
  . show Heap.Ns _ cenv.locals _
    rw [hL]
    exact Heap.Ns.keeps (Heap.Ns.new ..) fun b o e => pushCells_keeps _ _ _ _ e
  . obtain ⟨e2, hne⟩ := jA e2
    have hfr : scope.names.lookup y = some .free /\ (cenv.kindOf y = some .cell \/ cenv.kindOf y = some .free) := by
      have key : ∀ k, cenv.scope.names.lookup y = some k -> k = .local \/ k = .cell \/ k = .free -> scope.names.lookup y = some .free /\ (cenv.kindOf y = some .cell \/ cenv.kindOf y = some .free) := fun k hk hk' => by
        have hk0 := hk
        rw [hsc] at hk
        obtain ⟨k', e, r⟩ := qc hk
        have no : ¬ (k' = .local \/ k' = .cell) := fun hh => by
          rcases ok.own _ (PySem.mem_of_lookup e) hh with e' | e'
          . obtain ⟨p, hp, hpy⟩ := List.mem_map.mp e'
            have e3 := ok.ix p hp
            have : p.1 = y := hpy
            rw [this] at e3
            exact hne (List.mem_map.mpr ⟨p, hp, we hN e3 e1⟩)
          . exact e' (List.mem_of_getElem? e1)
        rcases r with rfl | ⟨rfl, rfl⟩
        . rcases hk' with rfl | rfl | rfl
          . exact absurd (.inl rfl) no
          . exact absurd (.inr rfl) no
          . exact ⟨e, .inr hk0⟩
        . exact ⟨e, .inl hk0⟩
      have e3 : Vis cenv.scope y := e3
      rcases e3 with e3 | e3 | e3
      . exact key _ e3 (.inl rfl)
      . exact key _ e3 (.inr (.inl rfl))
      . exact key _ e3 (.inr (.inr rfl))
    obtain ⟨m, hn, hl⟩ := I.loc
    have hvis : Vis X.env.scope y := (ok.free _ (PySem.mem_of_lookup hfr.1) rfl).elim (fun k => .inr (.inl k)) (fun k => .inr (.inr k))
    obtain ⟨w, r, q⟩ := hl i y av e1 e2 hvis
    refine ⟨w, r, .inr ⟨hfr.2, ?_⟩⟩
    obtain ⟨c, h1, h2⟩ := look hfr.1
    rcases q with ⟨k, _⟩ | ⟨_, c', e', z⟩
    . have k : X.env.scope.names.lookup y = some .local := k
      rcases ok.free _ (PySem.mem_of_lookup hfr.1) rfl with k' | k' <;> rw [show X.env.scope.names.lookup y = _ from k'] at k <;> cases k
    . rw [h2] at e'; cases e'
      exact ⟨c, h1, z.keeps kp⟩
  . have e : cenv.cells.lookup y = some c := e
    rcases mem e with ⟨h1, _⟩ | ⟨_, z⟩
    . obtain ⟨w, z⟩ := I.cell y c h1
      exact ⟨w, z.keeps kp⟩
    . exact ⟨_, z⟩
  . show H cenv.locals = none
    rw [hL]; exact I.hok.fresh (Nat.le_refl _)
  . have e : cenv.cells.lookup y = some c := e
    rcases mem e with ⟨h1, _⟩ | ⟨h1, _⟩
    . exact I.freeC y c h1
    . exact I.hok.fresh (Nat.le_of_succ_le h1)
  . exact absurd (show p ∈ ([] : List (Addr × Obj)) ++ [] from hp) (by simp)
theorem ziS {E : Value -> Shared -> Prop} {D : Addr} {xs : List V} {y : V} {v : Value} {Q : Value -> Shared -> Prop} (I : Inv X pins σ H s) (hD : H D = some (.lst xs)) (hz : xs.length < sizeLine) (r : yc y v)
    (h : ∀ s', Inv X pins σ (upd H D (.lst (xs ++ [y]))) s' -> Q .none s') : wpAny (model X.prog X.w) X.A (call (.builtin "list.append") [.ref D, v]) Q E s := by
  obtain ⟨hz', its, n, ri, e⟩ := I.hok D _ hD
  have hl := ri.length
  refine append_at (hsz := by rw [List.size_toArray]; omega) e fun h' sb ho' => ?_
  refine h { s with heap := h' } (I.write (t' := s.toks) (by rw [hD]; trivial) (.inl rfl) (fun b u hb q => (sb.2 b hb).trans q) ⟨_, ho'⟩ ⟨by rw [List.length_append]; exact hz, its ++ [v], n + 1, ri.append (.cons r .nil), ?_⟩)
  rw [ho']
  simp
def PTs (X : Cx) (ifs : List Expr) (t : TT) : Prop :=
  ∀ (pins : List (Addr × Obj)) (s : Shared) (σ : St) (H : Hp) (Q : Bool -> Hp -> Prop), Inv X pins σ H s -> t σ H Q ->
    wpAny (model X.prog X.w) X.A (forIn ifs true fun c r => if r = true then do let ok <- isTrue c X.env (eval c X.env); pure (ForInStep.yield ok) else pure (ForInStep.yield r)) (TP X pins σ Q) X.xe s
def zk0 : TT := fun _ H Q => Q true H
theorem jF : PTs X [] zk0 := fun _ _ _ H _ I h => wpAny_tests_nil ⟨H, I, h⟩
end
theorem ziP {α : Type} {t : Sem α} {Q Q' : α -> Shared -> Prop} {M : Model} {A : Around} {E : Value -> Shared -> Prop} {s : Shared} (h : wpAny M A t Q (fun _ _ => False) s) (hQ : ∀ a s, Q a s -> Q' a s) : wpAny M A t Q' E s := wpAny_mono h hQ fun _ _ z => False.elim z
theorem wy {prog : Program} {w : World} {A : Around} {R : Result -> Shared -> Prop} {s : Shared} {elt target iter : Expr} {ifs : List Expr} {scope : Scope} {pos : Pos} {it acc : Value} {env : Env} (I : Nat -> Shared -> Prop)
    (turn : ∀ n s, I n s -> wpAny (model prog w) A (pyNext it) (fun r s₁ => match r with
      | none => R (.ok .next) s₁
      | some v => wpAny (model prog w) A (letOwnedTupleGo target it v) (fun _ s₁' => wpAny (model prog w) A (assign target env v) (fun _ s₂ =>
          wpAny (model prog w) A (forIn ifs true fun c r => if r = true then do let ok <- isTrue c env (eval c env); pure (ForInStep.yield ok) else pure (ForInStep.yield r)) (fun ok s₃ =>
            if ok = true then wpAny (model prog w) A (eval elt env) (fun x s₄ =>
              wpAny (model prog w) A (call (.builtin "list.append") [acc, x]) (fun _ s₅ => ∃ m, m < n /\ I m s₅) (notedBy (model prog w) A env fun e s' => R (.error e) s') s₄) (notedBy (model prog w) A env fun e s' => R (.error e) s') s₃
            else ∃ m, m < n /\ I m s₃) (notedBy (model prog w) A env fun e s' => R (.error e) s') s₂) (notedBy (model prog w) A env fun e s' => R (.error e) s') s₁') (notedBy (model prog w) A env fun e s' => R (.error e) s') s₁) (notedBy (model prog w) A env fun e s' => R (.error e) s') s)
    (n : Nat) (h : I n s) :
    codeAny (model prog w) A (.compLoop (.ListComp elt [⟨target, iter, ifs, 0⟩] scope pos) 0 it acc env) R s := by
  refine codeAny_loop rfl I (fun n s hI => ?_) n h
  show wpAny _ A ((compTurn (.ListComp elt [⟨target, iter, ifs, 0⟩] scope pos) 0 it acc env).onRaise (fun x => do noteFrame x env; theTreesLotGoes x)) _ _ s
  refine wpAny_noted ?_
  rw [compTurn_list]
  refine wpAny_bind (wpAny_standAt (wpAny_bind (wpAny_mono (turn n s hI) (fun r s₁ h₁ => ?_) fun _ _ h' => h')))
  cases r with
  | none => exact wpAny_pure h₁
  | some v =>
    refine wpAny_bind (wpAny_mono h₁ (fun _ s₁' h₁' => ?_) fun _ _ h' => h')
    refine wpAny_bind (wpAny_mono h₁' (fun _ s₂ h₂ => wpAny_bind (wpAny_mono h₂ (fun ok s₃ h₃ => ?_) fun _ _ h' => h')) fun _ _ h' => h')
    cases ok with
    | false => exact wpAny_pure ⟨rfl, h₃⟩
    | true =>
      exact wpAny_bind (wpAny_bind (wpAny_mono h₃ (fun x s₄ h₄ => wpAny_bind (wpAny_mono h₄ (fun _ s₅ h₅ => wpAny_pure (wpAny_pure ⟨rfl, h₅⟩)) fun _ _ h' => h')) fun _ _ h' => h'))
section
variable {X : Cx}
def tLc (wi : TI) (g : TG) (tt : TT) (te : TE) (vs : List Nat) : TE := fun σ H Q => wi σ H fun J H1 => ∀ D, H1 D = none -> ∃ W : Nat -> Nat -> Hp -> Prop, (∃ m, W 0 m (upd H1 D (.lst []))) /\ ∀ i m H, W i m H ->
  (J.stop i H /\ Q (.ref D) H) \/ (J.go i H /\ ∃ Nx : Hp -> Prop, (∀ H', Nx H' -> ∃ m', m' < m /\ W (i + 1) m' H') /\ ∀ x H', J.yld i H x H' -> g x (y3 σ vs) H' fun σ2 H2 => y3 σ2 vs = y3 σ vs /\ tt σ2 H2 fun b H3 =>
    if b = true then te σ2 H3 fun y H4 => ∃ acc, H4 D = some (.lst acc) /\ acc.length < sizeLine /\ Nx (upd H4 D (.lst (acc ++ [y]))) else Nx H3)
theorem zeP {pins : List (Addr × Obj)} {s : Shared} {σ : St} {H : Hp} {Q : VK} {elt tg iter : Expr} {ifs : List Expr} {scope : Scope} {own : List (Str × Nat)} {pos pos' : Pos} {wi : TI} {g : TG} {tt : TT} {te : TE} {use : Option (Value -> Sem Unit)} {Qf : Value -> Shared -> Prop}
    (hc : X.calm = true) (hN : X.N.Nodup) (I : Inv X pins σ H s) (hi : PI X tg iter wi) (ok : ke X.N X.env.scope scope own)
    (hg : ∀ (s : Shared) (H : Hp) (C : Addr) (cl : List (Str × Addr)) (fp : List Addr), PG (X.blk s H scope (compEnvC scope cl C X.env) fp) tg g) (ht : ∀ (s : Shared) (H : Hp) (C : Addr) (cl : List (Str × Addr)) (fp : List Addr), PTs (X.blk s H scope (compEnvC scope cl C X.env) fp) ifs tt)
    (he : ∀ (s : Shared) (H : Hp) (C : Addr) (cl : List (Str × Addr)) (fp : List Addr), PE (X.blk s H scope (compEnvC scope cl C X.env) fp) elt te) (hs : ∀ x, foldedSetIterable iter X.env x = pure x)
    (h : tLc wi g tt te (own.map (·.2)) σ H Q)
    (hRR : ∀ D C s' m H', Inv X pins σ H' s' -> Q (.ref D) H' -> s'.heap.Ns C m -> zdC X pins H' C -> compPost (model X.prog X.w) X.A X.xe use Qf (.ref D) C (.ok .next) s') :
    wpAny (model X.prog X.w) X.A (comprehension (.ListComp elt [⟨tg, iter, ifs, 0⟩] scope pos) scope X.env pos' (newList []) false (eval iter X.env) use) Qf X.xe s := by
  have hfree : ∀ y ∈ scope.names, y.2 = .free -> ∃ c, X.env.cells.lookup y.1 = some c := fun y hy e => by
    rcases ok.free y hy e with k | k
    . exact I.ok.has _ (.inl k)
    . exact I.ok.has _ (.inr k)
  refine wpAny_comprehension_free (use := use) rfl hs (zcF hfree) ok.kind (fun y hy e => by rw [ok.uniq y hy, e])
    (thn (hi pins s σ H _ I h) fun xv s1 hx => thn hx fun itv s2 h2 => ?_)
  obtain ⟨it, fp, tn, J, H2, e, I2, T, st2, f2, q⟩ := h2
  subst e
  refine wpAny_newObj_type (zbx ?_) (by show 0 <= sizeLine; decide)
  generalize hD : s2.heap.objs.size = D
  have hDn : H2 D = none := I2.hok.fresh (Nat.le_of_eq hD)
  obtain ⟨W, ⟨m0, w0⟩, turn⟩ := q D hDn
  generalize hs3 : ({ s2 with heap := s2.heap.push { cls := .type "list", data := .seq ([] : List Value).toArray } } : Shared) = s3
  have I3 : Inv X pins σ (upd H2 D (.lst [])) s3 := by
    rw [<- hs3]
    refine I2.laid (t' := s2.toks) (fun b o e => Heap.get?_push_of_some _ e) (Nat.le_of_eq hD) ⟨Nat.zero_le _, [], 0, .nil, ?_⟩
    rw [<- hD]
    exact Heap.get?_push_size _ rfl
  have h3 : s3.heap = s2.heap.push { cls := .type "list", data := .seq ([] : List Value).toArray } := by rw [<- hs3]
  have sz : ∀ b ∈ fp, b < s2.heap.objs.size := fun b hb => by
    obtain ⟨o, e, _⟩ := T.obj _ _ st2 b hb
    exact Heap.lt_size e
  have f3 : ∀ b ∈ fp, zdC X pins (upd H2 D (.lst [])) b /\ b < s3.heap.objs.size := fun b hb => by
    have hlt := sz b hb
    refine ⟨⟨?_, (f2 b hb).2⟩, by rw [h3, Heap.size_push]; exact Nat.lt_succ_of_lt hlt⟩
    rw [zh (by rw [<- hD]; exact Nat.ne_of_lt hlt)]
    exact (f2 b hb).1
  have st3 : tn 0 s3.heap := T.keep _ _ _ st2 fun b _ o e => by rw [h3]; exact Heap.get?_push_of_some _ e
  have I4 := zaH I3 ok hN f3
  have pg := hg s3 (upd H2 D (.lst [])) s3.heap.objs.size (cellsFrom (s3.heap.objs.size + 1) scope.names (z9 X.env.cells scope.names [])) fp
  have pt := ht s3 (upd H2 D (.lst [])) s3.heap.objs.size (cellsFrom (s3.heap.objs.size + 1) scope.names (z9 X.env.cells scope.names [])) fp
  have pe := he s3 (upd H2 D (.lst [])) s3.heap.objs.size (cellsFrom (s3.heap.objs.size + 1) scope.names (z9 X.env.cells scope.names [])) fp
  show codeAny _ _ (.compStart (.ListComp elt [⟨tg, iter, ifs, 0⟩] scope pos) 0 (.ref it) (.ref D) (compEnvC scope (cellsFrom (s3.heap.objs.size + 1) scope.names (z9 X.env.cells scope.names [])) s3.heap.objs.size X.env)) (compPost (model X.prog X.w) X.A X.xe use Qf (.ref D) s3.heap.objs.size) { s3 with heap := pushCells (s3.heap.push { cls := .type "dict", data := .dict #[] }) scope.names }
  have nfp : ∀ b ∈ fp, (upd H2 D (.lst [])) b = none := fun b hb => (f3 b hb).1.1
  generalize hce : compEnvC scope (cellsFrom (s3.heap.objs.size + 1) scope.names (z9 X.env.cells scope.names [])) s3.heap.objs.size X.env = ce at I4 pg pt pe ⊢
  have cL : ce.locals = s3.heap.objs.size := by subst hce; rfl
  generalize hH3 : upd H2 D (.lst []) = H3 at I3 I4 pg pt pe w0 nfp f3
  generalize hs4 : ({ s3 with heap := pushCells (s3.heap.push { cls := .type "dict", data := .dict #[] }) scope.names } : Shared) = s4 at I4 ⊢
  have st4 : tn 0 s4.heap := T.keep _ _ _ st3 fun b _ o e => by rw [<- hs4]; exact pushCells_keeps _ _ _ _ (Heap.get?_push_of_some _ e)
  have stat : ∀ {σ' : St} {H' : Hp} {s' : Shared}, Inv (X.blk s3 H3 scope ce fp) [] σ' H' s' -> (∀ b ∈ fp, H' b = none) -> ∀ b ∈ fp, zdC (X.blk s3 H3 scope ce fp) [] H' b := fun {σ' H' s'} I' hn b hb =>
    ⟨hn b hb, (I'.ok.exf b hb).1, I'.ok.exfs b hb, .inl hb, fun x c e => (I'.ok.exf b hb).2 x c e, fun p hp => absurd (show p ∈ ([] : List (Addr × Obj)) ++ [] from hp) (by simp)⟩
  have loop : codeAny (model X.prog X.w) X.A (.compLoop (.ListComp elt [⟨tg, iter, ifs, 0⟩] scope pos) 0 (.ref it) (.ref D) ce) (compPost (model X.prog X.w) X.A X.xe use Qf (.ref D) s3.heap.objs.size) s4 := by
    refine wy (fun n s' => ∃ i H', Inv (X.blk s3 H3 scope ce fp) [] (y3 σ (own.map (·.2))) H' s' /\ tn i s'.heap /\ (∀ b ∈ fp, H' b = none) /\ W i n H') ?_ m0 ⟨0, H3, I4, st4, nfp, w0⟩
    rintro n s5 ⟨i, H5, I5, st5, n5, w5⟩
    rcases turn i n H5 w5 with ⟨stop, qq⟩ | ⟨go, Nx, hNx, step⟩
    . have td := T.done (X.blk s3 H3 scope ce fp) rfl rfl rfl hc i [] s5 _ H5 (fun _ _ => False) I5 (stat I5 n5) st5 stop
      refine ziP td fun r s6 ⟨hr, I6⟩ => ?_
      subst hr
      have I7 : Inv X pins σ H5 s6 := I3.call' (ch := fp) I6.os I6.base I6.hok I6.bare fun b hb => ⟨(f3 b hb).1.2.2.2.1, (f3 b hb).1.2.1, (f3 b hb).1.2.2.2.2.1, (f3 b hb).1.2.2.2.2.2⟩
      have nC : H5 s3.heap.objs.size = none := by
        have z : H5 ce.locals = none := I6.free
        rw [cL] at z
        exact z
      obtain ⟨m, hn, _⟩ := I6.loc
      have hn : s6.heap.Ns ce.locals m := hn
      rw [cL] at hn
      exact hRR D s3.heap.objs.size s6 m H5 I7 qq hn (I3.fpOk (Nat.le_refl _) nC)
    . have ti := T.item (X.blk s3 H3 scope ce fp) rfl rfl rfl hc i [] s5 _ H5 (fun _ _ => False) I5 (stat I5 n5) st5 go
      refine ziP ti fun r s6 ⟨u, hr, h6⟩ => ?_
      subst hr
      refine ziP h6 fun _ s7 ⟨x, H7, I7, r7, y7, st7, n7⟩ => ?_
      have I7' := I7.pinned (stat I7 n7) (T.obj _ _ st7)
      refine ziP (pg _ s7 _ H7 x u _ I7' r7 (step x H7 y7)) fun _ s8 ⟨σ8, H8, I8, hw8, q8⟩ => ?_
      refine ziP (pt _ s8 σ8 H8 _ I8 q8) fun b s9 ⟨H9, I9, q9⟩ => ?_
      have fin : ∀ {s' : Shared} {H' : Hp}, Inv (X.blk s3 H3 scope ce fp) ([] ++ wv fp s7.heap) σ8 H' s' -> Nx H' -> ∃ m, m < n /\ ∃ i H', Inv (X.blk s3 H3 scope ce fp) [] (y3 σ (own.map (·.2))) H' s' /\ tn i s'.heap /\ (∀ b ∈ fp, H' b = none) /\ W i m H' := fun {s' H'} I' nx => by
        obtain ⟨m', hm, w'⟩ := hNx H' nx
        have pin' : ∀ b ∈ fp, ∀ o, s7.heap.get? b = some o -> s'.heap.get? b = some o /\ H' b = none := fun b hb o e =>
          let z := I'.pin (b, o) (List.mem_append_right _ (List.mem_append_right _ (qL hb e)))
          ⟨z.1, z.2.1⟩
        have hl : (y3 σ (own.map (·.2))).length = σ8.length := by rw [<- hw8, qf]
        refine ⟨m', hm, i + 1, H', (I'.unpinned (pins := [])).weak hl (fun j v e => ?_), T.keep _ _ _ st7 fun b hb o e => (pin' b hb o e).1, fun b hb => ?_, w'⟩
        . rw [<- hw8] at e
          exact (jA e).1
        . obtain ⟨o, e, _⟩ := T.obj _ _ st7 b hb
          exact (pin' b hb o e).2
      cases b with
      | false =>
        simp only [Bool.false_eq_true, if_false] at q9 ⊢
        exact fin I9 q9
      | true =>
        simp only [if_true] at q9 ⊢
        refine ziP (pe _ s9 σ8 H9 _ I9 q9) fun z s10 ⟨yv, H10, I10, r10, acc, hD10, hz10, nx⟩ => ?_
        exact ziS (X := X.blk s3 H3 scope ce fp) I10 hD10 hz10 r10 fun s11 I11 => fin I11 nx
  exact codeAny_compStart_list loop (T.self X.A 0 _ _ _ st4 loop)
theorem zhP {elt tg iter : Expr} {ifs : List Expr} {scope : Scope} {own : List (Str × Nat)} {pos : Pos} {wi : TI} {g : TG} {tt : TT} {te : TE} (hc : X.calm = true) (hN : X.N.Nodup) (hi : PI X tg iter wi) (ok : ke X.N X.env.scope scope own)
    (hg : ∀ (s : Shared) (H : Hp) (C : Addr) (cl : List (Str × Addr)) (fp : List Addr), PG (X.blk s H scope (compEnvC scope cl C X.env) fp) tg g) (ht : ∀ (s : Shared) (H : Hp) (C : Addr) (cl : List (Str × Addr)) (fp : List Addr), PTs (X.blk s H scope (compEnvC scope cl C X.env) fp) ifs tt)
    (he : ∀ (s : Shared) (H : Hp) (C : Addr) (cl : List (Str × Addr)) (fp : List Addr), PE (X.blk s H scope (compEnvC scope cl C X.env) fp) elt te) (hs : ∀ x, foldedSetIterable iter X.env x = pure x := by intro _; rfl) :
    PE X (.ListComp elt [⟨tg, iter, ifs, 0⟩] scope pos) (tLc wi g tt te (own.map (·.2))) := by
  intro pins s σ H Q I h
  rw [eval_ListComp]
  refine zeP hc hN I hi ok hg ht he hs h fun D C s' m H' I' q hn f => ⟨m, hn, fun h'' sb => ?_⟩
  obtain ⟨f0, f1, f2, f3, f4, f5⟩ := f
  exact ⟨.ref D, H', I'.turned (t' := s'.toks) (fun b o hb e => (sb.2 b hb).trans e) f0 f1 f3 f4 f5, rfl, q⟩
theorem zcc {i : Nat} {y : Str} {py : Pos} {elt tg iter : Expr} {ifs : List Expr} {scope : Scope} {own : List (Str × Nat)} {pos spos : Pos} {wi : TI} {g : TG} {tt : TT} {te : TE} (hc : X.calm = true) (hN : X.N.Nodup) (hy : X.N[i]? = some y) (hyl : X.env.scope.names.lookup y = some .local)
    (hsw : swapsWith (.ListComp elt [⟨tg, iter, ifs, 0⟩] scope pos) (some (.Name y py)) spos.line X.env = pure true) (hi : PI X tg iter wi) (ok : ke X.N X.env.scope scope own)
    (hg : ∀ (s : Shared) (H : Hp) (C : Addr) (cl : List (Str × Addr)) (fp : List Addr), PG (X.blk s H scope (compEnvC scope cl C X.env) fp) tg g) (ht : ∀ (s : Shared) (H : Hp) (C : Addr) (cl : List (Str × Addr)) (fp : List Addr), PTs (X.blk s H scope (compEnvC scope cl C X.env) fp) ifs tt)
    (he : ∀ (s : Shared) (H : Hp) (C : Addr) (cl : List (Str × Addr)) (fp : List Addr), PE (X.blk s H scope (compEnvC scope cl C X.env) fp) elt te) (hs : ∀ x, foldedSetIterable iter X.env x = pure x := by intro _; rfl) :
    PS X (.Assign [.Name y py] (.ListComp elt [⟨tg, iter, ifs, 0⟩] scope pos) spos) (zkV (tLc wi g tt te (own.map (·.2))) (zeU i)) := by
  intro pins s σ H D I h
  rw [exec_Assign_Name_used _ _ _ _ hsw]
  refine wpAny_bind (wpAny_standAt (wpAny_bind ?_))
  show wpAny _ X.A (do let _ <- comprehension (.ListComp elt [⟨tg, iter, ifs, 0⟩] scope pos) scope X.env (firstIterPos [⟨tg, iter, ifs, 0⟩] pos) (newList []) false (eval iter X.env) (some (assign (.Name y py) X.env))) _ _ s
  have h : tLc wi g tt te (own.map (·.2)) σ H (fun x H1 => zeU i x σ H1 D.nx) := h
  refine wpAny_bind (thn (zeP (Qf := fun _ s' => SP X pins D .next s') hc hN I hi ok hg ht he hs h fun L C s' m H' I' q hn f => ?_) fun _ s' hq => wpAny_pure (wpAny_pure hq))
  show wpAny _ _ (assign (.Name y py) X.env (.ref L)) _ _ _
  refine wpAny_assign_Name (w8 (v := V.ref L) I' hN hy (.inl hyl) rfl (fun s2 I2 ⟨a, sb, ha⟩ => ?_) (.inr hyl))
  obtain ⟨f0, f1, f2, f3, f4, f5⟩ := f
  have haC : C ≠ a := by
    rcases ha with z | z
    . rw [z]; exact f1
    . exact fun e => f4 y a z e.symm
  refine ⟨m, hn.sameBut sb haC, fun h3 sb3 => ?_⟩
  exact ⟨_, H', I2.turned (t' := s2.toks) (fun b o hb e => (sb3.2 b hb).trans e) f0 f1 f3 f4 f5, q⟩
theorem zeq {elt : Expr} {gs : List Comprehension} {scope : Scope} {pos py : Pos} {y : Str} {l : Nat} {env : Env} (hk : env.scope.kind = .function) (hy : env.scope.names.lookup y = some .local) (hl : (py.line == pos.line) = true)
    (ha : (scope.names.any fun (n, k) => n == y && (k == .local || k == .cell)) = false) : swapsWith (.ListComp elt gs scope pos) (some (.Name y py)) l env = pure true := by
  have ky : env.kindOf y = some .local := hy
  have hb : env.blockKind = .function := by unfold Env.blockKind; rw [hk]; rfl
  unfold swapsWith
  simp only [hb, ky, ha, Expr.pos, hl]
  rfl
end
theorem zfL {lo : Int} {n : Nat} {g : TG} {tt : TT} {te : TE} {vs : List Nat} {σ : St} {H1 : Hp} {D : Addr} {Qd : Hp -> Prop} (Pv : Nat -> Hp -> Prop) (h0 : Pv 0 (upd H1 D (.lst [])))
    (hs : ∀ i H, i < n -> Pv i H -> g (.int (lo + i)) (y3 σ vs) H fun σ2 H2 => y3 σ2 vs = y3 σ vs /\ tt σ2 H2 fun b H3 =>
      if b = true then te σ2 H3 fun y H4 => ∃ acc, H4 D = some (.lst acc) /\ acc.length < sizeLine /\ Pv (i + 1) (upd H4 D (.lst (acc ++ [y]))) else Pv (i + 1) H3) (hd : ∀ H, Pv n H -> Qd H) :
    ∃ W : Nat -> Nat -> Hp -> Prop, (∃ m, W 0 m (upd H1 D (.lst []))) /\ ∀ i m H, W i m H ->
      ((Itr lo n).stop i H /\ Qd H) \/ ((Itr lo n).go i H /\ ∃ Nx : Hp -> Prop, (∀ H', Nx H' -> ∃ m', m' < m /\ W (i + 1) m' H') /\ ∀ x H', (Itr lo n).yld i H x H' -> g x (y3 σ vs) H' fun σ2 H2 => y3 σ2 vs = y3 σ vs /\ tt σ2 H2 fun b H3 =>
        if b = true then te σ2 H3 fun y H4 => ∃ acc, H4 D = some (.lst acc) /\ acc.length < sizeLine /\ Nx (upd H4 D (.lst (acc ++ [y]))) else Nx H3) := by
  refine ⟨fun i m H => m = n - i /\ i <= n /\ Pv i H, ⟨n, by simp, Nat.zero_le _, h0⟩, ?_⟩
  rintro i m H ⟨rfl, hi, p⟩
  by_cases hlt : i < n
  . refine .inr ⟨hlt, Pv (i + 1), fun H' p' => ⟨n - (i + 1), by omega, rfl, hlt, p'⟩, fun x H' y => ?_⟩
    obtain ⟨e, y⟩ := y
    subst e y
    exact hs i _ hlt p
  . have e : i = n := by omega
    subst e
    exact .inl ⟨Nat.le_refl _, hd H p⟩
theorem zid {K : PySem.W.Frag} {a : Addr} {xs : List V} {g : TG} {tt : TT} {te : TE} {vs : List Nat} {σ : St} {H1 : Hp} {D : Addr} {Qd : Hp -> Prop} (Pv : Nat -> Hp -> Prop) (h0 : Pv 0 (upd H1 D (.lst []))) (hl : ∀ i H, i <= xs.length -> Pv i H -> SqL K H a xs)
    (hs : ∀ i x H, xs[i]? = some x -> Pv i H -> g x (y3 σ vs) H fun σ2 H2 => y3 σ2 vs = y3 σ vs /\ tt σ2 H2 fun b H3 =>
      if b = true then te σ2 H3 fun y H4 => ∃ acc, H4 D = some (.lst acc) /\ acc.length < sizeLine /\ Pv (i + 1) (upd H4 D (.lst (acc ++ [y]))) else Pv (i + 1) H3) (hd : ∀ H, Pv xs.length H -> Qd H) :
    ∃ W : Nat -> Nat -> Hp -> Prop, (∃ m, W 0 m (upd H1 D (.lst []))) /\ ∀ i m H, W i m H ->
      ((Itl K a).stop i H /\ Qd H) \/ ((Itl K a).go i H /\ ∃ Nx : Hp -> Prop, (∀ H', Nx H' -> ∃ m', m' < m /\ W (i + 1) m' H') /\ ∀ x H', (Itl K a).yld i H x H' -> g x (y3 σ vs) H' fun σ2 H2 => y3 σ2 vs = y3 σ vs /\ tt σ2 H2 fun b H3 =>
        if b = true then te σ2 H3 fun y H4 => ∃ acc, H4 D = some (.lst acc) /\ acc.length < sizeLine /\ Nx (upd H4 D (.lst (acc ++ [y]))) else Nx H3) := by
  refine ⟨fun i m H => m = xs.length - i /\ i <= xs.length /\ Pv i H, ⟨xs.length, by simp, Nat.zero_le _, h0⟩, ?_⟩
  rintro i m H ⟨rfl, hi, p⟩
  have q := hl i H hi p
  by_cases hlt : i < xs.length
  . refine .inr ⟨⟨xs, xs[i], q, by simp [hlt]⟩, Pv (i + 1), fun H' p' => ⟨xs.length - (i + 1), by omega, rfl, hlt, p'⟩, fun x H' y => ?_⟩
    obtain ⟨e, y⟩ := y
    subst e
    exact hs i x _ (y xs q) p
  . have e : i = xs.length := by omega
    subst e
    exact .inl ⟨⟨xs, q, Nat.le_refl _⟩, hd H p⟩
theorem zjQ {K : PySem.W.Frag} {a : Addr} {xs : List V} {g : TG} {tt : TT} {te : TE} {vs : List Nat} {σ : St} {H1 : Hp} {D : Addr} {Qd : Hp -> Prop} (Pv : Nat -> Hp -> Prop) (h0 : Pv 0 (upd H1 D (.lst []))) (hl : ∀ i H, i <= xs.length -> Pv i H -> SqT K H a xs)
    (hs : ∀ i x H, xs[i]? = some x -> Pv i H -> g x (y3 σ vs) H fun σ2 H2 => y3 σ2 vs = y3 σ vs /\ tt σ2 H2 fun b H3 =>
      if b = true then te σ2 H3 fun y H4 => ∃ acc, H4 D = some (.lst acc) /\ acc.length < sizeLine /\ Pv (i + 1) (upd H4 D (.lst (acc ++ [y]))) else Pv (i + 1) H3) (hd : ∀ H, Pv xs.length H -> Qd H) :
    ∃ W : Nat -> Nat -> Hp -> Prop, (∃ m, W 0 m (upd H1 D (.lst []))) /\ ∀ i m H, W i m H ->
      ((Itt K a).stop i H /\ Qd H) \/ ((Itt K a).go i H /\ ∃ Nx : Hp -> Prop, (∀ H', Nx H' -> ∃ m', m' < m /\ W (i + 1) m' H') /\ ∀ x H', (Itt K a).yld i H x H' -> g x (y3 σ vs) H' fun σ2 H2 => y3 σ2 vs = y3 σ vs /\ tt σ2 H2 fun b H3 =>
        if b = true then te σ2 H3 fun y H4 => ∃ acc, H4 D = some (.lst acc) /\ acc.length < sizeLine /\ Nx (upd H4 D (.lst (acc ++ [y]))) else Nx H3) := by
  refine ⟨fun i m H => m = xs.length - i /\ i <= xs.length /\ Pv i H, ⟨xs.length, by simp, Nat.zero_le _, h0⟩, ?_⟩
  rintro i m H ⟨rfl, hi, p⟩
  have q := hl i H hi p
  by_cases hlt : i < xs.length
  . refine .inr ⟨⟨xs, xs[i], q, by simp [hlt]⟩, Pv (i + 1), fun H' p' => ⟨xs.length - (i + 1), by omega, rfl, hlt, p'⟩, fun x H' y => ?_⟩
    obtain ⟨e, y⟩ := y
    subst e
    exact hs i x _ (y xs q) p
  . have e : i = xs.length := by omega
    subst e
    exact .inl ⟨⟨xs, q, Nat.le_refl _⟩, hd H p⟩
def zlb (N : List Str) (sc scope : Scope) (own : List (Str × Nat)) : Bool :=
  (match scope.kind with | .function => true | _ => false) && (scope.names.all fun y => decide (scope.names.lookup y.1 = some y.2)) && (own.all fun p => decide (N[p.2]? = some p.1)) &&
    (scope.names.all fun y => match y.2 with
      | .free => (match sc.names.lookup y.1 with | some .cell => true | some .free => true | _ => false)
      | .local => decide (y.1 ∈ own.map (·.1)) || decide (y.1 ∉ N)
      | .cell => decide (y.1 ∈ own.map (·.1)) || decide (y.1 ∉ N)
      | _ => true)
theorem qC {N : List Str} {sc scope : Scope} {own : List (Str × Nat)} (h : zlb N sc scope own = true) : ke N sc scope own := by
  unfold zlb at h
  simp only [Bool.and_eq_true, List.all_eq_true, decide_eq_true_eq] at h
  obtain ⟨⟨⟨h1, h2⟩, h3⟩, h4⟩ := h
  refine ⟨?_, h2, h3, fun y hy e => ?_, fun y hy e => ?_⟩
  . split at h1
    . assumption
    . cases h1
  . have q := h4 y hy
    simp only [e] at q
    split at q <;> first | exact .inl (by assumption) | exact .inr (by assumption) | cases q
  . have q := h4 y hy
    rcases e with e | e <;> (simp only [e, Bool.or_eq_true, decide_eq_true_eq] at q; exact q)
end L2
namespace L2
open PySem PySem.Spec PyProof.Rows
section
variable {prog : Program} {w : World} {A : Around} {R : Result -> Shared -> Prop} {s : Shared} {elt t0 i0 t1 i1 : Expr} {ifs0 ifs1 : List Expr} {scope : Scope} {pos : Pos} {it acc : Value} {env : Env}
end
section
variable {X : Cx}
end
end L2
namespace L2
open PySem PySem.Spec PyProof.Rows
section
variable {κ : Type} [DecidableEq κ]
def zc4 (kvs : List (κ × V)) (k : κ) : Option V := (kvs.find? fun kv => decide (kv.1 = k)).map (·.2)
def zgU (kvs : List (κ × V)) (k : κ) (v : V) : List (κ × V) :=
  if (kvs.any fun kv => decide (kv.1 = k)) = true then kvs.map (fun kv => if kv.1 = k then (kv.1, v) else kv) else kvs ++ [(k, v)]
def zjb (kvs : List (κ × V)) (k : κ) : List (κ × V) := kvs.filter fun kv => decide (kv.1 ≠ k)
theorem v8 {p : κ × V} {r : List (κ × V)} {k : κ} (e : p.1 = k) : zc4 (p :: r) k = some p.2 := by simp [zc4, List.find?_cons, e]
theorem vM {p : κ × V} {r : List (κ × V)} {k : κ} (e : ¬ p.1 = k) : zc4 (p :: r) k = zc4 r k := by simp [zc4, List.find?_cons, e]
theorem zbC (k : κ) : ∀ kvs : List (κ × V), (kvs.any fun kv => decide (kv.1 = k)) = (zc4 kvs k).isSome
  | [] => rfl
  | p :: r => by
    rw [List.any_cons]
    by_cases e : p.1 = k
    . simp only [v8 e, decide_eq_true e, Bool.true_or, Option.isSome_some]
    . rw [vM e, decide_eq_false e, Bool.false_or]; exact zbC k r
theorem zat.isSome_eq {o : Option V} {u : Option Value} (r : zat o u) : o.isSome = u.isSome := by
  cases o with
  | none => cases u with
    | none => rfl
    | some _ => exact (show False from r).elim
  | some _ => cases u with
    | none => exact (show False from r).elim
    | some _ => rfl
theorem zat.getD {o : Option V} {u : Option Value} {d : V} {d' : Value} (r : zat o u) (rd : yc d d') : yc (o.getD d) (u.getD d') := by
  cases o with
  | none => cases u with
    | none => exact rd
    | some _ => exact (show False from r).elim
  | some _ => cases u with
    | none => exact (show False from r).elim
    | some _ => exact r
theorem KV.val {kvs : List (κ × V)} {vs : List (κ × Value)} (r : KV kvs vs) (k : κ) : zat (zc4 kvs k) (valueAt vs k) := by
  unfold KV at r
  induction r with
  | nil => exact True.intro
  | @cons p q ps qs h t ih =>
    obtain ⟨h1, h2⟩ := h
    by_cases e : p.1 = k
    . have e' : q.1 = k := h1.symm.trans e
      have b : valueAt (q :: qs) k = some q.2 := by simp [valueAt, List.find?_cons, e']
      rw [v8 e, b]; exact h2
    . have e' : ¬ q.1 = k := fun z => e (h1.trans z)
      have b : valueAt (q :: qs) k = valueAt qs k := by simp [valueAt, List.find?_cons, e']
      rw [vM e, b]; exact ih
theorem KV.any {kvs : List (κ × V)} {vs : List (κ × Value)} (r : KV kvs vs) (k : κ) : (kvs.any fun kv => decide (kv.1 = k)) = vs.any fun kv => decide (kv.1 = k) := by
  unfold KV at r
  induction r with
  | nil => rfl
  | cons h t ih => rw [List.any_cons, List.any_cons, ih, h.1]
theorem KV.repl {kvs : List (κ × V)} {vs : List (κ × Value)} (r : KV kvs vs) (k : κ) {y : V} {u : Value} (ry : yc y u) :
    KV (kvs.map fun kv => if kv.1 = k then (kv.1, y) else kv) (vs.map fun kv => if kv.1 = k then (kv.1, u) else kv) := by
  unfold KV at r ⊢
  induction r with
  | nil => exact .nil
  | @cons p q ps qs h t ih =>
    rw [List.map_cons, List.map_cons]
    refine .cons ?_ ih
    obtain ⟨h1, h2⟩ := h
    by_cases e : p.1 = k
    . rw [if_pos e, if_pos (h1.symm.trans e)]; exact ⟨h1, ry⟩
    . rw [if_neg e, if_neg (fun z => e (h1.trans z))]; exact ⟨h1, h2⟩
theorem KV.put {kvs : List (κ × V)} {vs : List (κ × Value)} (r : KV kvs vs) (k : κ) {y : V} {u : Value} (ry : yc y u) : KV (zgU kvs k y) (stored vs k u) := by
  unfold zgU stored
  rw [r.any k]
  by_cases e : (vs.any fun kv => decide (kv.1 = k)) = true
  . rw [if_pos e, if_pos e]; exact r.repl k ry
  . rw [if_neg e, if_neg e]; exact Paired.snoc r ⟨rfl, ry⟩
theorem KV.drop {kvs : List (κ × V)} {vs : List (κ × Value)} (r : KV kvs vs) (k : κ) : KV (zjb kvs k) (without vs k) := by
  unfold KV at r ⊢
  unfold zjb without
  induction r with
  | nil => exact .nil
  | @cons p q ps qs h t ih =>
    obtain ⟨h1, h2⟩ := h
    rw [List.filter_cons, List.filter_cons]
    by_cases e : p.1 = k
    . have a : ¬ decide (p.1 ≠ k) = true := by simp [e]
      have b : ¬ decide (q.1 ≠ k) = true := by simp [h1.symm.trans e]
      rw [if_neg a, if_neg b]; exact ih
    . have e' : ¬ q.1 = k := fun z => e (h1.trans z)
      have a : decide (p.1 ≠ k) = true := by simp [e]
      have b : decide (q.1 ≠ k) = true := by simp [e']
      rw [if_pos a, if_pos b]; exact .cons ⟨h1, h2⟩ ih
theorem KV.length {kvs : List (κ × V)} {vs : List (κ × Value)} (r : KV kvs vs) : kvs.length = vs.length := Paired.length r
end
abbrev KT (H : Hp) : List (List Key × V) -> List (List Key × Addr × Value) -> Prop := Paired fun p q => p.1 = q.1 /\ H q.2.1 = some (.tup (p.1.map kV)) /\ yc p.2 q.2.2
theorem KT.val {H : Hp} {kvs : List (List Key × V)} {xs : List (List Key × Addr × Value)} (r : KT H kvs xs) (k : List Key) : zat (zc4 kvs k) ((atKey xs k).map (·.2)) := by
  induction r with
  | nil => exact True.intro
  | @cons p q ps qs h t ih =>
    obtain ⟨h1, _, h2⟩ := h
    by_cases e : p.1 = k
    . have e' : q.1 = k := h1.symm.trans e
      have b : atKey (q :: qs) k = some q.2 := by simp [atKey, List.find?_cons, e']
      rw [v8 e, b]; exact h2
    . have e' : ¬ q.1 = k := fun z => e (h1.trans z)
      have b : atKey (q :: qs) k = atKey qs k := by simp [atKey, List.find?_cons, e']
      rw [vM e, b]; exact ih
theorem KT.repl {H : Hp} {kvs : List (List Key × V)} {xs : List (List Key × Addr × Value)} (r : KT H kvs xs) (k : List Key) {y : V} {u : Value} (ry : yc y u) :
    KT H (kvs.map fun kv => if kv.1 = k then (kv.1, y) else kv) (xs.map (putAt k u)) := by
  induction r with
  | nil => exact .nil
  | @cons p q ps qs h t ih =>
    rw [List.map_cons, List.map_cons]
    refine .cons ?_ ih
    obtain ⟨h1, h2, h3⟩ := h
    unfold putAt
    by_cases e : p.1 = k
    . rw [if_pos e, if_pos (h1.symm.trans e)]; exact ⟨h1, h2, ry⟩
    . rw [if_neg e, if_neg (fun z => e (h1.trans z))]; exact ⟨h1, h2, h3⟩
theorem KT.put {H : Hp} {kvs : List (List Key × V)} {xs : List (List Key × Addr × Value)} (r : KT H kvs xs) (k : List Key) {b : Addr} {y : V} {u : Value} (hb : H b = some (.tup (k.map kV))) (ry : yc y u) :
    KT H (zgU kvs k y) (storedH xs k b u) := by
  have e : (kvs.any fun kv => decide (kv.1 = k)) = (atKey xs k).isSome := by
    rw [zbC, (r.val k).isSome_eq, Option.isSome_map]
  unfold zgU storedH
  rw [e]
  by_cases q : (atKey xs k).isSome = true
  . rw [if_pos q, if_pos q]; exact r.repl k ry
  . rw [if_neg q, if_neg q]; exact Paired.snoc r ⟨rfl, hb, ry⟩
theorem KT.keeps {H H' : Hp} {kvs : List (List Key × V)} {xs : List (List Key × Addr × Value)} (r : KT H kvs xs) (ht : ∀ b ys, H b = some (.tup ys) -> H' b = some (.tup ys)) : KT H' kvs xs :=
  Paired.mapP r fun _ _ z => ⟨z.1, ht _ _ z.2.1, z.2.2⟩
section
variable {P : Program} {w : World} {H : Hp} {h : Heap} {a : Addr}
end
def zkc (H : Hp) (a : Addr) (y : V) (r : Option V) : Prop :=
  (∃ kvs k, Rd H a (.dK kvs) /\ y = kV k /\ r = zc4 kvs k) \/ ∃ kvs k b, Rd H a (.dT kvs) /\ y = .ref b /\ H b = some (.tup (k.map kV)) /\ r = zc4 kvs k
def zj9 (H : Hp) (a : Addr) (y v : V) (H' : Hp) : Prop :=
  (∃ kvs k, H a = some (.dK kvs) /\ y = kV k /\ kvs.length < sizeLine /\ H' = upd H a (.dK (zgU kvs k v))) \/
  ∃ kvs k b, H a = some (.dT kvs) /\ y = .ref b /\ H b = some (.tup (k.map kV)) /\ kvs.length < sizeLine /\ H' = upd H a (.dT (zgU kvs k v))
theorem zkc.k {H : Hp} {a : Addr} {kvs : List (Key × V)} {k : Key} (e : H a = some (.dK kvs)) : zkc H a (kV k) (zc4 kvs k) := .inl ⟨kvs, k, .inl e, rfl, rfl⟩
theorem zkc.t {H : Hp} {a b : Addr} {kvs : List (List Key × V)} {k : List Key} (e : H a = some (.dT kvs)) (eb : H b = some (.tup (k.map kV))) : zkc H a (.ref b) (zc4 kvs k) := .inr ⟨kvs, k, b, .inl e, rfl, eb, rfl⟩
theorem zj9.k {H : Hp} {a : Addr} {kvs : List (Key × V)} {k : Key} {v : V} (e : H a = some (.dK kvs)) (hl : kvs.length < sizeLine) : zj9 H a (kV k) v (upd H a (.dK (zgU kvs k v))) := .inl ⟨kvs, k, e, rfl, hl, rfl⟩
theorem zj9.t {H : Hp} {a b : Addr} {kvs : List (List Key × V)} {k : List Key} {v : V} (e : H a = some (.dT kvs)) (eb : H b = some (.tup (k.map kV))) (hl : kvs.length < sizeLine) :
    zj9 H a (.ref b) v (upd H a (.dT (zgU kvs k v))) := .inr ⟨kvs, k, b, e, rfl, eb, hl, rfl⟩
section
variable {X : Cx} {pins : List (Addr × Obj)} {σ : St} {H : Hp} {s : Shared} {a : Addr} {y v : V} {u r : Value} {o : Option V} {A : Around} {E : Value -> Shared -> Prop}
theorem Inv.big (I : Inv X pins σ H s) : sysModules < s.heap.objs.size := by
  have h : mainGlobals < s.heap.objs.size := (I.mod.glob.keeps I.bk).lt
  exact Nat.lt_trans (by decide) h
end
section
variable {X : Cx} {pins : List (Addr × Obj)} {σ : St} {H : Hp} {s : Shared} {a : Addr} {kvs : List (Key × V)} {k : Key} {u : Value} {A : Around} {E : Value -> Shared -> Prop}
end
section
variable {X : Cx} {o i e value : Expr} {pos pos' tpos : Pos} {td ty tv : TE}
end
section
variable {X : Cx} {pos : Pos}
end
structure M1 (X : Cx) (o : Expr) (m : Str) (apos : Pos) (e : Expr) (cpos : Pos) : Prop where
  base : attributeBase o m X.env (eval o X.env) = eval o X.env
  few : ((backTo cpos (starEach [e] X.env)).all (fun x => !x.1) && (backToKw cpos (keywordEach [] X.env)).all (fun x => x.1.isSome)
    && decide (([e] : List Expr).length + ([] : List Keyword).length + (if ([] : List Keyword).isEmpty then 0 else 1) < 30)) = true
  line : (apos.endLine == cpos.line) = true
  trees : backTo cpos (starEach [e] X.env) = [(false, eval e X.env)]
structure M2 (X : Cx) (o : Expr) (m : Str) (apos : Pos) (e f : Expr) (cpos : Pos) : Prop where
  base : attributeBase o m X.env (eval o X.env) = eval o X.env
  few : ((backTo cpos (starEach [e, f] X.env)).all (fun x => !x.1) && (backToKw cpos (keywordEach [] X.env)).all (fun x => x.1.isSome)
    && decide (([e, f] : List Expr).length + ([] : List Keyword).length + (if ([] : List Keyword).isEmpty then 0 else 1) < 30)) = true
  line : (apos.endLine == cpos.line) = true
  trees : backTo cpos (starEach [e, f] X.env) = [(false, eval e X.env), (false, eval f X.env)]
section
variable {X : Cx} {pins : List (Addr × Obj)} {σ : St} {H : Hp} {s : Shared} {a : Addr} {y d : V} {u r : Value} {o : Option V} {A : Around} {E : Value -> Shared -> Prop}
end
section
variable {X : Cx} {o e f : Expr} {apos cpos : Pos} {td ty tx : TE}
end
section
variable {X : Cx} {pins : List (Addr × Obj)} {σ : St} {H : Hp} {s : Shared} {a : Addr} {kvs : List (Key × V)} {A : Around} {E : Value -> Shared -> Prop}
end
section
variable {X : Cx} {pins : List (Addr × Obj)} {σ : St} {H : Hp} {s : Shared} {a : Addr} {y : V} {u : Value} {A : Around} {E : Value -> Shared -> Prop}
end
end L2
namespace L2
open PySem PySem.Spec PyProof.Rows
section
variable {prog : Program} {w : World} {A : Around} {E : Value -> Shared -> Prop}
end
section
variable {X : Cx}
end
end L2
namespace L2
open PySem PySem.Spec PyProof.Rows
section
variable {X : Cx} {pins : List (Addr × Obj)} {σ : St} {H : Hp} {s : Shared} {h' : Heap}
theorem Inv.turnedNew {t' : Nat} {ch : List Addr} {T : Addr} {ob : HO} (I : Inv X pins σ H s) (k : ∀ b o, b ∉ ch -> s.heap.get? b = some o -> h'.get? b = some o) (hf : ∀ b ∈ ch, zdC X pins H b) (hT : s.heap.objs.size <= T)
    (new : xz X.prog X.w (upd H T ob) h' T ob) : Inv X pins σ (upd H T ob) { s with heap := h', toks := t' } := by
  have hn : H T = none := I.hok.fresh hT
  have nit : ∀ b u, H b = some u -> b ∉ ch := fun b u e z => by
    have q := (hf b z).1
    rw [q] at e; cases e
  refine I.step (g' := s.gens) (d' := s.drawn) (ch := ch) (fun b hb => ⟨(hf b hb).2.2.2.1, (hf b hb).2.1, (hf b hb).2.2.2.2.1, (hf b hb).2.2.2.2.2⟩) (fun b o _ _ hc e _ => k b o hc e) (fun b o _ _ hc e _ => ⟨o.slots, k b o hc e⟩)
    (fun b o _ e n => ?_) (fun b o hc e => ⟨o, k b o hc e⟩) (fun b xs e => ?_) (fun b o u e => ?_) (fun b ps e => ⟨#[], ?_⟩) (fun m hm => ?_) (fun b u e => ?_) I.bare
  . rw [zh (Nat.ne_of_lt (Nat.lt_of_lt_of_le (Heap.lt_size e) hT))]; exact n
  . rw [zh (zc e hn)]; exact e
  . rw [zh (zc e hn)]; exact e
  . rw [zh (zc e hn), e]; simp
  . obtain ⟨o, es, ep, ho, r⟩ := hm
    exact ⟨o, es, ep, k _ o (fun z => (hf _ z).2.1 rfl) ho, r⟩
  . by_cases hb : b = T
    . subst hb
      rw [zb] at e
      cases e
      exact new
    . rw [zh hb] at e
      refine (I.hok b u e).stay (fun c v hc q => k c v ?_ q) (fun c q => by rw [zh (zc q hn)]; exact q) fun c xs q => by rw [zh (zc q hn)]; exact q
      rcases hc with z | z
      . rw [z]; exact nit b u e
      . exact nit c _ z
end
section
variable {X : Cx}
theorem zgB {tg : Expr} {pins : List (Addr × Obj)} {σ : St} {H : Hp} {s : Shared} {R : It -> Hp -> Prop} {J : It} {tn : Nat -> Heap -> Prop} {tk : Nat} (I : Inv X pins σ H s) (o : Obj)
    (T : zio X.prog X.w X.K tg J [s.heap.objs.size] s.heap.objs.size tn) (st : tn 0 (s.heap.push o)) (q : R J H) : PIE X pins σ tg R (.ref s.heap.objs.size) { s with heap := s.heap.push o, toks := tk } := by
  refine ⟨s.heap.objs.size, [s.heap.objs.size], tn, J, H, rfl, I.kept fun b ob e => Heap.get?_push_of_some _ e, T, st, fun b hb => ?_, q⟩
  have e : b = s.heap.objs.size := by simpa using hb
  subst e
  exact I.fpOk (Nat.le_refl _) (I.hok.fresh (Nat.le_refl _))
end
def RgC (i j c : Int) (n : Nat) : Prop := c ≠ 0 /\ c.natAbs < 1073741824 /\ Builtin.Range.small i j c = true /\ Builtin.Range.rangeSize i j c = n
theorem RgC.neg {i j : Int} (ha : -(2 ^ 62) <= i) (ha' : i < 2 ^ 62) (hb : -(2 ^ 62) <= j) (hb' : j < 2 ^ 62) : RgC i j (-1) (i - j).toNat :=
  ⟨by decide, by decide, PySem.W.small_down ha ha' hb hb', PySem.W.rangeSize_downNat i j⟩
section
variable {X : Cx} {tg : Expr}
end
def Itv (K : PySem.W.Frag) (a : Addr) (n : Nat) : It :=
  ⟨fun i H => i < n /\ ∃ (xs : List V) (x : V), SqL K H a xs /\ xs[n - 1 - i]? = some x, fun i H x H' => H' = H /\ ∀ xs, SqL K H a xs -> xs[n - 1 - i]? = some x, fun i _ => n <= i⟩
section
variable {X : Cx} {tg : Expr}
end
def Its (x : Str) : It := ⟨fun i _ => i < x.cps.size, fun i H v H' => H' = H /\ ∃ c, x.cps[i]? = some c /\ v = .str ⟨#[c]⟩, fun i _ => x.cps.size <= i⟩
theorem zbF {P : Program} {w : World} {K : PySem.W.Frag} {tg : Expr} (it : Addr) (x : Str) (t : Tok) (ty : String) (hty : ty = "str_ascii_iterator" \/ ty = "str_iterator") :
    zio P w K tg (Its x) [it] it (fun i h => h.IsStrIter it ty x t i) where
  mem := by simp
  obj := fun i h st b hb => by
    have e : b = it := by simpa using hb
    subst e
    obtain ⟨o, e, c, d⟩ := st
    exact ⟨o, e, fun v z => by rw [d] at z; cases z⟩
  keep := fun i h h' st k => let ⟨o, ho, r⟩ := st; ⟨o, k it (by simp) o ho, r⟩
  item := by
    intro X hP hw hK hc i pins s σ H E I hf st hg
    subst hP hw hK
    obtain ⟨f0, f1, f2, f3, f4, f5⟩ := hf it (by simp)
    have W : Walks X.prog X.w X.A it [it] [it] x.cps.size (SignAt x) (fun i h => h.IsStrIter it ty x t i) := by
      rcases hty with e | e
      . rw [e]; exact Walks.strAscii (I.ok.hd hc) it x t
      . rw [e]; exact Walks.strWide (I.ok.hd hc) it x t
    have hno : ["enumerate", "zip", "dict_itemiterator", "dict_reverseitemiterator", "odict_iterator", "itertools.zip_longest", "itertools.pairwise"].contains ty = false := by
      rcases hty with e | e
      . rw [e]; decide
      . rw [e]; decide
    refine W.item i s _ _ hg st fun v h' tk hv st' kk => ?_
    obtain ⟨c, u, hcx, rfl⟩ := hv
    have I1 : Inv X pins σ H { s with heap := h', toks := tk } := I.turned (fun b o hb e => kk b o (by simpa using hb) e) f0 f1 f3 f4 f5
    obtain ⟨oi, e, cc, dd⟩ := id st'
    exact ⟨_, rfl, zfl (s := { s with heap := h', toks := tk }) e cc dd hno ⟨.str ⟨#[c]⟩, H, I1, ⟨u, rfl⟩, ⟨rfl, c, hcx, rfl⟩, st', fun b hb => (hf b hb).1⟩⟩
  done := by
    intro X hP hw hK hc i pins s σ H E I hf st hg
    subst hP hw hK
    obtain ⟨f0, f1, f2, f3, f4, f5⟩ := hf it (by simp)
    have hx : x.cps[i]? = none := Array.getElem?_eq_none hg
    rcases hty with e | e
    . rw [e] at st
      exact wpAny_pyNext_ascii_end (I.ok.hd hc) st hx fun h' eb => ⟨rfl, I.turned (t' := s.toks) (fun b o hb e => eb b o hb e) f0 f1 f3 f4 f5⟩
    . rw [e] at st
      exact wpAny_pyNext_wide_end (I.ok.hd hc) st hx fun h' eb => ⟨rfl, I.turned (t' := s.toks) (fun b o hb e => eb b o hb e) f0 f1 f3 f4 f5⟩
  self := fun A i s Q E st h => by
    rcases hty with e | e
    . rw [e] at st; exact wpAny_pyIter_striter_ascii st h
    . rw [e] at st; exact wpAny_pyIter_striter_wide st h
def zlH (te : TE) : TI := fun σ H R => te σ H fun v H1 => ∃ x, v = .str x /\ R (Its x) H1
theorem zj1 {X : Cx} {tg e : Expr} {te : TE} (he : PE X e te) : PI X tg e (zlH te) := by
  intro pins s σ H R I h
  refine thn (he pins s σ H _ I h) fun v s1 ⟨y, H1, I1, r1, x, ex, q⟩ => ?_
  subst ex
  obtain ⟨t, rfl⟩ := r1
  cases ha : x.cps.all (· < 128)
  . exact wpAny_pyIter_wide ha (zgB (tk := s1.toks) I1 _ (zbF _ x t "str_iterator" (.inr rfl)) ⟨_, Heap.get?_push_size _ rfl, rfl, rfl⟩ q)
  . exact wpAny_pyIter_ascii ha (zgB (tk := s1.toks) I1 _ (zbF _ x t "str_ascii_iterator" (.inl rfl)) ⟨_, Heap.get?_push_size _ rfl, rfl, rfl⟩ q)
section
variable {prog : Program} {w : World} {A : Around} {E : Value -> Shared -> Prop} {s : Shared}
end
section
variable {X : Cx} {pins : List (Addr × Obj)} {σ : St} {H : Hp} {s : Shared} {d : Addr} {o : Obj}
end
section
variable {P : Program} {w : World} {K : PySem.W.Frag} {tg : Expr} {d : Addr} {o : Obj} {es : Array DictEntry} {ep : Nat}
end
section
variable {X : Cx} {tg e : Expr} {td : TE} {apos cpos : Pos}
end
def Ite (K : PySem.W.Frag) (a : Addr) : It :=
  ⟨fun i H => ∃ (xs : List V) (x : V), SqL K H a xs /\ xs[i]? = some x, fun i H v H' => ∃ T x, v = .ref T /\ H T = none /\ H' = upd H T (.tup [.int (i : Nat), x]) /\ ∀ xs, SqL K H a xs -> xs[i]? = some x, fun i H => ∃ xs : List V, SqL K H a xs /\ xs.length <= i⟩
theorem zd1 {P : Program} {w : World} {K : PySem.W.Frag} {elts : List Expr} {kk : Nat} {tpos : Pos} (a e it : Addr) :
    zio P w K (.Tuple elts kk tpos) (Ite K a) [e, it] e (fun i h => (∃ old, IsEnum h e it ((i : Nat) : Int) old) /\ h.IsListIter it a i /\ e ≠ it) where
  mem := by simp
  obj := fun i h st b hb => by
    obtain ⟨⟨old, he⟩, ⟨o, ho, hc, hd⟩, _⟩ := st
    have e' : b = e \/ b = it := by simpa using hb
    rcases e' with z | z
    . rw [z]; exact ⟨_, he, fun v q => nomatch q⟩
    . rw [z]; exact ⟨o, ho, fun v q => by rw [hd] at q; cases q⟩
  keep := fun i h h' st k => let ⟨⟨old, he⟩, hi, hne⟩ := st; ⟨⟨old, k e (by simp) _ he⟩, hi.at fun o q => k it (by simp) o q, hne⟩
  item := by
    intro X hP hw hK hc i pins s σ H E I hf st hg
    subst hP hw hK
    obtain ⟨⟨old, he⟩, hit, hne⟩ := st
    obtain ⟨xs, x, hq, hx⟩ := hg
    obtain ⟨its, rv, p, hz⟩ := I.list hq
    obtain ⟨u, hu, ru⟩ := rv.get hx
    have hel : e < s.heap.objs.size := Heap.lt_size he
    have hil : it < s.heap.objs.size := by obtain ⟨_, q, _⟩ := hit; exact Heap.lt_size q
    refine wpAny_pyNext_enum_item he hit p.isList (x := u) (by simpa using hu) hne fun h' ho hit' hT hsz hk => ?_
    refine ⟨_, rfl, wpAny_letOwnedTupleGo_enum (s := { s with heap := h', toks := s.toks + 1 }) ho fun h'' he' sb => ?_⟩
    have hT2 : h''.get? s.heap.objs.size = some { cls := .type "tuple", data := .seq #[.int i s.toks, u] } := (sb.2 _ (Nat.ne_of_gt hel)).trans hT
    have new : xz X.prog X.w (upd H s.heap.objs.size (.tup [.int (i : Nat), x])) h'' s.heap.objs.size (.tup [.int (i : Nat), x]) :=
      ⟨by show 2 <= sizeLine; decide, [.int i s.toks, u], .cons ⟨_, rfl⟩ (.cons ru .nil), ⟨_, hT2, rfl, _, rfl⟩⟩
    have I1 : Inv X pins σ (upd H s.heap.objs.size (.tup [.int (i : Nat), x])) { s with heap := h'', toks := s.toks + 1 } :=
      I.turnedNew (ch := [e, it]) (fun b ob hb q => (sb.2 b (fun z => hb (by simp [z]))).trans (hk b ob (fun z => hb (by simp [z])) (fun z => hb (by simp [z])) q)) hf (Nat.le_refl _) new
    refine ⟨.ref s.heap.objs.size, _, I1, rfl, ⟨_, x, rfl, I.hok.fresh (Nat.le_refl _), rfl, fun ys hy => by rw [I.list_inj hy hq]; exact hx⟩, ⟨⟨u, ?_⟩, hit'.at fun o q => (sb.2 it (Ne.symm hne)).trans q, hne⟩, fun b hb => ?_⟩
    . have e1 : ((i + 1 : Nat) : Int) = (i : Int) + 1 := by omega
      rw [e1]; exact he'
    . have hb' : b < s.heap.objs.size := by
        have e' : b = e \/ b = it := by simpa using hb
        rcases e' with z | z
        . rw [z]; exact hel
        . rw [z]; exact hil
      rw [zh (Nat.ne_of_lt hb')]
      exact (hf b hb).1
  done := by
    intro X hP hw hK hc i pins s σ H E I hf st hg
    subst hP hw hK
    obtain ⟨⟨old, he⟩, hit, hne⟩ := st
    obtain ⟨xs, hq, hx⟩ := hg
    obtain ⟨its, rv, p, hz⟩ := I.list hq
    obtain ⟨f0, f1, f2, f3, f4, f5⟩ := hf it (by simp)
    have hl := rv.length
    exact wpAny_pyNext_enum_end (I.ok.hd hc) he hit p.isList (by simp; omega) fun h' eb => ⟨rfl, I.turned (t' := s.toks) (fun b o hb q => eb b o hb q) f0 f1 f3 f4 f5⟩
  self := fun A i s Q E st h => let ⟨⟨_, he⟩, _⟩ := st; wpAny_pyIter_enum he h
def zkl (K : PySem.W.Frag) (ta : TA) : TI := fun σ H R => ta σ H fun vs H1 => ∃ a xs, vs = [.ref a] /\ SqL K H1 a xs /\ R (Ite K a) H1
theorem zeL {X : Cx} {e : Expr} {ta : TA} {p pos tpos : Pos} {elts : List Expr} {kk : Nat} (hg : Gl X "enumerate") (hm : X.mg "enumerate" = none) (ha : PA X [e] ta) (hs : starEach [e] X.env = [(false, eval e X.env)] := by rfl) :
    PI X (.Tuple elts kk tpos) (.Call (.Name "enumerate" p) [e] [] pos) (zkl X.K ta) := by
  intro pins s σ H R I h
  refine Call_ (zbK I hg hm boot_enumerate (PyProof.Rows.callWith_type1 (thn (ha pos pins s σ H _ I h) fun us s1 ⟨vs, H1, I1, r1, q1⟩ => ?_) hs rfl))
  obtain ⟨a, xs, ex, hq, q⟩ := q1
  subst ex
  cases r1 with
  | cons r rr =>
    cases rr
    cases r
    obtain ⟨its, rv, p', hz⟩ := I1.list hq
    refine call_enumerate_list p'.isList fun h' he hit hsz hk => wpAny_pyIter_enum he ?_
    have I2 : Inv X pins σ H1 { s1 with heap := h' } := I1.kept (t' := s1.toks) hk
    refine ⟨s1.heap.objs.size + 1, [s1.heap.objs.size + 1, s1.heap.objs.size], _, _, H1, rfl, I2, zd1 a (s1.heap.objs.size + 1) s1.heap.objs.size, ⟨⟨.none, he⟩, hit, Nat.succ_ne_self _⟩, fun b hb => ?_, q⟩
    have e' : b = s1.heap.objs.size + 1 \/ b = s1.heap.objs.size := by simpa using hb
    have hle : s1.heap.objs.size <= b := by
      rcases e' with z | z
      . rw [z]; exact Nat.le_add_right _ _
      . rw [z]; exact Nat.le_refl _
    exact I1.fpOk hle (I1.hok.fresh hle)
end L2
section
namespace Bits
open PySem PyProof.Rows
end Bits
end
section
namespace TL
open PySem PySem.Builtin PySem.Builtin.Str PySem.StrLaws
abbrev tl (x : Str) : List Nat := x.cps.toList
def pre (S l : List Nat) : Bool := l.take S.length == S
def par (S : List Nat) : List Nat -> List Nat -> Option (List Nat × List Nat)
  | _, [] => none
  | acc, c :: r => if pre S (c :: r) = true then some (acc, (c :: r).drop S.length) else par S (acc ++ [c]) r
end TL
end
namespace L2
open PySem PySem.Spec PyProof.Rows
section
variable {X : Cx} {pins : List (Addr × Obj)} {σ : St} {H : Hp} {s : Shared} {Q : VK}
end
section
variable {X : Cx}
end
section
variable {X : Cx} {o e : Expr} {to te : TE}
end
end L2
namespace L2
open PySem PySem.Spec PyProof.Rows
section
variable {X : Cx}
end
end L2
namespace Att
open PySem PySem.W PySem.Calls PyProof.Rows
section
variable {prog : Program} {w : World} {A : Around} {E : Value -> Shared -> Prop} {s : Shared} {K : Frag}
end
end Att
namespace L2
open PySem PySem.Spec PyProof.Rows
end L2
namespace L2
open PySem PySem.Spec PyProof.Rows
end L2
namespace L2
open PySem PySem.Spec PyProof.Rows
def z0 (s : Stmt) (j : Nat) : Stmt := match s with
  | .ClassDef _ _ _ body _ _ _ _ _ _ _ => body.getD j (.Pass ⟨0, 0, 0, 0⟩)
  | _ => .Pass ⟨0, 0, 0, 0⟩
def x9 (s : Stmt) : Arguments := match s with
  | .FunctionDef _ a _ _ _ _ _ _ _ _ => a
  | _ => { posonlyargs := [], args := [], vararg := none, kwonlyargs := [], kw_defaults := [], kwarg := none, defaults := [] }
def xl (s : Stmt) : List Stmt := match s with
  | .FunctionDef _ _ b _ _ _ _ _ _ _ => b
  | _ => []
def zj (s : Stmt) : Scope := match s with
  | .FunctionDef _ _ _ _ _ _ sc _ _ _ => sc
  | _ => { kind := .function, names := [], isGenerator := false, isCoroutine := false }
abbrev CX0 : CXT := fun _ _ _ _ _ _ => False
structure Fun (K : PySem.W.Frag) (x qual : Str) (st : Stmt) (f : Addr) (fd : FuncData) : Prop where
  ex : ∃ (oc : Value) (od : Option Addr) (kV doc pm : Value) (an : Option Addr) (cdv ct : Value) (osl : Array (Option Value)),
    fd = PySem.W.fnOf x qual (x9 st) (xl st) (zj st) .none kV doc pm an cdv ct /\ K.lookup f = some ⟨oc, od, .func fd, osl⟩ /\ PySem.W.codeIn K cdv qual = true
  kp : PySem.W.keepIn K (.ref f) = true
section
variable {P : Program} {w : World} {K : PySem.W.Frag} {mg : Str -> Option Value} {base : Heap}
theorem Fun.ok {x qual : Str} {st : Stmt} {f : Addr} {fd : FuncData} {N ps : List Str} {k : Nat} {sp : Sp} (F : Fun K x qual st f fd) (S : zq N ps (zj st)) (len : ∀ vs H Q E, sp vs H Q E -> vs.length = ps.length)
    (hbody : ∀ (cdv : Value) (A : Around) (outer : List Env) (s : Shared) (H : Hp) (vs : List V) (Q : VK) (E : XK), yp k (A.deeper (envOfC qual (zj st) s.heap.objs.size f cdv)) -> sp vs H Q E ->
      ∃ t, PSs (zgJ CX0 P w K mg base N qual (zj st) f cdv A outer s H E).nox (xl st) t /\ t { nx := fun _ H' => Q .non H', rt := Q } (vR N vs) H) : yg P w K mg base CX0 (k + 1) f fd ps sp := by
  obtain ⟨oc, od, kV, doc, pm, an, cdv, ct, osl, rfl, lk, hcd⟩ := F.ex
  refine zjW lk hcd S len fun A outer s H vs Q E hr hsp => ?_
  obtain ⟨t, h, q⟩ := hbody cdv A outer s H vs Q E hr hsp
  exact ⟨t, h.nox, q⟩
theorem Fun.binds {x qual : Str} {st : Stmt} {f : Addr} {fd : FuncData} {ps : List Str} (F : Fun K x qual st f fd)
    (h : ∀ (kV doc pm : Value) (an : Option Addr) (cdv ct : Value) (us : List Value), us.length = ps.length -> bindArgs (PySem.W.fnOf x qual (x9 st) (xl st) (zj st) .none kV doc pm an cdv ct) ⟨us, []⟩ = pure (ps.zip us)) : qG K fd ps [] := by
  obtain ⟨oc, od, kV, doc, pm, an, cdv, ct, osl, rfl, lk, hcd⟩ := F.ex
  exact .all (h kV doc pm an cdv ct)
end
section
variable {X : Cx}
theorem pv (i : Nat) {x : Str} {pos : Pos} (hN : X.N[i]? = some x := by rfl) (hv : Vis X.env.scope x := by first | exact Or.inl rfl | exact Or.inr (Or.inl rfl) | exact Or.inr (Or.inr rfl)) (hd : (x == ("__debug__" : Str)) = false := by decide)
    (hcd : (x == ("__classdict__" : Str)) = false := by decide) : PE X (.Name x pos) (ziN i) := zjd hN hv hd hcd
end
theorem ziM {A B : Prop} (h : B) : if false = true then A else B := by
  rw [if_neg Bool.false_ne_true]
  exact h
theorem zc7 {A B : Prop} (h : A) : if true = true then A else B := by
  rw [if_pos rfl]
  exact h
theorem yC {c A B : Prop} [Decidable c] (h1 : c -> A) (h2 : ¬ c -> B) : if c then A else B := by
  by_cases h : c
  . rw [if_pos h]
    exact h1 h
  . rw [if_neg h]
    exact h2 h
def zQ (H H' : Hp) : Prop := ∀ b o, H b = some o -> H' b = some o
theorem zQ.refl (H : Hp) : zQ H H := fun _ _ h => h
theorem zQ.trans {H H1 H2 : Hp} (a : zQ H H1) (b : zQ H1 H2) : zQ H H2 := fun c o h => b c o (a c o h)
theorem zQ.free {H H' : Hp} (e : zQ H H') {l : Addr} (h : H' l = Option.none) : H l = Option.none := by
  cases q : H l with
  | none => rfl
  | some o =>
    rw [e l o q] at h
    cases h
theorem zQ.seq {K : PySem.W.Frag} {H H' : Hp} {a : Addr} {xs : List V} (e : zQ H H') (h : SqL K H a xs) : SqL K H' a xs := by
  rcases h with (h | ⟨o, h⟩) | h
  . exact .inl (.inl (e _ _ h))
  . exact .inl (.inr ⟨o, e _ _ h⟩)
  . exact .inr h
section
variable {κ : Type} [DecidableEq κ]
end
theorem yP {xs : List V} {z : Int} {j : Nat} {v : V} (e : z = (j : Int)) (h : xs[j]? = some v) : atI xs z = some v := by
  rw [e]
  exact zhO h
theorem zQ.made {H H1 : Hp} {x dx C : Addr} (nx : H x = Option.none) (nd : H dx = Option.none) (k : ∀ b o, (upd (upd H dx (.own x)) x (.ins C dx [])) b = some o -> b ≠ x -> H1 b = some o) : zQ H H1 := fun b o e =>
  k b o (by rw [zh (zc e nx), zh (zc e nd)]; exact e) (zc e nx)
end L2
end
section
namespace L2
open PySem PySem.Spec PyProof.Rows
def CXe (P : Program) (w : World) : CXT := fun outer H s E e s' => ∃ (ea C : Addr) (a0 : Value) (B : Heap) (H' : Hp),
  e = .ref ea /\ E (.ref C) none H' /\ s'.os = s.os /\ AllBare s'.gens /\ Un (frs outer) [] H H' s.heap s'.heap /\ HOk P w H' B /\
  Heap.FlyingW B outer ea (.ref C) a0 s'.heap /\ (∀ b o, s.heap.get? b = some o -> H b = none -> b ∉ frs outer -> B.get? b = some o) /\
  (∀ b o, s.heap.get? b = some o -> b ∉ frs outer -> ∃ o', B.get? b = some o')
structure Lv (X : Cx) (E : XK) : Prop where
  xe : X.xe = fun e s' => wpAny (model X.prog X.w) X.A (leaving X.env e) (fun _ s'' => CXe X.prog X.w X.outer X.H_0 X.s_0 E e s'') (fun e' s'' => CXe X.prog X.w X.outer X.H_0 X.s_0 E e' s'') s'
  stk : X.stack = X.env :: X.outer
  fr : X.env.frame = some X.env.locals
  ex : X.ex = []
  calm : X.calm = true
theorem Lv.of {P : Program} {w : World} {K : PySem.W.Frag} {mg : Str -> Option Value} {base : Heap} {N : List Str} {qual : Str} {scope : Scope} {f : Addr} {cd : Value} {A : Around} {outer : List Env} {s : Shared} {H : Hp} {E : XK} :
    Lv (zgJ (CXe P w) P w K mg base N qual scope f cd A outer s H E) E := ⟨rfl, rfl, rfl, rfl, rfl⟩
section
variable {X : Cx} {E : XK} {pins : List (Addr × Obj)} {σ : St} {H : Hp} {s : Shared}
theorem Inv.nost (I : Inv X pins σ H s) {b : Addr} {o : Obj} (e : X.s_0.heap.get? b = some o) (hb : b ∉ X.fs) : b ∉ frs X.stack := fun z => by
  rcases List.mem_cons.mp (I.stkSub b z) with q | q
  . have h1 := Nat.lt_of_lt_of_le (Heap.lt_size e) I.ok.above
    rw [q] at h1
    exact Nat.lt_irrefl _ h1
  . exact hb q
theorem Inv.flown (I : Inv X pins σ H s) (hx : X.ex = []) {H' : Hp} {B h1 h2 : Heap} (un : Un (frs X.stack) [] H H' s.heap h1)
    (hB : ∀ b o, s.heap.get? b = some o -> H b = none -> b ∉ frs X.stack -> B.get? b = some o) (hT : ∀ b o, s.heap.get? b = some o -> b ∉ frs X.stack -> ∃ o', B.get? b = some o')
    (st : B.StaysIn h2) (us : h1.UpToSlots h2) : Un X.fs [] X.H_0 H' X.s_0.heap h2 := by
  have noex : ∀ b : Addr, b ∉ X.ex := fun b z => by rw [hx] at z; cases z
  have slot : ∀ b o, X.s_0.heap.get? b = some o -> X.H_0 b = none -> b ∈ X.fs -> ∃ sl, h2.get? b = some { o with slots := sl } := fun b o e n hb => by
    obtain ⟨sl, e1⟩ := I.base.slot b o e n hb (noex b)
    obtain ⟨sl2, e2⟩ := un.any e1 (I.base.free b o e n (noex b)) (by simp)
    obtain ⟨_, o', ho', hnf⟩ := I.ok.funs.mem hb
    rw [e] at ho'
    cases ho'
    obtain ⟨sl3, e3⟩ := us b _ e2 hnf
    exact ⟨sl3, e3⟩
  refine ⟨fun b o e n hb _ => ?_, fun b o e n hb _ => slot b o e n hb, fun b o e n _ => ?_, fun b o e _ => ?_, fun b xs e => un.tups b xs (I.base.tups b xs e), fun b o u e => un.frzs b o u (I.base.frzs b o u e), fun b ps e => ?_⟩
  . exact st b o (hB b o (I.base.keep b o e n hb (noex b)) (I.base.free b o e n (noex b)) (I.nost e hb))
  . obtain ⟨o1, e1⟩ := I.base.there b o e (noex b)
    exact un.free b o1 e1 (I.base.free b o e n (noex b)) (by simp)
  . by_cases hb : b ∈ X.fs
    . obtain ⟨sl, q⟩ := slot b o e (I.ok.frf b hb) hb
      exact ⟨_, q⟩
    . obtain ⟨o1, e1⟩ := I.base.there b o e (noex b)
      obtain ⟨o2, e2⟩ := hT b o1 e1 (I.nost e hb)
      exact ⟨o2, st b o2 e2⟩
  . obtain ⟨m1, e1⟩ := I.base.tbls b ps e
    obtain ⟨m2, e2⟩ := un.tbls b _ e1
    exact ⟨m1 ++ m2, by rw [e2, Array.append_assoc]⟩
theorem Lv.raised (L : Lv X E) (I : Inv X pins σ H s) {C e : Addr} {h' : Heap} {vs : List Value} (hE : E (.ref C) none H) (hm : Heap.MadeExcOf s.heap h' e (.ref C) vs) : X.xe (.ref e) { s with heap := h' } := by
  rw [L.xe]
  have hfr : X.A.frames = some (X.env :: X.outer) := by rw [<- L.stk]; exact I.ok.frames
  have hin : ∀ env ∈ X.stack, ∀ a, env.frame = some a -> a ∈ frs X.stack := fun env he a ha => List.mem_filterMap.mpr ⟨env, he, ha⟩
  have ff := PySem.W.funFrames_hide I.stack hin
  rw [L.stk] at ff
  refine wpAny_leaves_madeW (base := PySem.W.hideAll s.heap (frs (X.env :: X.outer))) (h := s.heap) hfr L.fr (fun b o q => PySem.W.of_hideAll _ q) ff hm fun h2 t f1 _ _ us => ?_
  rw [<- L.stk] at f1
  have hB : ∀ b o, s.heap.get? b = some o -> b ∉ frs X.stack -> (PySem.W.hideAll s.heap (frs X.stack)).get? b = some o := fun b o e hb => PySem.W.hideAll_get _ e hb
  have un : Un (frs X.stack) [] H H s.heap h' := Un.kept fun b u q => hm.keeps b u q
  have noex : ∀ b : Addr, b ∉ X.ex := fun b z => by rw [L.ex] at z; cases z
  refine ⟨e, C, .ref t, _, H, rfl, hE, I.os, I.bare, I.flown L.ex un (fun b o q _ hb => hB b o q hb) (fun b o q hb => ⟨o, hB b o q hb⟩) f1.1 us, fun a o q => ?_, f1, fun b o q n hb => ?_, fun b o q hb => ?_⟩
  . refine (I.hok a o q).stay (fun b u hb r => hB b u r fun z => ?_) (fun _ r => r) (fun _ _ r => r)
    have n := I.stkFree b z
    rcases hb with rfl | hb
    . rw [q] at n; cases n
    . rw [hb] at n; cases n
  . exact hB b o (I.base.keep b o q n hb (noex b)) (I.nost q hb)
  . obtain ⟨o1, e1⟩ := I.base.there b o q (noex b)
    exact ⟨o1, hB b o1 e1 (I.nost q hb)⟩
theorem Lv.pass (L : Lv X E) : xZ (CXe X.prog X.w) X E := by
  intro pins σ H s e s' I h
  obtain ⟨ea, C, a0, B, H', rfl, hE, os, bare, un, hok, fl, hB, hT⟩ := h
  rw [L.xe]
  have hfr : X.A.frames = some (X.env :: X.outer) := by rw [<- L.stk]; exact I.ok.frames
  have noex : ∀ b : Addr, b ∉ X.ex := fun b z => by rw [L.ex] at z; cases z
  have fl' := fl
  rw [L.stk] at fl'
  refine wpAny_leaves_onW hfr L.fr fl' fun h2 fl2 us => ?_
  refine ⟨ea, C, a0, B, H', rfl, hE, os.trans I.os, bare, I.flown L.ex un hB hT fl2.1 us, hok, fl2, fun b o q n hb => ?_, fun b o q hb => ?_⟩
  . exact hB b o (I.base.keep b o q n hb (noex b)) (I.base.free b o q n (noex b)) (I.nost q hb)
  . obtain ⟨o1, e1⟩ := I.base.there b o q (noex b)
    exact hT b o1 e1 (I.nost q hb)
theorem Lv.own (L : Lv X E) : PassesOwn (model X.prog X.w) X.A X.env X.xe := by
  rw [L.xe]
  exact PassesOwn.leaving
end
abbrev zgX : List Value := [.type "Exception", .type "BaseException", .type "object"]
theorem zjx {K : PySem.W.Frag} {h : Heap} {C : Addr} {newId : String} (X : K.In h) (q : PySem.W.excIn K C zgX newId = true) :
    ∃ bm N nm qn bs hdct sn sub ab col dd k0 k1 k2 k3 k5 mN, h.get? C = some (excClassObj nm qn C N bs bm hdct sn sub ab col dd k0 k1 k2 k3 k5 newId) /\ h.Ns N mN /\ mN "__init__" = none /\ OwnTail h zgX bm := by
  unfold PySem.W.excIn at q
  split at q
  case h_2 => cases q
  case h_1 dd cd sl ho =>
    split at q
    case h_2 => cases q
    case h_1 C' bm k0 k1 k2 k3 n k5 hm hs =>
      simp only [Bool.and_eq_true, beq_iff_eq, Bool.not_eq_true'] at q
      obtain ⟨⟨⟨⟨⟨e1, e2⟩, hdel⟩, ht⟩, hok⟩, hni⟩ := q
      subst e1
      subst e2
      have ho' := X _ _ ho
      cases cd with
      | mk nm bs mro ns qn hd sn sub ab col del =>
        cases hm
        cases hdel
        have hsl : sl = #[k0, k1, k2, k3, some (.builtin n), k5] := by
          cases sl
          exact congrArg _ hs
        rw [hsl] at ho'
        exact ⟨bm, ns, nm, qn, bs, hd, sn, sub, ab, col, dd, k0, k1, k2, k3, k5, _, ho', .of_isNs (PySem.W.isNs_of_in X hok), PySem.W.nsMap_none_of_in X hok hni, PySem.W.tail_of_in X ht⟩
def zgK (C : Addr) (E : XK) : TS := fun _ _ H => E (.ref C) none H
theorem zY {X : Cx} {E : XK} {x : Str} {C : Addr} {np cpos pos : Pos} (L : Lv X E) (hg : Gl X x) (hm : X.mg x = some (.ref C)) (hx : PySem.W.excIn X.K C zgX "Exception.__new__" = true) (hd : (x == ("__debug__" : Str)) = false := by decide) :
    PS X (.Raise (some (.Call (.Name x np) [] [] cpos)) none pos) (zgK C E) := by
  intro pins s σ H D I h
  obtain ⟨tl, N, nm, qn, bs, hdct, sn, sub, ab, col, dd, k0, k1, k2, k3, k5, mN, hC, hN, hni, T⟩ := zjx I.kIn hx
  refine wpAny_Raise_call_subT (C := C) (nm := nm) (q := qn) (N := N) (bs := bs) (bm := tl) (hdct := hdct) (sn := sn) (sub := sub) (ab := ab) (col := col) (dd := dd) (k0 := k0) (k1 := k1) (k2 := k2) (k3 := k3) (k5 := k5)
    PySem.F.excBase_Exception (mN := mN) (T.hasType PySem.F.excBase_Exception.hasBase) (I.ok.hd L.calm) rfl hni (xC I hg hm ⟨rfl, ?_⟩ hd)
  exact evalArgs_empty ⟨rfl, Nat.zero_le _, hC, hN, T, fun h' e hm' => L.raised I h hm'⟩
section
variable {P : Program} {w : World} {K : PySem.W.Frag} {mg : Str -> Option Value} {base : Heap}
theorem Fun.okE {x qual : Str} {st : Stmt} {f : Addr} {fd : FuncData} {N ps : List Str} {k : Nat} {sp : Sp} (F : Fun K x qual st f fd) (S : zq N ps (zj st)) (len : ∀ vs H Q E, sp vs H Q E -> vs.length = ps.length)
    (hbody : ∀ (cdv : Value) (A : Around) (outer : List Env) (s : Shared) (H : Hp) (vs : List V) (Q : VK) (E : XK), yp k (A.deeper (envOfC qual (zj st) s.heap.objs.size f cdv)) -> sp vs H Q E ->
      ∃ t, PSs (zgJ (CXe P w) P w K mg base N qual (zj st) f cdv A outer s H E) (xl st) t /\ t { nx := fun _ H' => Q .non H', rt := Q } (vR N vs) H) : yg P w K mg base (CXe P w) (k + 1) f fd ps sp := by
  obtain ⟨oc, od, kV, doc, pm, an, cdv, ct, osl, rfl, lk, hcd⟩ := F.ex
  exact zjW lk hcd S len fun A outer s H vs Q E hr hsp => hbody cdv A outer s H vs Q E hr hsp
end
end L2
end
section
namespace L2
open PySem PySem.Spec PyProof.Rows
section
variable {X : Cx}
theorem kM {pins : List (Addr × Obj)} {σ : St} {H : Hp} {s : Shared} {a : Addr} {ns : List Int} (I : Inv X pins σ H s) (hq : SqL X.K H a (ns.map V.int)) :
    ∃ xs : Array (Int × Tok), s.heap.IsList a (intItems xs) /\ ns = xs.toList.map (·.1) := by
  obtain ⟨its, r, p, hz⟩ := I.list hq
  have hi : IntsAre its ns := z7.ints r
  obtain ⟨xs, e⟩ := hi.allInts.items
  refine ⟨xs, ?_, ?_⟩
  . rw [<- e]; exact p.isList
  . rw [<- hi.numsOf, <- nums_intItems, <- e]
theorem zdA (hc : X.calm = true) : qI X (.builtin "sum") (fun xs H Q => ∃ (a : Addr) (ns : List Int), xs = [.ref a] /\ SqL X.K H a (ns.map V.int) /\ Q (.int ns.sum) H) := by
  intro pins s σ H xs us Q I r h
  obtain ⟨a, ns, rfl, hq, q⟩ := h
  obtain ⟨u, rfl, ru⟩ := zeK r
  cases ru
  obtain ⟨ys, hl, hn⟩ := kM I hq
  refine sum_intListG (I.ok.hd hc) hl fun h' tk t' hk => ⟨.int ns.sum, H, I.kept (t' := tk) hk, ⟨t', ?_⟩, q⟩
  rw [preSum_eq, List.take_of_length_le (by simp), <- hn]
theorem zai (hc : X.calm = true) : qI X (.builtin "max") (fun xs H Q => ∃ (a : Addr) (ns : List Int), xs = [.ref a] /\ SqL X.K H a (ns.map V.int) /\ 0 < ns.length /\ ∀ M, M ∈ ns -> (∀ x ∈ ns, x <= M) -> Q (.int M) H) := by
  intro pins s σ H xs us Q I r h
  obtain ⟨a, ns, rfl, hq, hne, q⟩ := h
  obtain ⟨u, rfl, ru⟩ := zeK r
  cases ru
  obtain ⟨ys, hl, hn⟩ := kM I hq
  have hsz : 0 < ys.size := by rw [hn, List.length_map, Array.length_toList] at hne; exact hne
  refine max_intList (I.ok.hd hc) hl hsz fun v h' tk hv hk => ?_
  obtain ⟨t, rfl⟩ := intItems_at hv
  obtain ⟨h1, h2⟩ := argBest_gt (numAt ys) (ys.size - 1)
  refine ⟨.int _, H, I.kept (t' := tk) hk, ⟨t, rfl⟩, q _ ?_ fun x hx => ?_⟩
  . rw [hn, numAt_eq]
    exact PySem.getD_mem (by rw [List.length_map, Array.length_toList]; omega)
  . rw [hn] at hx
    obtain ⟨j, hj, rfl⟩ := PySem.mem_getD hx
    rw [List.length_map, Array.length_toList] at hj
    rw [<- numAt_eq]
    exact h2 j (by omega)
end
section
variable {prog : Program} {w : World} {A : Around} {E : Value -> Shared -> Prop} {s : Shared}
theorem qP {t sl : Addr} {items : Array Value} {vl vu : Value} {lo hi : Option Int} {Q : Value -> Shared -> Prop} (ht : IsTup s.heap t items) (hs : s.heap.IsSliceOf sl vl vu .none) (pl : IsPart vl lo) (pu : IsPart vu hi)
    (hw : HT.sIx items.size 0 lo = 0 /\ HT.sIx items.size items.size hi = items.size) (h : Q (.ref t) s) : wpAny (model prog w) A (getItem (.ref t) (.ref sl)) Q E s := by
  obtain ⟨os, hos, hcs, hds⟩ := id hs
  have hTs : s.TypeIs (.ref sl) "slice" := ⟨os, hos, hcs⟩
  unfold getItem
  try with_reducible refine wpAny_holding ?_
  first | refine wpAny_bind (wpAny_pure ?_) | skip
  refine wpAny_bind (wpAny_sequenceKey ht.typeIs (by decide) ?_)
  refine wpAny_bind (wpAny_callSpecial?_slot (name := Str.ofString "__getitem__") ht.typeIs PyProof.Rows.slot_tuple_getitem
    (wpAny_call_entry PyProof.Rows.slot_tuple_getitem ht.typeIs entry_tuple_getitem ?_ (args_tuple_getitem _ _)))
  show wpAny _ _ (Builtin.Tuple.tupleItemsOf (.ref t) >>= _) _ _ s
  refine wpAny_bind (tupleItemsOf_ ht ?_)
  refine wpAny_bind (wpAny_typeOf hTs ?_)
  rw [if_pos (by decide)]
  refine wpAny_bind (HT.sliceApplied_gen hs pl pu ?_)
  have hyes : (((HT.sIx items.size 0 lo : Nat) : Int) == 0 && (1 : Int) == 1 && (HT.sIx items.size items.size hi - HT.sIx items.size 0 lo) == items.size) = true := by
    rw [hw.1, hw.2]; simp
  show wpAny _ _ (if (((HT.sIx items.size 0 lo : Nat) : Int) == 0 && (1 : Int) == 1 && (HT.sIx items.size items.size hi - HT.sIx items.size 0 lo) == items.size) = true then _ else _) _ _ s
  rw [if_pos hyes]
  unfold Builtin.Tuple.tupleIsExact
  refine wpAny_bind (wpAny_bind (wpAny_typeOf ht.typeIs (wpAny_pure ?_)))
  rw [if_pos (show (Value.type "tuple" == Value.type "tuple") = true from beq_self_eq_true _)]
  refine wpAny_bind (wpAny_rule ?_)
  first
    | exact wpAny_pure ⟨_, rfl, wpAny_pure h⟩
    | exact wpAny_bind (wpAny_pure (wpAny_pure ⟨_, rfl, wpAny_pure h⟩))
    | exact wpAny_bind (wpAny_pure ⟨_, rfl, wpAny_pure h⟩)
end
def zkk (K : PySem.W.Frag) : V -> Option Int -> Option Int -> Hp -> VK -> Prop := fun x lo hi H Q => ∃ a xs, x = .ref a /\ SqT K H a xs /\ (HT.sIx xs.length 0 lo = 0 /\ HT.sIx xs.length xs.length hi = xs.length) /\ Q (.ref a) H
theorem zhC {X : Cx} : SlR X (zkk X.K) := by
  intro pins s σ H x v vl vu lo hi sl Q I rx hs pl pu h
  obtain ⟨a, xs, rfl, hx, hw, q⟩ := h
  cases rx
  obtain ⟨its, r, ht, hz⟩ := I.tuple hx
  have hlen : its.toArray.size = xs.length := by rw [List.size_toArray]; exact r.length.symm
  refine ⟨"tuple", _, PyProof.Rows.slot_tuple_getitem.lookup, ht.typeIs, ?_⟩
  exact qP ht hs pl pu (by rw [hlen]; exact hw) ⟨.ref a, H, I, rfl, q⟩
theorem zfP {K : PySem.W.Frag} {a : Addr} {xs : List V} {g : TG} {tb : TS} {D : zez} {σ : St} {H : Hp} (Pv : Nat -> St -> Hp -> Prop) (h0 : Pv 0 σ H) (hl : ∀ i σ H, i <= xs.length -> Pv i σ H -> SqL K H a xs)
    (hs : ∀ i x σ H T, xs[i]? = some x -> Pv i σ H -> H T = none -> g (.ref T) σ (upd H T (.tup [.int (i : Nat), x])) fun σ2 H2 => tb { D with nx := Pv (i + 1), ct := Pv (i + 1), bk := D.nx } σ2 H2) (hd : ∀ σ H, Pv xs.length σ H -> D.nx σ H) :
    ∃ W : Nat -> Nat -> St -> Hp -> Prop, (∃ m, W 0 m σ H) /\ ∀ i m σ H, W i m σ H ->
      ((Ite K a).stop i H /\ D.nx σ H) \/ ((Ite K a).go i H /\ ∃ N : St -> Hp -> Prop, (∀ σ' H', N σ' H' -> ∃ m', m' < m /\ W (i + 1) m' σ' H') /\ ∀ x H', (Ite K a).yld i H x H' -> g x σ H' fun σ2 H2 => tb { D with nx := N, ct := N, bk := D.nx } σ2 H2) := by
  refine ⟨fun i m σ H => m = xs.length - i /\ i <= xs.length /\ Pv i σ H, ⟨xs.length, by simp, Nat.zero_le _, h0⟩, ?_⟩
  rintro i m σ H ⟨rfl, hi, p⟩
  have q := hl i σ H hi p
  by_cases hlt : i < xs.length
  . refine .inr ⟨⟨xs, xs[i], q, by simp [hlt]⟩, Pv (i + 1), fun σ' H' p' => ⟨xs.length - (i + 1), by omega, rfl, hlt, p'⟩, fun v H' y => ?_⟩
    obtain ⟨T, x, e1, e2, e3, y⟩ := y
    subst e1 e3
    exact hs i x σ H T (y xs q) p e2
  . have e : i = xs.length := by omega
    subst e
    exact .inl ⟨⟨xs, q, Nat.le_refl _⟩, hd σ H p⟩
theorem zg4 {K : PySem.W.Frag} {a : Addr} {xs : List V} {g : TG} {tt : TT} {te : TE} {vs : List Nat} {σ : St} {H1 : Hp} {D : Addr} {Qd : Hp -> Prop} (Pv : Nat -> Hp -> Prop) (h0 : Pv 0 (upd H1 D (.lst []))) (hl : ∀ i H, i <= xs.length -> Pv i H -> SqL K H a xs)
    (hs : ∀ i x H T, xs[i]? = some x -> Pv i H -> H T = none -> g (.ref T) (y3 σ vs) (upd H T (.tup [.int (i : Nat), x])) fun σ2 H2 => y3 σ2 vs = y3 σ vs /\ tt σ2 H2 fun b H3 =>
      if b = true then te σ2 H3 fun y H4 => ∃ acc, H4 D = some (.lst acc) /\ acc.length < sizeLine /\ Pv (i + 1) (upd H4 D (.lst (acc ++ [y]))) else Pv (i + 1) H3) (hd : ∀ H, Pv xs.length H -> Qd H) :
    ∃ W : Nat -> Nat -> Hp -> Prop, (∃ m, W 0 m (upd H1 D (.lst []))) /\ ∀ i m H, W i m H ->
      ((Ite K a).stop i H /\ Qd H) \/ ((Ite K a).go i H /\ ∃ Nx : Hp -> Prop, (∀ H', Nx H' -> ∃ m', m' < m /\ W (i + 1) m' H') /\ ∀ x H', (Ite K a).yld i H x H' -> g x (y3 σ vs) H' fun σ2 H2 => y3 σ2 vs = y3 σ vs /\ tt σ2 H2 fun b H3 =>
        if b = true then te σ2 H3 fun y H4 => ∃ acc, H4 D = some (.lst acc) /\ acc.length < sizeLine /\ Nx (upd H4 D (.lst (acc ++ [y]))) else Nx H3) := by
  refine ⟨fun i m H => m = xs.length - i /\ i <= xs.length /\ Pv i H, ⟨xs.length, by simp, Nat.zero_le _, h0⟩, ?_⟩
  rintro i m H ⟨rfl, hi, p⟩
  have q := hl i H hi p
  by_cases hlt : i < xs.length
  . refine .inr ⟨⟨xs, xs[i], q, by simp [hlt]⟩, Pv (i + 1), fun H' p' => ⟨xs.length - (i + 1), by omega, rfl, hlt, p'⟩, fun v H' y => ?_⟩
    obtain ⟨T, x, e1, e2, e3, y⟩ := y
    subst e1 e3
    exact hs i x H T (y xs q) p e2
  . have e : i = xs.length := by omega
    subst e
    exact .inl ⟨⟨xs, q, Nat.le_refl _⟩, hd H p⟩
end L2
end
section
namespace L2
open PySem PySem.Spec PyProof.Rows
abbrev Cx.pinned (X : Cx) (pn : List (Addr × Obj)) : Cx := { X with pn := pn }
def ziQ (X : Cx) (E : XK) : Value -> Shared -> Prop := fun e s' => ∃ (pins : List (Addr × Obj)) (σ : St) (H : Hp) (s : Shared), Inv X pins σ H s /\ CXe X.prog X.w X.stack H s E e s'
abbrev Cx.tryB (X : Cx) (pn : List (Addr × Obj)) (E : XK) : Cx := (X.pinned pn).wish (ziQ (X.pinned pn) E)
abbrev Cx.hand (X : Cx) (pn : List (Addr × Obj)) (e : Addr) : Cx := { X with pn := pn, A := X.A.mark (some (.ref e)), calm := false, xe := fun _ _ => False }
theorem zfo {X : Cx} {pn : List (Addr × Obj)} {E : XK} : xZ (CXe X.prog X.w) (X.tryB pn E) E := fun pins σ H s e s' I h => ⟨pins, σ, H, s, I.unwish, h⟩
section
variable {X : Cx} {pins pins' pn : List (Addr × Obj)} {σ : St} {H : Hp} {s : Shared}
theorem Cx.Ok.pinned (ok : X.Ok) : (X.pinned pn).Ok := ⟨ok.mod, ok.kind, ok.glob, ok.blt, ok.above, ok.inj, ok.has, ok.cab, ok.hd, ok.frames, ok.stk, ok.exf, ok.bs, ok.bsz, ok.noex, ok.exfs, ok.funs, ok.frf⟩
theorem Cx.Ok.unpinned (ok : (X.pinned pn).Ok) : X.Ok := ⟨ok.mod, ok.kind, ok.glob, ok.blt, ok.above, ok.inj, ok.has, ok.cab, ok.hd, ok.frames, ok.stk, ok.exf, ok.bs, ok.bsz, ok.noex, ok.exfs, ok.funs, ok.frf⟩
theorem Cx.Ok.hand (ok : X.Ok) {e : Addr} : (X.hand pn e).Ok := ⟨ok.mod, ok.kind, ok.glob, ok.blt, ok.above, ok.inj, ok.has, ok.cab, fun z => Bool.noConfusion z, ok.frames, ok.stk, ok.exf, ok.bs, ok.bsz, ok.noex, ok.exfs, ok.funs, ok.frf⟩
theorem Inv.pinTo (I : Inv X pins σ H s) : Inv (X.pinned (X.pn ++ pins)) [] σ H s :=
  ⟨I.ok.pinned, I.os, I.bare, I.base, I.loc, I.cell, I.free, I.freeC, fun p hp => I.pin p (by rw [List.append_nil] at hp; exact hp), I.hok, I.len⟩
theorem Inv.pinFrom (I : Inv (X.pinned (X.pn ++ pins)) pins' σ H s) : Inv X pins σ H s :=
  ⟨I.ok.unpinned, I.os, I.bare, I.base, I.loc, I.cell, I.free, I.freeC, fun p hp => I.pin p (List.mem_append_left _ hp), I.hok, I.len⟩
theorem Inv.hand (I : Inv (X.pinned pn) pins' σ H s) (e : Addr) : Inv (X.hand pn e) [] σ H s :=
  ⟨I.ok.unpinned.hand, I.os, I.bare, I.base, I.loc, I.cell, I.free, I.freeC, fun p hp => I.pin p (by rw [List.append_nil] at hp; exact List.mem_append_left _ hp), I.hok, I.len⟩
theorem Inv.unhand {e : Addr} (ok : X.Ok) (I : Inv (X.hand (X.pn ++ pins) e) [] σ H s) : Inv X pins σ H s :=
  ⟨ok, I.os, I.bare, I.base, I.loc, I.cell, I.free, I.freeC, fun p hp => I.pin p (List.mem_append_left _ hp), I.hok, I.len⟩
theorem SP.conv {Y : Cx} {D : zez} {f : Flow} (k : ∀ σ H s, Inv X pins σ H s -> Inv Y pins' σ H s) (h : SP X pins D f s) : SP Y pins' D f s := by
  cases f with
  | next => obtain ⟨σ', H', I, q⟩ := h; exact ⟨σ', H', k _ _ _ I, q⟩
  | brk => obtain ⟨σ', H', I, q⟩ := h; exact ⟨σ', H', k _ _ _ I, q⟩
  | cont => obtain ⟨σ', H', I, q⟩ := h; exact ⟨σ', H', k _ _ _ I, q⟩
  | ret u => obtain ⟨v, σ', H', I, r, q⟩ := h; exact ⟨v, σ', H', k _ _ _ I, r, q⟩
theorem Inv.landed (I : Inv X pins σ H s) {H' : Hp} {B h4 : Heap} {s' : Shared} (os : s'.os = s.os) (bare : AllBare s'.gens) (un : Un (frs X.stack) [] H H' s.heap s'.heap) (hok : HOk X.prog X.w H' B)
    (hB : ∀ b o, s.heap.get? b = some o -> H b = none -> b ∉ frs X.stack -> B.get? b = some o) (hT : ∀ b o, s.heap.get? b = some o -> b ∉ frs X.stack -> ∃ o', B.get? b = some o')
    (st : B.StaysIn h4) (us : s'.heap.UpToSlots h4) : Inv X pins σ H' { s' with heap := h4 } := by
  have slot : ∀ b o, s.heap.get? b = some o -> H b = none -> b ∈ frs X.stack -> ∃ sl, h4.get? b = some { o with slots := sl } := fun b o e n hb => by
    obtain ⟨sl, e1⟩ := un.slot b o e n hb (by simp)
    obtain ⟨_, o', ho', hnf⟩ := I.stack.mem hb
    rw [e] at ho'
    cases ho'
    obtain ⟨sl2, e2⟩ := us b _ e1 hnf
    exact ⟨sl2, e2⟩
  have u4 : Un (frs X.stack) [] H H' s.heap h4 := by
    refine ⟨fun b o e n hb _ => st b o (hB b o e n hb), fun b o e n hb _ => slot b o e n hb, un.free, fun b o e _ => ?_, un.tups, un.frzs, un.tbls⟩
    by_cases hb : b ∈ frs X.stack
    . obtain ⟨sl, q⟩ := slot b o e (I.stkFree b hb) hb
      exact ⟨_, q⟩
    . obtain ⟨o2, e2⟩ := hT b o e hb
      exact ⟨o2, st b o2 e2⟩
  obtain ⟨hh, g, d, tk, o⟩ := s'
  have e : o = s.os := os
  subst e
  exact I.call (g' := g) (t' := tk) (d' := d) u4 (hok.kept st) bare (fun b z => absurd z (by simp))
end
def zlu (tb : TS) (E : XK) (C1 C2 : Addr) (t1 t2 : TS) : TS := fun D σ H => tb D σ H /\ ∀ C H' σ', E C none H' -> (C = .ref C1 /\ t1 D σ' H') \/ (C = .ref C2 /\ t2 D σ' H')
theorem zg1 {X : Cx} {E : XK} {body s1 s2 : List Stmt} {a1 a2 : Stmt} {n1 n2 : Str} {C1 C2 : Addr} {p1 p2 q1 q2 pos : Pos} {tb t1 t2 : TS} (hstk : X.stack = X.env :: X.outer) (hfr : X.env.frame = some X.env.locals)
    (g1 : Gl X n1) (m1 : X.mg n1 = some (.ref C1)) (g2 : Gl X n2) (m2 : X.mg n2 = some (.ref C2))
    (x11 : PySem.W.exmOne X.K (.ref C1) (.ref C1) = some true) (x21 : PySem.W.exmOne X.K (.ref C2) (.ref C1) = some false) (x22 : PySem.W.exmOne X.K (.ref C2) (.ref C2) = some true)
    (hb : ∀ pn, PSs (X.tryB pn E) body tb) (h1 : ∀ pn e, PSs (X.hand pn e) (a1 :: s1) t1) (h2 : ∀ pn e, PSs (X.hand pn e) (a2 :: s2) t2) (d1 : (n1 == ("__debug__" : Str)) = false := by decide) (d2 : (n2 == ("__debug__" : Str)) = false := by decide) :
    PS X (.Try body [.ExceptHandler (some (.Name n1 p1)) none (a1 :: s1) q1, .ExceptHandler (some (.Name n2 p2)) none (a2 :: s2) q2] [] [] pos) (zlu tb E C1 C2 t1 t2) := by
  intro pins s σ H D I hw
  obtain ⟨hw, hx⟩ := hw
  refine wpAny_Try_except (wpAny_mono (hb (X.pn ++ pins) [] s σ H D (I.pinTo.wish _) hw) (fun f s1 q => ?_) (fun e s1 q => ?_))
  . have q' : SP X pins D f s1 := q.unwish.conv fun _ _ _ J => J.pinFrom
    cases f with
    | next => exact wpAny_execs_nil q'
    | brk => exact q'
    | cont => exact q'
    | ret u => exact q'
  . obtain ⟨pins', σ', H0, s0, I0, ea, C, a0, B, H1, rfl, hE, os, bare, un, hok, fl, hB, hT⟩ := q
    have fr : X.A.frames = some (X.env :: X.outer) := by rw [<- hstk]; exact I.ok.frames
    have fl' : Heap.FlyingW B (X.env :: X.outer) ea (.ref C) a0 s1.heap := by rw [<- hstk]; exact fl
    refine wpAny_looks_onW fr hfr fl' fun h2' hd2 us2 => wpAny_landsW hd2 fun h3 fl3 us3 => ?_
    have land : ∀ h4, Heap.FlyingW B (X.env :: X.outer) ea (.ref C) a0 h4 -> h3.UpToSlots h4 -> Inv (X.pinned (X.pn ++ pins)) pins' σ' H1 { s1 with heap := h4 } := fun h4 f4 us4 =>
      I0.landed os bare un hok hB hT f4.1 ((us2.trans us3).trans us4)
    have IH := (land h3 fl3 (Heap.UpToSlots.refl _)).hand ea
    have LT : PySem.W.Looks (model X.prog X.w) h3 (typeOf (.ref ea)) (.ref C) := by
      obtain ⟨ob, ho, hc⟩ := fl3.there
      rw [<- hc]
      exact (PySem.W.Looks.ld ho).andThen .now
    rcases hx (.ref C) H1 σ' hE with ⟨hC, ht⟩ | ⟨hC, ht⟩
    . cases hC
      refine wpAny_handleBy_cons (codeAny_handlers_test (xC (X := X.hand (X.pn ++ pins) ea) IH g1 m1 ?_ d1)) (by intro q; cases q)
      refine (PySem.W.exm_one IH.kIn LT x11).here ?_
      refine codeAny_handlers_suite (lands_againW fl3 fun h4 fl4 us4 => ?_)
      refine wpAny_mono (h1 (X.pn ++ pins) ea [] _ σ' H1 D ((land h4 fl4 us4).hand ea) ht) (fun f s5 q => ?_) (fun _ _ z => z.elim)
      exact q.conv fun _ _ _ J => J.unhand I.ok
    . cases hC
      refine wpAny_handleBy_cons (codeAny_handlers_test (xC (X := X.hand (X.pn ++ pins) ea) IH g1 m1 ?_ d1)) (by intro q; cases q)
      refine (PySem.W.exm_one IH.kIn LT x21).here ?_
      refine wpAny_handleBy_cons (codeAny_handlers_test (xC (X := X.hand (X.pn ++ pins) ea) IH g2 m2 ?_ d2)) (by intro q; cases q)
      refine (PySem.W.exm_one IH.kIn LT x22).here ?_
      refine codeAny_handlers_suite (lands_againW fl3 fun h4 fl4 us4 => ?_)
      refine wpAny_mono (h2 (X.pn ++ pins) ea [] _ σ' H1 D ((land h4 fl4 us4).hand ea) ht) (fun f s5 q => ?_) (fun _ _ z => z.elim)
      exact q.conv fun _ _ _ J => J.unhand I.ok
theorem zjy {z : Str} {g : TG} {tt : TT} {te : TE} {vs : List Nat} {σ : St} {H1 : Hp} {D : Addr} {Qd : Hp -> Prop} (Pv : Nat -> Hp -> Prop) (h0 : Pv 0 (upd H1 D (.lst [])))
    (hs : ∀ i c H, z.cps[i]? = some c -> Pv i H -> g (.str ⟨#[c]⟩) (y3 σ vs) H fun σ2 H2 => y3 σ2 vs = y3 σ vs /\ tt σ2 H2 fun b H3 =>
      if b = true then te σ2 H3 fun y H4 => ∃ acc, H4 D = some (.lst acc) /\ acc.length < sizeLine /\ Pv (i + 1) (upd H4 D (.lst (acc ++ [y]))) else Pv (i + 1) H3) (hd : ∀ H, Pv z.cps.size H -> Qd H) :
    ∃ W : Nat -> Nat -> Hp -> Prop, (∃ m, W 0 m (upd H1 D (.lst []))) /\ ∀ i m H, W i m H ->
      ((Its z).stop i H /\ Qd H) \/ ((Its z).go i H /\ ∃ Nx : Hp -> Prop, (∀ H', Nx H' -> ∃ m', m' < m /\ W (i + 1) m' H') /\ ∀ x H', (Its z).yld i H x H' -> g x (y3 σ vs) H' fun σ2 H2 => y3 σ2 vs = y3 σ vs /\ tt σ2 H2 fun b H3 =>
        if b = true then te σ2 H3 fun y H4 => ∃ acc, H4 D = some (.lst acc) /\ acc.length < sizeLine /\ Nx (upd H4 D (.lst (acc ++ [y]))) else Nx H3) := by
  refine ⟨fun i m H => m = z.cps.size - i /\ i <= z.cps.size /\ Pv i H, ⟨z.cps.size, by simp, Nat.zero_le _, h0⟩, ?_⟩
  rintro i m H ⟨rfl, hi, p⟩
  by_cases hlt : i < z.cps.size
  . refine .inr ⟨hlt, Pv (i + 1), fun H' p' => ⟨z.cps.size - (i + 1), by omega, rfl, hlt, p'⟩, fun x H' y => ?_⟩
    obtain ⟨e, c, hc, rfl⟩ := y
    subst e
    exact hs i c _ hc p
  . have e : i = z.cps.size := by omega
    subst e
    exact .inl ⟨Nat.le_refl _, hd H p⟩
end L2
end
section
namespace L2
open PySem PySem.Spec PyProof.Rows
section
variable {X : Cx}
theorem zkW {e : Expr} {t u : TE} (h1 : PE X e t) (h2 : PE X e u) : PE X e (fun σ H Q => t σ H Q \/ u σ H Q) := by
  intro pins s σ H Q I h
  rcases h with h | h
  . exact h1 pins s σ H Q I h
  . exact h2 pins s σ H Q I h
def zkL (C : Addr) : TE := fun _ H Q => ∀ x dx, H x = none -> H dx = none -> dx ≠ x -> Q (.ref x) (upd (upd H dx (.own x)) x (.ins C dx []))
theorem zhe {C : Addr} {x : Str} {p pos : Pos} (mk : PySem.W.makesIn X.K C = true) (hi : PySem.W.findIn X.K (.ref C) "__init__" = some (some (.builtin "object.__init__"))) (kp : PySem.W.keepIn X.K (.ref C) = true) (hg : Gl X x) (hm : X.mg x = some (.ref C))
    (hdb : (x == ("__debug__" : Str)) = false := by decide) : PE X (.Call (.Name x p) [] [] pos) (zkL C) := by
  intro pins s σ H Q I h
  refine wpAny_Call_Name_kw (xC I hg hm ?_ hdb)
  refine PySem.W.callWith_K0 I.kIn kp ?_
  have hq := h (s.heap.objs.size + 1) s.heap.objs.size (I.hok.fresh (Nat.le_succ _)) (I.hok.fresh (Nat.le_refl _)) (Nat.ne_of_lt (Nat.lt_succ_self _))
  have I2 := Inv.made (C := C) I
  have Y := PySem.W.makes_of (M := model X.prog X.w) I.kIn mk
  have hg2 : ((s.heap.push PySem.W.emptyDict).push (PySem.W.instObj C s.heap.objs.size)).get? (s.heap.objs.size + 1) = some (PySem.W.instObj C s.heap.objs.size) := by
    have := Heap.get?_push_size (s.heap.push PySem.W.emptyDict) (o := PySem.W.instObj C s.heap.objs.size) rfl
    rwa [Heap.size_push] at this
  refine wpAny_call (zfg I.kIn mk hi (fun self => PySem.W.Looks.of_pure (PySem.W.oi_bind self)) ?_)
  have t1 : PySem.W.Looks (model X.prog X.w) ((s.heap.push PySem.W.emptyDict).push (PySem.W.instObj C s.heap.objs.size)) (typeOf (.ref (s.heap.objs.size + 1))) (.ref C) := (PySem.W.Looks.ld hg2).andThen .now
  have t2 : PySem.W.Looks (model X.prog X.w) ((s.heap.push PySem.W.emptyDict).push (PySem.W.instObj C s.heap.objs.size)) (isInstance (.ref (s.heap.objs.size + 1)) (.type "object")) true := t1.andThen (Y.top.keeps fun b o e => Heap.get?_push_of_some _ (Heap.get?_push_of_some _ e))
  refine PySem.codeAny_call_builtin PySem.W.oi_plain PySem.W.entry_oi (@PySem.W.check_slot (model X.prog X.w) _ _ _ "object.__init__" "object" "__init__" (.ref (s.heap.objs.size + 1)) [] [] _ PySem.W.oi_kind PySem.W.oi_split t2 (PySem.W.oi_args (.ref (s.heap.objs.size + 1))) ?_)
  rw [PySem.W.oi_run]
  exact wpAny_pure (And.intro rfl ⟨V.ref (s.heap.objs.size + 1), _, I2, rfl, hq⟩)
def zi0 (X : Cx) (E : XK) (tf : TE) (ts : TA) : TE := fun σ H Q => tf σ H fun v H1 => ∃ (f : Addr) (fd : FuncData) (ps : List Str) (sp : Sp) (k : Nat), v = .ref f /\ yg X.prog X.w X.K X.mg X.base (CXe X.prog X.w) k f fd ps sp /\ yp k X.A /\
  PySem.W.keepIn X.K (.ref f) = true /\ qG X.K fd ps [] /\ ts σ H1 fun vs H2 => sp vs H2 Q E
theorem zj7 {E : XK} {fe e : Expr} {es : List Expr} {tf : TE} {ts : TA} {pos : Pos} (hx : xZ (CXe X.prog X.w) X E) (hf : PE X fe tf) (ha : PA X (e :: es) ts)
    (hc : eval (.Call fe (e :: es) [] pos) X.env = (do callWith pos (<- eval fe X.env) [] (backTo pos (starEach (e :: es) X.env)) (backToKw pos (keywordEach [] X.env))) := by rfl)
    (he : starEach (e :: es) X.env = (false, eval e X.env) :: starEach es X.env := by rfl) (hpl : (backTo pos (starEach es X.env)).any (·.1) = false := by rfl) : PE X (.Call fe (e :: es) [] pos) (zi0 X E tf ts) := by
  intro pins s σ H Q I h
  refine Call_ (thn (hf pins s σ H _ I h) fun u s1 ⟨v, H1, I1, rv, f, fd, ps, sp, k, ev, F, hr, hk, hb, q⟩ => ?_) hc
  subst ev
  obtain rfl : u = Value.ref f := rv
  refine PySem.W.callWith_K (h₀ := X.base) I.ok.mod.kin hk (thn (ha pos pins s1 σ H1 _ I1 q) fun us s2 ⟨vs, H2, I2, r, q2⟩ => ⟨I2.kIn, ?_⟩) he hpl
  exact zb3 (dvs := []) (ds := []) F hr hb .nil hx I2 r (by rw [List.append_nil]; exact q2)
theorem wV (l : Addr) (items : Array Value) (n : Nat) (b : Addr) (items2 : Array Value) (n2 : Nat) (od : Option Addr) (sl : Array (Option Value)) (hs0 : ¬(!items.isEmpty && Builtin.List.listTooLong (items.size + items2.size)) = true) (hs1 : items.size <= sizeLine) (hs2 : items.size + items2.size <= sizeLine + 1) :
    Meets (Builtin.«list.extend» ⟨[.ref l, .ref b], []⟩) (fun _ R s => s.heap.get? l = some { cls := .type "list", dict := none, data := .seq items n, slots := #[] } /\ s.heap.get? b = some { cls := .type "tuple", dict := od, data := .seq items2 n2, slots := sl } /\ R (.ok (.ret Value.none)) { s with heap := s.heap.update l (Obj.mapSeq fun x => x ++ items2), toks := s.toks }) :=
  .of_wp fun prog w A R s h => by
    obtain ⟨heap0, gens0, drawn0, toks0, os0⟩ := s
    obtain ⟨hl, hb, hR⟩ := h
    have g1 := AutoSeq1.idx_int
    have g2 := AutoSeq1.sub_tuple_tuple
    have g3 := AutoSeq1.sub_list_list
    have g4 := AutoSeq1.sub_tuple_list
    have g5 := AutoSeq1.sub_list_tuple
    have hsum : (items ++ items2).size <= sizeLine + 1 := by rw [Array.size_append]; exact hs2
    wp_walk using (wpAny_updateSeq hl rfl (hz := hs1) (_hz' := hsum)), AutoSeq1.wpAny_loadPart' hl, AutoSeq1.wpAny_loadPart' hb
    exact ⟨_, rfl, hR⟩
def zfF (K : PySem.W.Frag) : V -> List V -> Hp -> VK -> Prop := fun x vs H Q => ∃ l b xs zs, x = .ref l /\ vs = [.ref b] /\ H l = some (.lst xs) /\ SqT K H b zs /\ xs.length + zs.length <= sizeLine /\ Q .non (upd H l (.lst (xs ++ zs)))
theorem ziI : MtM X "list.extend" (zfF X.K) := by
  intro pins s σ H x vs v us Q I rx rv h
  obtain ⟨l, b, xs, zs, rfl, rfl, hH, hB, hz, q⟩ := h
  cases rx
  obtain ⟨u, rfl, ru⟩ := rv.one
  cases ru
  obtain ⟨z, its, n, r, hl, e⟩ := I.lstM hH
  obtain ⟨its2, r2, ⟨o, e2, hc, n2, hd⟩, z2⟩ := I.tuple hB
  obtain ⟨oc, od, odt, osl⟩ := o
  cases hc
  cases hd
  have hl2 := r2.length
  have hsz : its.toArray.size + its2.toArray.size <= sizeLine := by rw [List.size_toArray, List.size_toArray]; omega
  have hlong : ¬ (!its.toArray.isEmpty && Builtin.List.listTooLong (its.toArray.size + its2.toArray.size)) = true := by
    rw [va hsz, Bool.and_false]
    exact Bool.false_ne_true
  refine call_meets F.slot_list_extend ⟨_, e, rfl⟩ F.entry_list_extend (F.args_list_extend_2 _ _)
    (wV l its.toArray n b its2.toArray n2 od osl hlong (by rw [List.size_toArray]; omega) (by omega)) ⟨e, e2, ?_⟩
  refine ⟨.non, _, I.lset (its' := its ++ its2) hH e (by simp) (r.append r2) ?_, rfl, q⟩
  rw [List.length_append]
  omega
end
theorem zkw {K : PySem.W.Frag} {a : Addr} {xs : List V} {g : TG} {tb : TS} {D : zez} {σ : St} {H : Hp} (Pv : Nat -> St -> Hp -> Prop) (h0 : Pv 0 σ H) (hl : ∀ i σ H, i <= xs.length -> Pv i σ H -> SqL K H a xs)
    (hs : ∀ i x σ H, i < xs.length -> xs[xs.length - 1 - i]? = some x -> Pv i σ H -> g x σ H fun σ2 H2 => tb { D with nx := Pv (i + 1), ct := Pv (i + 1), bk := D.nx } σ2 H2) (hd : ∀ σ H, Pv xs.length σ H -> D.nx σ H) :
    ∃ W : Nat -> Nat -> St -> Hp -> Prop, (∃ m, W 0 m σ H) /\ ∀ i m σ H, W i m σ H ->
      ((Itv K a xs.length).stop i H /\ D.nx σ H) \/ ((Itv K a xs.length).go i H /\ ∃ N : St -> Hp -> Prop, (∀ σ' H', N σ' H' -> ∃ m', m' < m /\ W (i + 1) m' σ' H') /\ ∀ x H', (Itv K a xs.length).yld i H x H' -> g x σ H' fun σ2 H2 => tb { D with nx := N, ct := N, bk := D.nx } σ2 H2) := by
  refine ⟨fun i m σ H => m = xs.length - i /\ i <= xs.length /\ Pv i σ H, ⟨xs.length, by simp, Nat.zero_le _, h0⟩, ?_⟩
  rintro i m σ H ⟨rfl, hi, p⟩
  have q := hl i σ H hi p
  by_cases hlt : i < xs.length
  . refine .inr ⟨⟨hlt, xs, xs[xs.length - 1 - i]'(by omega), q, List.getElem?_eq_getElem (by omega)⟩, Pv (i + 1), fun σ' H' p' => ⟨xs.length - (i + 1), by omega, rfl, hlt, p'⟩, fun x H' y => ?_⟩
    obtain ⟨e, y⟩ := y
    subst e
    exact hs i x σ _ hlt (y xs q) p
  . have e : i = xs.length := by omega
    subst e
    exact .inl ⟨Nat.le_refl _, hd σ H p⟩
end L2
end
section
namespace L2
open PySem PySem.Spec PyProof.Rows
open PySem.W (WData Codec OpenSpec Well WellAll ReadsW ReadsAllW)
mutual
inductive Dw (K : PySem.W.Frag) (H : Hp) : V -> WData -> Prop
  | non : Dw K H .non .none
  | bl (b : Bool) : Dw K H (.bl b) (.bool b)
  | int (i : Int) : Dw K H (.int i) (.int i)
  | str (x : Str) : Dw K H (.str x) (.str x)
  | byt (b : Array UInt8) : Dw K H (.byt b) (.bytes b.toList)
  | lst {a : Addr} {xs : List V} {ds : List WData} : SqL K H a xs -> qD K H xs ds -> Dw K H (.ref a) (.list ds)
  | tup {a : Addr} {xs : List V} {ds : List WData} : SqT K H a xs -> qD K H xs ds -> Dw K H (.ref a) (.tuple ds)
inductive qD (K : PySem.W.Frag) (H : Hp) : List V -> List WData -> Prop
  | nil : qD K H [] []
  | cons {v : V} {vs : List V} {d : WData} {ds : List WData} : Dw K H v d -> qD K H vs ds -> qD K H (v :: vs) (d :: ds)
end
theorem ze6 {K : PySem.W.Frag} {H : Hp} : ∀ ns : List Int, qD K H (ns.map V.int) (ns.map WData.int)
  | [] => .nil
  | n :: r => .cons (.int n) (ze6 r)
theorem zdK {K : PySem.W.Frag} {H : Hp} : ∀ (ns : List Int) (xs : List V), qD K H xs (ns.map WData.int) -> xs = ns.map V.int
  | [], xs, h => by
    cases h
    rfl
  | n :: r, xs, h => by
    cases h with
    | cons h1 h2 =>
      cases h1
      rw [zdK r _ h2] <;> rfl
section
variable {P : Program} {w : World} {K : PySem.W.Frag} {H : Hp} {h : Heap} {R : PySem.W.WRecords} {cl : Str -> Option Addr}
theorem zjP {a : Addr} {xs : List V} (hok : HOk P w H h) (KX : K.In h) (q : SqL K H a xs) : ∃ (its : List Value) (o : Obj) (n : Nat), z7 xs its /\ h.get? a = some o /\ o.cls = .type "list" /\ o.data = .seq its.toArray n := by
  rcases q with q | ⟨o, its, n, e, hc, _, hd, _, hv⟩
  . obtain ⟨_, its, n, hv, e⟩ := (show xz P w H h a (.lst xs) from q.ok hok)
    exact ⟨its, _, n, hv, e, rfl, rfl⟩
  . exact ⟨its.toList, o, n, hv, KX _ _ e, hc, by simp [hd]⟩
theorem zjm {a : Addr} {xs : List V} (hok : HOk P w H h) (KX : K.In h) (q : SqT K H a xs) : ∃ (its : List Value) (o : Obj) (n : Nat), z7 xs its /\ h.get? a = some o /\ o.cls = .type "tuple" /\ o.data = .seq its.toArray n := by
  rcases q with q | ⟨o, its, n, e, hc, hd, _, hv⟩
  . obtain ⟨_, its, hv, o, e, hc, n, hd⟩ := (show xz P w H h a (.tup xs) from q.ok hok)
    exact ⟨its, o, n, hv, e, hc, hd⟩
  . exact ⟨its.toList, o, n, hv, KX _ _ e, hc, by simp [hd]⟩
mutual
theorem Dw.reads (hok : HOk P w H h) (KX : K.In h) : ∀ (d : WData) (v : V) (u : Value), Dw K H v d -> yc v u -> ∃ as, ReadsW R cl h u d as
  | .none, _, _, x, r => by
    cases x
    cases r
    exact ⟨_, ReadsW.none⟩
  | .bool b, _, _, x, r => by
    cases x
    cases r
    exact ⟨_, ReadsW.bool b⟩
  | .int i, _, _, x, r => by
    cases x
    obtain ⟨t, rfl⟩ := r
    exact ⟨_, ReadsW.int i t⟩
  | .str s, _, _, x, r => by
    cases x
    obtain ⟨t, rfl⟩ := r
    exact ⟨_, ReadsW.str s t⟩
  | .bytes b, _, _, x, r => by
    cases x
    obtain ⟨t, rfl⟩ := r
    exact ⟨_, ReadsW.bytes _ t⟩
  | .list ds, _, _, x, r => by
    cases x with
    | lst hs ha =>
      cases r
      obtain ⟨its, o, n, rv, ho, hc, hd⟩ := zjP hok KX hs
      obtain ⟨as, hr⟩ := Dw.readsAll hok KX ds _ its ha rv
      exact ⟨_, ReadsW.list ho hc hd hr⟩
  | .tuple ds, _, _, x, r => by
    cases x with
    | tup hs ha =>
      cases r
      obtain ⟨its, o, n, rv, ho, hc, hd⟩ := zjm hok KX hs
      obtain ⟨as, hr⟩ := Dw.readsAll hok KX ds _ its ha rv
      exact ⟨_, ReadsW.tuple ho hc hd hr⟩
  | .float _, _, _, x, _ => by cases x
  | .dict _, _, _, x, _ => by cases x
  | .bytearray _, _, _, x, _ => by cases x
  | .set _, _, _, x, _ => by cases x
  | .frozenset _, _, _, x, _ => by cases x
  | .obj _ _, _, _, x, _ => by cases x
theorem Dw.readsAll (hok : HOk P w H h) (KX : K.In h) : ∀ (ds : List WData) (vs : List V) (us : List Value), qD K H vs ds -> z7 vs us -> ∃ as, ReadsAllW R cl h us ds as
  | [], _, _, x, r => by
    cases x
    cases r
    exact ⟨_, ReadsAllW.nil⟩
  | d :: ds, _, _, x, r => by
    cases x with
    | cons h1 h2 =>
      cases r with
      | cons r1 r2 =>
        obtain ⟨as, q1⟩ := Dw.reads hok KX d _ _ h1 r1
        obtain ⟨bs, q2⟩ := Dw.readsAll hok KX ds _ _ h2 r2
        exact ⟨_, ReadsAllW.cons q1 q2⟩
end
end
mutual
def plW : WData -> Bool
  | .none => true
  | .bool _ => true
  | .int _ => true
  | .str _ => true
  | .bytes _ => true
  | .list xs => zc6 xs
  | .tuple xs => zc6 xs
  | _ => false
def zc6 : List WData -> Bool
  | [] => true
  | x :: r => plW x && zc6 r
end
theorem zbE {α : Type} {f : α -> WData} (h : ∀ a, plW (f a) = true) : ∀ l : List α, zc6 (l.map f) = true
  | [] => rfl
  | x :: r => by
    show (plW (f x) && zc6 (r.map f)) = true
    rw [h x, zbE h r] <;> rfl
theorem jc : ∀ (c : Codec) (a : c.denote), plW (c.enc a) = true
  | .unit, _ => rfl
  | .bool, _ => rfl
  | .int _ _, _ => rfl
  | .nat _ _, _ => rfl
  | .u8, _ => rfl
  | .bytes _ _, _ => rfl
  | .text _ _ _ _, _ => rfl
  | .list _ _ c, a => zbE (fun x => jc c x) a
  | .pair c d, a => by
    show (plW (c.enc a.1) && (plW (d.enc a.2) && true)) = true
    rw [jc c a.1, jc d a.2] <;> rfl
  | .triple c d e, a => by
    show (plW (c.enc a.1) && (plW (d.enc a.2.1) && (plW (e.enc a.2.2) && true))) = true
    rw [jc c a.1, jc d a.2.1, jc e a.2.2] <;> rfl
  | .option c, none => rfl
  | .option c, some x => jc c x
theorem wu : ∀ (cs : List Codec) (a : Codec.denoteAll cs), zc6 (Codec.encAll cs a) = true
  | [], _ => rfl
  | c :: cs, a => by
    show (plW (c.enc a.1) && zc6 (Codec.encAll cs a.2)) = true
    rw [jc c a.1, wu cs a.2] <;> rfl
theorem qM : ∀ {xs : List WData} {d : WData}, d ∈ xs -> d.weight <= WData.weightAll xs
  | [], d, h => absurd h (by simp)
  | x :: r, d, h => by
    show d.weight <= x.weight + 1 + WData.weightAll r
    rcases List.mem_cons.mp h with e | m
    . rw [e]
      omega
    . have z := qM m
      omega
def toV : Value -> V
  | .none => .non
  | .bool b => .bl b
  | .int i _ => .int i
  | .str x _ => .str x
  | .bytes b _ => .byt b
  | .ref a => .ref a
  | _ => .non
def OkU (A : List Addr) : Value -> Prop
  | .none => True
  | .bool _ => True
  | .int _ _ => True
  | .str _ _ => True
  | .bytes _ _ => True
  | .ref a => a ∈ A
  | _ => False
theorem OkU.mono {A B : List Addr} (h : ∀ a ∈ A, a ∈ B) : ∀ {u : Value}, OkU A u -> OkU B u := fun {u} x => by
  cases u with
  | ref a => exact h a x
  | none => trivial
  | bool b => trivial
  | int i t => trivial
  | str s t => trivial
  | bytes b t => trivial
  | _ => exact False.elim x
theorem zfV {A : List Addr} {u : Value} (x : OkU A u) : yc (toV u) u := by
  cases u with
  | ref a => rfl
  | none => rfl
  | bool b => rfl
  | int i t => exact ⟨t, rfl⟩
  | str s t => exact ⟨t, rfl⟩
  | bytes b t => exact ⟨t, rfl⟩
  | _ => exact False.elim x
theorem xS {A : List Addr} : ∀ {vs : List Value}, (∀ u ∈ vs, OkU A u) -> z7 (vs.map toV) vs
  | [], _ => .nil
  | u :: r, h => .cons (zfV (h u (List.mem_cons_self ..))) (xS fun x hx => h x (List.mem_cons_of_mem _ hx))
def jl (h : Heap) (A : List Addr) (a : Addr) : Prop := ∃ vs : List Value, vs.length <= sizeLine /\ (∀ u ∈ vs, OkU A u) /\
  (h.get? a = some { cls := .type "list", data := .seq vs.toArray } \/ h.get? a = some { cls := .type "tuple", data := .seq vs.toArray })
theorem jl.mono {h : Heap} {A B : List Addr} {a : Addr} (k : ∀ a ∈ A, a ∈ B) (x : jl h A a) : jl h B a := by
  obtain ⟨vs, h1, h2, h3⟩ := x
  exact ⟨vs, h1, fun u hu => (h2 u hu).mono k, h3⟩
theorem xf {P : Params} {h : Heap} : ∀ {vs : List Value} {ds : List WData}, WellAll P h vs ds -> vs.length = ds.length
  | _, _, .nil => rfl
  | _, _, .cons _ b => by
    show _ + 1 = _ + 1
    rw [xf b]
theorem wI {P : Params} {h : Heap} {v : Value} {ds : List WData} (x : Well P h v (.list ds)) : ∃ (a : Addr) (vs : List Value), v = .ref a /\ h.get? a = some { cls := .type "list", data := .seq vs.toArray } /\ WellAll P h vs ds := by
  cases x with
  | list ho hall => exact ⟨_, _, rfl, ho, hall⟩
theorem kJ {P : Params} {h : Heap} {v : Value} {ds : List WData} (x : Well P h v (.tuple ds)) : ∃ (a : Addr) (vs : List Value), v = .ref a /\ h.get? a = some { cls := .type "tuple", data := .seq vs.toArray } /\ WellAll P h vs ds := by
  cases x with
  | tuple ho hall => exact ⟨_, _, rfl, ho, hall⟩
theorem zao {P : Params} {h : Heap} {us : List Value} {d : WData} {ds : List WData} (x : WellAll P h us (d :: ds)) : ∃ (v : Value) (vs : List Value), us = v :: vs /\ Well P h v d /\ WellAll P h vs ds := by
  cases x with
  | cons a b => exact ⟨_, _, rfl, a, b⟩
theorem zev {n : Nat} (h : n <= 1048576) : n <= sizeLine := Nat.le_trans h (by decide)
section
variable {P : Params} {h : Heap}
mutual
theorem zfO : ∀ (d : WData) (v : Value), Well P h v d -> plW d = true -> d.weight <= 1048576 -> ∃ A : List Addr, OkU A v /\ ∀ a ∈ A, jl h A a
  | .none, _, x, _, _ => by
    cases x
    exact ⟨[], trivial, fun a m => absurd m (by simp)⟩
  | .bool b, _, x, _, _ => by
    cases x
    exact ⟨[], trivial, fun a m => absurd m (by simp)⟩
  | .int i, _, x, _, _ => by
    cases x
    exact ⟨[], trivial, fun a m => absurd m (by simp)⟩
  | .str s, _, x, _, _ => by
    cases x
    exact ⟨[], trivial, fun a m => absurd m (by simp)⟩
  | .bytes b, _, x, _, _ => by
    cases x
    exact ⟨[], trivial, fun a m => absurd m (by simp)⟩
  | .list ds, _, x, p, z => by
    obtain ⟨a, vs, rfl, ho, hall⟩ := wI x
    have z2 : WData.weightAll ds <= 1048576 := z
    obtain ⟨A, h1, h2⟩ := jy ds _ hall p fun d hd => Nat.le_trans (qM hd) z2
    have k : ∀ b ∈ A, b ∈ a :: A := fun b hb => List.mem_cons_of_mem _ hb
    refine ⟨a :: A, List.mem_cons_self .., fun b hb => ?_⟩
    rcases List.mem_cons.mp hb with e | m
    . rw [e]
      exact ⟨vs, zev (by rw [xf hall]; exact Nat.le_trans (PySem.W.length_le_weightAllW ds) z2), fun u hu => (h1 u hu).mono k, .inl ho⟩
    . exact (h2 b m).mono k
  | .tuple ds, _, x, p, z => by
    obtain ⟨a, vs, rfl, ho, hall⟩ := kJ x
    have z2 : WData.weightAll ds <= 1048576 := z
    obtain ⟨A, h1, h2⟩ := jy ds _ hall p fun d hd => Nat.le_trans (qM hd) z2
    have k : ∀ b ∈ A, b ∈ a :: A := fun b hb => List.mem_cons_of_mem _ hb
    refine ⟨a :: A, List.mem_cons_self .., fun b hb => ?_⟩
    rcases List.mem_cons.mp hb with e | m
    . rw [e]
      exact ⟨vs, zev (by rw [xf hall]; exact Nat.le_trans (PySem.W.length_le_weightAllW ds) z2), fun u hu => (h1 u hu).mono k, .inr ho⟩
    . exact (h2 b m).mono k
  | .float _, _, _, p, _ => Bool.noConfusion (show false = true from p)
  | .dict _, _, _, p, _ => Bool.noConfusion (show false = true from p)
  | .bytearray _, _, _, p, _ => Bool.noConfusion (show false = true from p)
  | .set _, _, _, p, _ => Bool.noConfusion (show false = true from p)
  | .frozenset _, _, _, p, _ => Bool.noConfusion (show false = true from p)
  | .obj _ _, _, _, p, _ => Bool.noConfusion (show false = true from p)
theorem jy : ∀ (ds : List WData) (vs : List Value), WellAll P h vs ds -> zc6 ds = true -> (∀ d ∈ ds, d.weight <= 1048576) -> ∃ A : List Addr, (∀ u ∈ vs, OkU A u) /\ ∀ a ∈ A, jl h A a
  | [], _, x, _, _ => by
    cases x
    exact ⟨[], fun u m => absurd m (by simp), fun a m => absurd m (by simp)⟩
  | d :: ds, _, x, p, z => by
    obtain ⟨v, vs, rfl, x1, x2⟩ := zao x
    have q : plW d = true /\ zc6 ds = true := Bool.and_eq_true_iff.mp p
    obtain ⟨A, a1, a2⟩ := zfO d v x1 q.1 (z d (List.mem_cons_self ..))
    obtain ⟨B, b1, b2⟩ := jy ds vs x2 q.2 fun e he => z e (List.mem_cons_of_mem _ he)
    have kA : ∀ b ∈ A, b ∈ A ++ B := fun b hb => List.mem_append.mpr (.inl hb)
    have kB : ∀ b ∈ B, b ∈ A ++ B := fun b hb => List.mem_append.mpr (.inr hb)
    refine ⟨A ++ B, fun u hu => ?_, fun b hb => ?_⟩
    . rcases List.mem_cons.mp hu with e | m
      . rw [e]
        exact a1.mono kA
      . exact (b1 u m).mono kB
    . rcases List.mem_append.mp hb with m | m
      . exact (a2 b m).mono kA
      . exact (b2 b m).mono kB
end
end
def zkb (o : Obj) : Option HO := match o.data with
  | .seq vs _ => if (o.cls == Value.type "list") = true then some (.frz o (.lst (vs.toList.map toV))) else some (.frz o (.tup (vs.toList.map toV)))
  | _ => none
def kZ (K : PySem.W.Frag) (h : Heap) (A : List Addr) : Hp := fun b => if b ∈ A then (if (K.lookup b).isNone = true then (h.get? b).bind zkb else none) else none
def zbi (H : Hp) : Prop := ∀ b, H b = none \/ ∃ o u, H b = some (.frz o u)
theorem zbD (vs : List Value) : zkb { cls := .type "list", data := .seq vs.toArray } = some (.frz { cls := .type "list", data := .seq vs.toArray } (.lst (vs.map toV))) := by
  show (if (Value.type "list" == Value.type "list") = true then some (HO.frz { cls := .type "list", data := .seq vs.toArray } (.lst (vs.toArray.toList.map toV))) else some (HO.frz { cls := .type "list", data := .seq vs.toArray } (.tup (vs.toArray.toList.map toV)))) = _
  rw [if_pos (beq_self_eq_true _)]
theorem zbW (vs : List Value) : zkb { cls := .type "tuple", data := .seq vs.toArray } = some (.frz { cls := .type "tuple", data := .seq vs.toArray } (.tup (vs.map toV))) := by
  show (if (Value.type "tuple" == Value.type "list") = true then some (HO.frz { cls := .type "tuple", data := .seq vs.toArray } (.lst (vs.toArray.toList.map toV))) else some (HO.frz { cls := .type "tuple", data := .seq vs.toArray } (.tup (vs.toArray.toList.map toV)))) = _
  rw [if_neg (by decide)]
section
variable {P : Program} {w : World} {K : PySem.W.Frag} {h : Heap} {A : List Addr}
theorem vk {b : Addr} {o : Obj} (hb : b ∈ A) (hk : K.lookup b = none) (e : h.get? b = some o) : kZ K h A b = zkb o := by
  unfold kZ
  rw [if_pos hb, hk, if_pos (show (none : Option Obj).isNone = true from rfl), e] <;> rfl
theorem zhd {b : Addr} {u : HO} (q : kZ K h A b = some u) : b ∈ A /\ K.lookup b = none := by
  unfold kZ at q
  by_cases hb : b ∈ A
  . rw [if_pos hb] at q
    cases hk : K.lookup b with
    | none => exact ⟨hb, rfl⟩
    | some o =>
      rw [hk, if_neg (by simp)] at q
      cases q
  . rw [if_neg hb] at q
    cases q
theorem vZ (ar : ∀ a ∈ A, jl h A a) {b : Addr} {u : HO} (q : kZ K h A b = some u) : K.lookup b = none /\ ∃ vs : List Value, vs.length <= sizeLine /\ (∀ u ∈ vs, OkU A u) /\
    ((h.get? b = some { cls := .type "list", data := .seq vs.toArray } /\ u = .frz { cls := .type "list", data := .seq vs.toArray } (.lst (vs.map toV))) \/
     (h.get? b = some { cls := .type "tuple", data := .seq vs.toArray } /\ u = .frz { cls := .type "tuple", data := .seq vs.toArray } (.tup (vs.map toV)))) := by
  obtain ⟨hb, hk⟩ := zhd q
  obtain ⟨vs, h1, h2, h3⟩ := ar b hb
  refine ⟨hk, vs, h1, h2, ?_⟩
  rcases h3 with e | e
  . rw [vk hb hk e, zbD] at q
    exact .inl ⟨e, (Option.some.inj q).symm⟩
  . rw [vk hb hk e, zbW] at q
    exact .inr ⟨e, (Option.some.inj q).symm⟩
theorem zec (ar : ∀ a ∈ A, jl h A a) : zbi (kZ K h A) := fun b => by
  cases q : kZ K h A b with
  | none => exact .inl rfl
  | some u =>
    obtain ⟨_, vs, _, _, ⟨_, e⟩ | ⟨_, e⟩⟩ := vZ ar q
    . exact .inr ⟨_, _, by rw [e]⟩
    . exact .inr ⟨_, _, by rw [e]⟩
theorem zhv (ar : ∀ a ∈ A, jl h A a) : HOk P w (kZ K h A) h := fun b u q => by
  obtain ⟨_, vs, h1, h2, ⟨e, rfl⟩ | ⟨e, rfl⟩⟩ := vZ ar q
  . exact ⟨e, by rw [List.length_map]; exact h1, vs, _, xS h2, e⟩
  . exact ⟨e, by rw [List.length_map]; exact h1, vs, xS h2, _, e, rfl, _, rfl⟩
theorem vw {c c' : Value} {vs us : List Value} (e : (some { cls := c, data := .seq vs.toArray } : Option Obj) = some { cls := c', data := .seq us.toArray }) : c = c' /\ vs = us := by
  have e1 := Option.some.inj e
  have e2 : c = c' := congrArg Obj.cls e1
  have e3 : Data.seq vs.toArray = Data.seq us.toArray := congrArg Obj.data e1
  injection e3 with e4
  refine ⟨e2, ?_⟩
  have e5 := congrArg Array.toList e4
  simpa using e5
theorem zlw (KX : K.In h) (ar : ∀ a ∈ A, jl h A a) {a : Addr} {vs : List Value} (ha : a ∈ A) (e : h.get? a = some { cls := .type "list", data := .seq vs.toArray }) : (∀ u ∈ vs, OkU A u) /\ SqL K (kZ K h A) a (vs.map toV) := by
  obtain ⟨us, h1, h2, h3⟩ := ar a ha
  have hu : us = vs := by
    rcases h3 with q | q
    . rw [e] at q
      exact (vw q).2.symm
    . rw [e] at q
      exact absurd (Value.type.inj (vw q).1) (by decide)
  subst hu
  refine ⟨h2, ?_⟩
  cases hk : K.lookup a with
  | none => exact .inl (.inr ⟨_, by rw [vk ha hk e, zbD]⟩)
  | some o =>
    have e2 := KX a o hk
    rw [e] at e2
    obtain rfl := Option.some.inj e2
    exact .inr ⟨_, us.toArray, _, hk, rfl, rfl, rfl, by rw [List.size_toArray]; exact h1, by simpa using xS h2⟩
theorem zlG (KX : K.In h) (ar : ∀ a ∈ A, jl h A a) {a : Addr} {vs : List Value} (ha : a ∈ A) (e : h.get? a = some { cls := .type "tuple", data := .seq vs.toArray }) : (∀ u ∈ vs, OkU A u) /\ SqT K (kZ K h A) a (vs.map toV) := by
  obtain ⟨us, h1, h2, h3⟩ := ar a ha
  have hu : us = vs := by
    rcases h3 with q | q
    . rw [e] at q
      exact absurd (Value.type.inj (vw q).1) (by decide)
    . rw [e] at q
      exact (vw q).2.symm
  subst hu
  refine ⟨h2, ?_⟩
  cases hk : K.lookup a with
  | none => exact .inl (.inr ⟨_, by rw [vk ha hk e, zbW]⟩)
  | some o =>
    have e2 := KX a o hk
    rw [e] at e2
    obtain rfl := Option.some.inj e2
    exact .inr ⟨_, us.toArray, _, hk, rfl, rfl, by rw [List.size_toArray]; exact h1, by simpa using xS h2⟩
mutual
theorem zi1 {Pm : Params} (KX : K.In h) (ar : ∀ a ∈ A, jl h A a) : ∀ (d : WData) (v : Value), Well Pm h v d -> plW d = true -> OkU A v -> Dw K (kZ K h A) (toV v) d
  | .none, _, x, _, _ => by
    cases x
    exact .non
  | .bool b, _, x, _, _ => by
    cases x
    exact .bl b
  | .int i, _, x, _, _ => by
    cases x
    exact .int i
  | .str s, _, x, _, _ => by
    cases x
    exact .str s
  | .bytes b, _, x, _, _ => by
    cases x
    have z := Dw.byt (K := K) (H := kZ K h A) b.toArray
    exact z
  | .list ds, _, x, p, hu => by
    obtain ⟨a, vs, rfl, ho, hall⟩ := wI x
    obtain ⟨h2, hs⟩ := zlw KX ar hu ho
    exact .lst hs (zbG KX ar ds _ hall p h2)
  | .tuple ds, _, x, p, hu => by
    obtain ⟨a, vs, rfl, ho, hall⟩ := kJ x
    obtain ⟨h2, hs⟩ := zlG KX ar hu ho
    exact .tup hs (zbG KX ar ds _ hall p h2)
  | .float _, _, _, p, _ => Bool.noConfusion (show false = true from p)
  | .dict _, _, _, p, _ => Bool.noConfusion (show false = true from p)
  | .bytearray _, _, _, p, _ => Bool.noConfusion (show false = true from p)
  | .set _, _, _, p, _ => Bool.noConfusion (show false = true from p)
  | .frozenset _, _, _, p, _ => Bool.noConfusion (show false = true from p)
  | .obj _ _, _, _, p, _ => Bool.noConfusion (show false = true from p)
theorem zbG {Pm : Params} (KX : K.In h) (ar : ∀ a ∈ A, jl h A a) : ∀ (ds : List WData) (vs : List Value), WellAll Pm h vs ds -> zc6 ds = true -> (∀ u ∈ vs, OkU A u) -> qD K (kZ K h A) (vs.map toV) ds
  | [], _, x, _, _ => by
    cases x
    exact .nil
  | d :: ds, _, x, p, hu => by
    obtain ⟨v, vs, rfl, x1, x2⟩ := zao x
    have q : plW d = true /\ zc6 ds = true := Bool.and_eq_true_iff.mp p
    exact .cons (zi1 KX ar d v x1 q.1 (hu _ (List.mem_cons_self ..))) (zbG KX ar ds vs x2 q.2 fun u m => hu u (List.mem_cons_of_mem _ m))
end
end
theorem zep {P : Program} {w : World} {K : PySem.W.Frag} {mg mb : Str -> Option Value} {CX : CXT} {k : Nat} {fa : Addr} {fd : FuncData} {ps : List Str} {sp : Sp} {s₁ : Shared} {vals : List Value} {ds : List WData} {R : PySem.W.WRecords} {cl : Str -> Option Addr} {d0 : WData}
    (KX : K.In s₁.heap) (hns : s₁.heap.Ns mainGlobals mg) (hb : s₁.heap.Ns builtinsNs mb) (hbb : ∀ x : Str, x ≠ "__name__" -> mb x = bootBuiltins x) (hlim : s₁.heap.NoLimit) (hg : s₁.gens = #[])
    (hwl : WellAll w.params s₁.heap vals ds) (hpl : zc6 ds = true) (hwt : ∀ d ∈ ds, d.weight <= 1048576) (hr : yp k callerA)
    (F : ∀ base : Heap, K.In base -> base.Ns mainGlobals mg -> yg P w K mg base CX k fa fd ps sp) (hbind : ∀ (s : Shared) (us : List Value), us.length = ps.length -> BindsTo s fd ⟨us, []⟩ (ps.zip us)) (hlen : ds.length = ps.length)
    (hsp : ∀ (H : Hp) (xs : List V), zbi H -> qD K H xs ds -> sp xs H (fun v H' => Dw K H' v d0) fun _ _ _ => False)
    (hCX : ∀ H e s', CX [] H s₁ (fun _ _ _ => False) e s' -> False) :
    codeAny (model P w) callerA (.call (.ref fa) ⟨vals, []⟩) (fun r s' => ∃ u as, r = .ok (.ret u) /\ ReadsW R cl s'.heap u d0 as /\ OldK s₁.heap s'.heap /\ s'.os = s₁.os /\ AllBare s'.gens) s₁ := by
  obtain ⟨A, ho, ar⟩ := jy ds vals hwl hpl hwt
  have hO : zbi (kZ K s₁.heap A) := zec ar
  have hok : HOk P w (kZ K s₁.heap A) s₁.heap := zhv ar
  have hS := zbG KX ar ds vals hwl hpl ho
  have hV := xS ho
  have hK : ∀ b u, kZ K s₁.heap A b = some u -> K.lookup b = none := fun b u q => (vZ ar q).1
  have noA : ∀ {b : Addr} {o : Obj} {es : Array DictEntry} {ep : Nat}, s₁.heap.get? b = some o -> o.data = .dict es ep -> kZ K s₁.heap A b = none := fun {b o es ep} e d => by
    cases q : kZ K s₁.heap A b with
    | none => rfl
    | some u =>
      obtain ⟨_, vs, _, _, ⟨e2, _⟩ | ⟨e2, _⟩⟩ := vZ ar q
      . rw [e2] at e
        cases e
        have d' : Data.seq vs.toArray _ = Data.dict es ep := d
        cases d'
      . rw [e2] at e
        cases e
        have d' : Data.seq vs.toArray _ = Data.dict es ep := d
        cases d'
  generalize kZ K s₁.heap A = H at hO hok hS hK noA
  have base_of : ∀ {b : Addr} {o : Obj}, s₁.heap.get? b = some o -> H b = none -> (zfN s₁.heap H).get? b = some o := fun e n => zgA e n
  have nsK : ∀ {b : Addr} {m : Str -> Option Value}, s₁.heap.Ns b m -> (zfN s₁.heap H).Ns b m := fun {b m} ⟨o, es, ep, e, d, r⟩ => ⟨o, es, ep, base_of e (noA e d), d, r⟩
  have nK : ∀ b o, K.lookup b = some o -> H b = none := fun b o e => by
    cases q : H b with
    | none => rfl
    | some u =>
      rw [hK b u q] at e
      cases e
  have hKb : K.In (zfN s₁.heap H) := fun b o e => base_of (KX b o e) (nK b o e)
  have hM : Mod K mg (zfN s₁.heap H) := ⟨hKb, nsK hns, ⟨mb, nsK hb, hbb⟩, let ⟨mc, h1, h2⟩ := hlim; ⟨mc, nsK h1, h2⟩⟩
  have e0 : zhH P w K mg (zfN s₁.heap H) callerA [] s₁ H := ⟨rfl, hM, fun b o e => zh9 e, Nat.le_of_eq (zej _ _), trivial, fun b hb => absurd (show b ∈ ([] : List Addr) from hb) (by simp), hok, .of_eq hg⟩
  have hl : vals.length = ps.length := by rw [xf hwl]; exact hlen
  refine codeAny_mono ((F _ hKb (nsK hns)).run callerA [] s₁ H ⟨vals, []⟩ vals (vals.map toV) _ _ hr e0 (hbind s₁ vals hl) hV (hsp H _ hO hS)) fun r s' x => ?_
  cases r with
  | error e => exact (hCX H e s' x).elim
  | ok fl =>
    cases fl with
    | next => exact False.elim x
    | brk => exact False.elim x
    | cont => exact False.elim x
    | ret u =>
      obtain ⟨v, H', os, bare, un, hok', r', q⟩ := x
      have kept : ∀ b o, s₁.heap.get? b = some o -> s'.heap.get? b = some o := fun b o e => by
        cases q2 : H b with
        | none => exact un.keep b o e q2 (by intro z; exact absurd (show b ∈ ([] : List Addr) from z) (by simp)) (by simp)
        | some u2 =>
          rcases hO b with z | ⟨ob, u3, z⟩
          . rw [q2] at z
            cases z
          . have z2 := un.frzs b ob _ z
            obtain ⟨e1, _⟩ := hok b _ z
            obtain ⟨e2, _⟩ := hok' b _ z2
            rw [e] at e1
            cases e1
            exact e2
      have KX' : K.In s'.heap := fun b o e => kept b o (KX b o e)
      obtain ⟨as, hrd⟩ := Dw.reads (R := R) (cl := cl) hok' KX' d0 v u q r'
      exact ⟨u, as, rfl, hrd, OldK.of_keep kept, os, bare⟩
theorem j9 {ds : List WData} (h : WData.layableAll ds = true) : ∀ d ∈ ds, d.weight <= 1048576 := fun d hd =>
  (PySem.W.layableW_iff.mp (List.all_eq_true.mp h d hd)).2.2
theorem kX : ∀ (cs : List Codec) (a : Codec.denoteAll cs), (Codec.encAll cs a).length = cs.length
  | [], _ => rfl
  | c :: cs, a => by
    show (Codec.encAll cs a.2).length + 1 = cs.length + 1
    rw [kX cs a.2]
theorem zac {r : OpenSpec} {k : Nat} {q : Program} {loose : List Str} {XP : (Str -> Option Value) -> Heap -> Prop} {YP : World -> Heap -> Prop} {d : DefRec} {K : Params -> PySem.W.Frag} {CX : World -> CXT} {ps : List Str} {sp : World -> Sp}
    (hwell : r.wellSaid = true) (hdf : d.params.defaults = []) (hlen : r.args.length = ps.length) (hr : yp k callerA)
    (hY : ∀ (w : World) (h : Heap), YP w h -> (K w.params).In h)
    (F : ∀ (w : World) (mg : Str -> Option Value) (fa : Addr) (h : Heap), YP w h -> (K w.params).In h -> h.Ns mainGlobals mg -> mg d.name = some (.ref fa) ->
      ∃ fd : FuncData, (∀ (s : Shared) (us : List Value), us.length = ps.length -> BindsTo s fd ⟨us, []⟩ (ps.zip us)) /\
        ∀ base : Heap, (K w.params).In base -> base.Ns mainGlobals mg -> yg r.prog w (K w.params) mg base (CX w) k fa fd ps (sp w))
    (hsp : ∀ (w : World) (H : Hp) (xs : List V) (a : Codec.denoteAll r.args), zbi H -> Codec.withinAll r.args a = true -> Codec.app r.args r.asked a = true -> qD (K w.params) H xs (Codec.encAll r.args a) ->
      sp w xs H (fun v H' => Dw (K w.params) H' v (r.ret.enc (Codec.app r.args r.f a))) fun _ _ _ => False)
    (hCX : ∀ (w : World) (H : Hp) (s : Shared) (e : Value) (s' : Shared), CX w [] H s (fun _ _ _ => False) e s' -> False) :
    PySem.W.WalkOS q loose XP YP r d [] (fun f vs => PySem.call f vs) := by
  intro w s_0 s₁ mg mb G Y fa o pm cd doc dV kV ho hd hcd hD hmg hg args vals as hpre hlay hrd hwl hlo
  obtain ⟨a, e1, e2⟩ := PySem.W.os_pre_some hpre
  obtain ⟨e3, hwi⟩ := Codec.encAll_of_decAll r.args args a e1
  subst e3
  have KX := hY w _ Y
  obtain ⟨fd, hb, hF⟩ := F w mg fa _ Y KX G.T.g hmg
  refine PySem.W.enter_call (codeAny_mono (zep (R := []) (cl := classAt s_0.heap) (d0 := r.ret.enc (Codec.app r.args r.f a)) KX G.T.g G.T.b G.T.builtins G.T.nolimit hg hwl (wu _ _) (j9 hlay) hr hF hb (by rw [kX]; exact hlen)
    (fun H xs hO hS => hsp w H xs a hO hwi e2 hS) fun H e s' => hCX w H s₁ e s') fun r' s' hq => ?_)
  obtain ⟨u, as', rfl, h1, h2, h3, h4⟩ := hq
  exact ⟨.inl ⟨u, _, as', rfl, fun _ => rfl, h1, (OpenSpec.post_iff hwell hwi _ _).mpr rfl, fun z => Bool.noConfusion (show false = true from z)⟩, h2, h3, h4⟩
theorem ziL {r : OpenSpec} {k : Nat} {q : Program} {loose : List Str} {XP : (Str -> Option Value) -> Heap -> Prop} {YP : World -> Heap -> Prop} {d : DefRec} {K : Params -> PySem.W.Frag} {CX : CXT} {ps : List Str} {sp : PySem.W.Frag -> Sp}
    (hwell : r.wellSaid = true) (hdf : d.params.defaults = []) (hlen : r.args.length = ps.length) (hr : yp k callerA)
    (hY : ∀ (w : World) (h : Heap), YP w h -> (K w.params).In h)
    (F : ∀ (w : World) (mg : Str -> Option Value) (fa : Addr) (h : Heap), YP w h -> (K w.params).In h -> h.Ns mainGlobals mg -> mg d.name = some (.ref fa) ->
      ∃ fd : FuncData, (∀ (s : Shared) (us : List Value), us.length = ps.length -> BindsTo s fd ⟨us, []⟩ (ps.zip us)) /\
        ∀ base : Heap, (K w.params).In base -> base.Ns mainGlobals mg -> yg r.prog w (K w.params) mg base CX k fa fd ps (sp (K w.params)))
    (hsp : ∀ (K : PySem.W.Frag) (H : Hp) (xs : List V) (a : Codec.denoteAll r.args), zbi H -> Codec.withinAll r.args a = true -> Codec.app r.args r.asked a = true -> qD K H xs (Codec.encAll r.args a) ->
      sp K xs H (fun v H' => Dw K H' v (r.ret.enc (Codec.app r.args r.f a))) fun _ _ _ => False)
    (hCX : ∀ (H : Hp) (s : Shared) (e : Value) (s' : Shared), CX [] H s (fun _ _ _ => False) e s' -> False) :
    PySem.W.WalkOS q loose XP YP r d [] (fun f vs => PySem.call f vs) :=
  zac (K := K) (CX := fun _ => CX) (sp := fun w => sp (K w.params)) hwell hdf hlen hr hY F (fun w H xs a h1 h2 h3 h4 => hsp (K w.params) H xs a h1 h2 h3 h4) fun _ H s e s' => hCX H s e s'
end L2
end
local macro_rules | `(tactic| trivial) => `(tactic| exact ⟨rfl, rfl, rfl, by decide +kernel, rfl, by decide +kernel, by decide +kernel⟩)
section
namespace Lk
open PySem PySem.Spec PyProof.Rows L2
open Sn15 (D bits bitsOf symbol Code Px)
structure Ad where
  CN : Addr
  CT : Addr
  CB : Addr
  CV : Addr
  CC : Addr
  CS : Addr
  CG : Addr
  CR : Addr
  CO : Addr
  CP : Addr
  CK : Addr
  CE : Addr
  CD : Addr
  CF : Addr
  CH : Addr
  CA : Addr
abbrev nat (n : Nat) : V := V.int (n : Int)
def zm (l : List Nat) : List V := l.map nat
theorem zk (l : List Nat) : (zm l).length = l.length := by unfold zm; simp
theorem yf {l : List Nat} {i n : Nat} (h : l[i]? = some n) : (zm l)[i]? = some (nat n) := by
  unfold zm
  rw [List.getElem?_map, h]
  rfl
theorem yt (l m : List Nat) : zm (l ++ m) = zm l ++ zm m := by unfold zm; simp
theorem j1 (l : List Nat) (i n : Nat) : zm (l.set i n) = (zm l).set i (nat n) := by unfold zm; simp [List.map_set]
theorem zN {f : Str} {v : V} {r : List (Str × V)} : ((f, v) :: r).lookup f = some v := by simp [List.lookup]
theorem zp {f g : Str} {v : V} {r : List (Str × V)} (h : (f == g) = false) : ((g, v) :: r).lookup f = r.lookup f := by simp [List.lookup, h]
theorem zes {f : Str} {v x : V} {r : List (Str × V)} : jo f v ((f, x) :: r) = (f, v) :: r := by simp [jo]
theorem zhL {f g : Str} {v x : V} {r : List (Str × V)} (h : ¬ g = f) : jo f v ((g, x) :: r) = (g, x) :: jo f v r := by simp [jo, h]
def zy (ps : List Addr) (H H' : Hp) : Prop := ∀ b o, H b = some o -> b ∉ ps -> H' b = some o
theorem zy.refl (ps : List Addr) (H : Hp) : zy ps H H := fun _ _ h _ => h
theorem zy.trans {ps : List Addr} {H H1 H2 : Hp} (a : zy ps H H1) (b : zy ps H1 H2) : zy ps H H2 := fun c o h n => b c o (a c o h n) n
theorem zy.mono {ps qs : List Addr} {H H1 : Hp} (a : zy ps H H1) (h : ∀ x ∈ ps, x ∈ qs) : zy qs H H1 := fun c o e n => a c o e fun z => n (h c z)
theorem zy.new {ps : List Addr} {H : Hp} {a : Addr} {o : HO} (h : H a = none) : zy ps H (upd H a o) := fun b u e _ => by rw [zh (zc e h)]; exact e
theorem zy.put {ps : List Addr} {H : Hp} {a : Addr} {o : HO} (h : a ∈ ps) : zy ps H (upd H a o) := fun b u e n => by
  have ne : b ≠ a := fun z => n (by rw [z]; exact h)
  rw [zh ne]; exact e
theorem zy.same {H H1 : Hp} (h : zQ H H1) (ps : List Addr) : zy ps H H1 := fun b o e _ => h b o e
theorem zy.free {ps : List Addr} {H H1 : Hp} (h : zy ps H H1) {a : Addr} (n : H1 a = none) (hp : a ∉ ps) : H a = none := by
  cases q : H a with
  | none => rfl
  | some o => rw [h a o q hp] at n; cases n
structure Bi where
  p : Addr
  o : Addr
  oct : List Nat
def jG (o : Addr) (i e : Nat) : List (Str × V) := [("octets", .ref o), ("place", nat i), ("end", nat e)]
def zo (t : Ad) (H : Hp) (B : Bi) (bs : List Bool) : Prop := ∃ (dx : Addr) (i : Nat), H B.p = some (.ins t.CB dx (jG B.o i (8 * B.oct.length))) /\ H B.o = some (.lst (zm B.oct)) /\
  (∀ c ∈ B.oct, c < 256) /\ i <= 8 * B.oct.length /\ B.oct.length <= 100000 /\ bs = (bitsOf B.oct).drop i
theorem zhF (o : Addr) (i e : Nat) : (jG o i e).lookup ("octets" : Str) = some (.ref o) := zN
theorem zei (o : Addr) (i e : Nat) : (jG o i e).lookup ("place" : Str) = some (nat i) := (zp (by decide +kernel)).trans zN
theorem zdw (o : Addr) (i e : Nat) : (jG o i e).lookup ("end" : Str) = some (nat e) := (zp (by decide +kernel)).trans ((zp (by decide +kernel)).trans zN)
theorem zgy (o : Addr) (i e : Nat) {m : Str} (h1 : (m == ("octets" : Str)) = false) (h2 : (m == ("place" : Str)) = false) (h3 : (m == ("end" : Str)) = false) : (jG o i e).lookup m = none :=
  (zp h1).trans ((zp h2).trans ((zp h3).trans rfl))
theorem zdU (o : Addr) (i j e : Nat) : jo "place" (nat j) (jG o i e) = jG o j e := by
  unfold jG
  rw [zhL (by decide +kernel), zes]
theorem zo.ne {t : Ad} {H : Hp} {B : Bi} {bs : List Bool} (h : zo t H B bs) : B.o ≠ B.p := by
  obtain ⟨dx, i, h1, h2, _⟩ := h
  exact yO h2 h1 (by intro z; cases z)
theorem zo.kept {t : Ad} {H H' : Hp} {B : Bi} {bs : List Bool} {ps : List Addr} (h : zo t H B bs) (k : zy ps H H') (h1 : B.p ∉ ps) (h2 : B.o ∉ ps) : zo t H' B bs := by
  obtain ⟨dx, i, e1, e2, r⟩ := h
  exact ⟨dx, i, k _ _ e1 h1, k _ _ e2 h2, r⟩
def Out {α : Type} (t : Ad) (E : XK) (B : Bi) (ps : List Addr) (H : Hp) (R : α -> V -> Hp -> Prop) (Q : VK) : Option (α × List Bool) -> Prop
  | none => ∀ H', E (.ref t.CN) none H'
  | some (a, bs') => ∀ v H', zo t H' B bs' -> zy (B.p :: ps) H H' -> R a v H' -> Q v H'
section
variable {α β : Type} {t : Ad} {E : XK} {B : Bi} {ps qs : List Addr} {H H' : Hp} {R : β -> V -> Hp -> Prop} {R1 : α -> V -> Hp -> Prop} {Q Q1 : VK} {bs bs' : List Bool}
theorem Out.shift {r : Option (β × List Bool)} (h : Out t E B ps H R Q r) (k : zy (B.p :: ps) H H') : Out t E B ps H' R Q r := by
  cases r with
  | none => exact h
  | some x => exact fun v H2 b k2 r => h v H2 b (k.trans k2) r
theorem zd6 {a : Addr} {ps qs : List Addr} (h : ∀ x ∈ qs, x ∈ ps) : ∀ x ∈ a :: qs, x ∈ a :: ps := fun x hx => by
  rcases List.mem_cons.mp hx with e | e
  . rw [e]; exact List.mem_cons_self
  . exact List.mem_cons_of_mem _ (h x e)
theorem Out.bind' {m : D α} {f : α -> D β} (h : Out t E B ps H R Q ((m >>= f) bs)) (hq : ∀ x ∈ qs, x ∈ ps)
    (k : ∀ a bs' v H', m bs = some (a, bs') -> zo t H' B bs' -> zy (B.p :: qs) H H' -> R1 a v H' -> Out t E B ps H' R Q (f a bs') -> Q1 v H') : Out t E B qs H R1 Q1 (m bs) := by
  rw [zF] at h
  cases hm : m bs with
  | none => rw [hm] at h; exact h
  | some x =>
    rw [hm] at h
    obtain ⟨a, bs'⟩ := x
    exact fun v H' b kp r => k a bs' v H' hm b kp r (Out.shift h (kp.mono (zd6 hq)))
theorem Out.bind {m : D α} {f : α -> D β} (h : Out t E B ps H R Q ((m >>= f) bs))
    (k : ∀ a bs' v H', m bs = some (a, bs') -> zo t H' B bs' -> zy (B.p :: []) H H' -> R1 a v H' -> Out t E B ps H' R Q (f a bs') -> Q1 v H') : Out t E B [] H R1 Q1 (m bs) :=
  Out.bind' h (fun x hx => by cases hx) k
theorem Out.need {c : Bool} {f : Unit -> D β} (h : Out t E B ps H R Q ((Sn15.need c >>= f) bs)) : (c = true -> Out t E B ps H R Q (f () bs)) /\ (c = false -> ∀ H', E (.ref t.CN) none H') := by
  refine ⟨fun e => ?_, fun e => ?_⟩
  . subst e; rw [yb] at h; exact h
  . subst e; rw [yy] at h; exact h
theorem Out.pure {a : β} (h : Out t E B ps H R Q ((Pure.pure a : D β) bs)) (b : zo t H B bs) {v : V} (r : R a v H) : Q v H := h v H b (zy.refl _ _) r
theorem Out.pure' {a : β} (h : Out t E B ps H R Q ((Pure.pure a : D β) bs)) (b : zo t H' B bs) (k : zy (B.p :: ps) H H') {v : V} (r : R a v H') : Q v H' := h v H' b k r
theorem Out.imp {r : Option (α × List Bool)} (h : Out t E B ps H R1 Q r) {R2 : α -> V -> Hp -> Prop} (hr : ∀ a v H', R2 a v H' -> R1 a v H') : Out t E B ps H R2 Q r := by
  cases r with
  | none => exact h
  | some x => exact fun v H2 b k2 r => h v H2 b k2 (hr _ _ _ r)
end
def zaA : Nat -> V -> Hp -> Prop := fun n v _ => v = nat n
structure zE (P : Program) (w : World) (K : PySem.W.Frag) (mg : Str -> Option Value) (base : Heap) (k : Nat) (x : Str) (ps : List Str) (sp : Sp) : Prop where
  ex : ∃ f fd, yg P w K mg base (CXe P w) k f fd ps sp /\ mg x = some (.ref f) /\ PySem.W.keepIn K (.ref f) = true /\ qG K fd ps []
structure zI (P : Program) (w : World) (K : PySem.W.Frag) (mg : Str -> Option Value) (base : Heap) (k : Nat) (C : Addr) (m : Str) (ps : List Str) (sp : Sp) : Prop where
  ex : ∃ f fd, yg P w K mg base (CXe P w) k f fd ps sp /\ zi4 K C m f /\ qG K fd ps []
structure yd (P : Program) (w : World) (K : PySem.W.Frag) (mg : Str -> Option Value) (base : Heap) (k : Nat) (C : Addr) (x : Str) (ps : List Str) (sp : Sp) : Prop where
  ex : ∃ f fd, yg P w K mg base (CXe P w) k f fd ps sp /\ Mk K C f /\ qG K fd ps []
  nm : mg x = some (.ref C)
section
variable {X : Cx} {E : XK} {k : Nat} {x m : Str} {C : Addr} {ps : List Str} {sp : Sp} {p pos apos : Pos} {e o : Expr} {es : List Expr} {ta : TE} {ts : TA}
theorem pd (G : zE X.prog X.w X.K X.mg X.base k x ps sp) (L : Lv X E) (hr : yp k X.A) (ha : PA X (e :: es) ts) (hg : Gl X x := by rfl) (hdb : (x == ("__debug__" : Str)) = false := by decide)
    (he : starEach (e :: es) X.env = (false, eval e X.env) :: starEach es X.env := by rfl) (hpl : (backTo pos (starEach es X.env)).any (·.1) = false := by rfl) : PE X (.Call (.Name x p) (e :: es) [] pos) (zgj sp [] E ts) := by
  obtain ⟨f, fd, F, hm, hk, hb⟩ := G.ex
  exact zbm F hr hg hm hk hb .nil L.pass ha hdb he hpl
theorem pm (G : zI X.prog X.w X.K X.mg X.base k C m ps sp) (L : Lv X E) (c : Cls X.K C) (hr : yp k X.A) (ho : PE X o ta) (ha : PA X (e :: es) ts) {pl : Sem Bool}
    (hst : starEach (e :: es) X.env = (false, eval e X.env) :: starEach es X.env := by rfl) (hpl : (backTo pos (starEach es X.env)).any (·.1) = false := by rfl)
    (ht : eval (.Call (.Attribute o m apos) (e :: es) [] pos) X.env = (do
      let ov <- eval o X.env
      standAt apos.atName
      let (f, first) <- holding [ov] (getMethod ov m pl)
      callWith pos f first (backTo pos (starEach (e :: es) X.env)) (backToKw pos (keywordEach [] X.env))) := by rfl) : PE X (.Call (.Attribute o m apos) (e :: es) [] pos) (zfC C m sp [] E ta ts) := by
  obtain ⟨f, fd, F, hm, hb⟩ := G.ex
  exact zit ho c hm F hr hb .nil L.pass ha hst hpl ht
theorem pm0 (G : zI X.prog X.w X.K X.mg X.base k C m ps sp) (L : Lv X E) (c : Cls X.K C) (hr : yp k X.A) (ho : PE X o ta) {pl : Sem Bool}
    (ht : eval (.Call (.Attribute o m apos) [] [] pos) X.env = (do
      let ov <- eval o X.env
      standAt apos.atName
      let (f, first) <- holding [ov] (getMethod ov m pl)
      callWith pos f first (backTo pos (starEach [] X.env)) (backToKw pos (keywordEach [] X.env))) := by rfl) : PE X (.Call (.Attribute o m apos) [] [] pos) (zfC C m sp [] E ta zkR) := by
  obtain ⟨f, fd, F, hm, hb⟩ := G.ex
  exact zfw ho c hm F hr hb .nil L.pass ht
theorem pmk (G : yd X.prog X.w X.K X.mg X.base k C x ps sp) (L : Lv X E) (hr : yp (k + 1) X.A) (ha : PA X (e :: es) ts) (hg : Gl X x := by rfl) (hdb : (x == ("__debug__" : Str)) = false := by decide)
    (he : starEach (e :: es) X.env = (false, eval e X.env) :: starEach es X.env := by rfl) (hpl : (backTo pos (starEach es X.env)).any (·.1) = false := by rfl) : PE X (.Call (.Name x p) (e :: es) [] pos) (zjV C sp [] E ts) := by
  obtain ⟨f, fd, F, M, hb⟩ := G.ex
  exact zgZ M F hr hg G.nm hb .nil L.pass ha hdb he hpl
end
end Lk
end
section
namespace Lk
open PySem PySem.Spec PyProof.Rows L2
open Sn15 (D bits bitsOf symbol Code Px)
def top (i : Nat) : Stmt := PySem.Challenge.pw_losslook_s01_look.main.body.getD i (.Pass ⟨0, 0, 0, 0⟩)
abbrev zdI : Stmt := z0 (top 5) 0
abbrev zh4 : Stmt := z0 (top 5) 1
abbrev zkv : Stmt := z0 (top 5) 2
abbrev za4 : Stmt := z0 (top 5) 3
structure Tx (K : PySem.W.Frag) (mg : Str -> Option Value) (t : Ad) : Prop where
  xN : PySem.W.excIn K t.CN zgX "Exception.__new__" = true
  gN : mg "NoSuchFile" = some (.ref t.CN)
  xT : PySem.W.excIn K t.CT zgX "Exception.__new__" = true
  gT : mg "TooLarge" = some (.ref t.CT)
  cB : Cls K t.CB
  nO : zR K t.CB "octets"
  nP : zR K t.CB "place"
  nE : zR K t.CB "end"
  cV : Cls K t.CV
  vW : zR K t.CV "width"
  vS : zR K t.CV "size"
  vC : zR K t.CV "colours"
  vD : zR K t.CV "depth"
  vH : zR K t.CV "cache"
  cC : Cls K t.CC
  nW : zR K t.CC "words"
  nS : zR K t.CC "sole"
  cS : Cls K t.CS
  sS : zR K t.CS "shift"
  sA : zR K t.CS "across"
  sC : zR K t.CS "colours"
  cG : Cls K t.CG
  gS : zR K t.CG "squares"
  gG : zR K t.CG "groups"
  len : mg "len" = none
  range : mg "range" = none
  max : mg "max" = none
  min : mg "min" = none
  sum : mg "sum" = none
  enum : mg "enumerate" = none
  ord : mg "ord" = none
  kSPREAD : ∃ u, mg "SPREAD" = some u /\ yc (.int 506832829) u
  kLOW : ∃ u, mg "LOW_32" = some u /\ yc (.int 4294967295) u
  kLONGEST : ∃ u, mg "LONGEST" = some u /\ yc (.int 15) u
  kFIRST : ∃ u, mg "FIRST" = some u /\ yc (.int 0) u
  kRED : ∃ u, mg "RED" = some u /\ yc (.int 1) u
  kBLUE : ∃ u, mg "BLUE" = some u /\ yc (.int 2) u
  kALPHA : ∃ u, mg "ALPHA" = some u /\ yc (.int 3) u
  kDISTANCE : ∃ u, mg "DISTANCE" = some u /\ yc (.int 4) u
  kORDER : ∃ a, mg "LENGTH_SYMBOLS" = some (.ref a) /\ ∀ H, SqT K H a (zm Sn15.ORDER)
  kNEAR : ∃ (a : Addr) (as : List Addr), mg "NEAR" = some (.ref a) /\ (∀ H, SqT K H a (as.map V.ref)) /\ as.length = 120 /\
    ∀ (i : Nat) (b : Addr), as[i]? = some b -> ∃ x y : Int, Sn15.NEAR[i]? = some (x, y) /\ ∀ H, SqT K H b [.int x, .int y]
theorem za6 (a b : Nat) : Builtin.bitOr (a : Int) (b : Int) = ((a ||| b : Nat) : Int) := by
  have h1 : ¬ (0 : Int) <= Builtin.bitNot (a : Int) := by unfold Builtin.bitNot; omega
  have h2 : ¬ (0 : Int) <= Builtin.bitNot (b : Int) := by unfold Builtin.bitNot; omega
  have e : ∀ z : Int, Builtin.bitNot (Builtin.bitNot z) = z := fun z => by unfold Builtin.bitNot; omega
  unfold Builtin.bitOr Builtin.bitAnd
  rw [decide_eq_false h1, decide_eq_false h2]
  simp only [e]
  rfl
theorem vf {x y k : Nat} (h : x < 2 ^ k) : Builtin.bitOr (x : Int) ((y * 2 ^ k : Nat) : Int) = ((x + y * 2 ^ k : Nat) : Int) := by
  rw [za6, Nat.or_comm, Nat.mul_comm y, <- Nat.two_pow_add_eq_or_of_lt h, Nat.add_comm]
theorem vP {x y k : Nat} (h : x < 2 ^ k) : Builtin.bitOr ((y * 2 ^ k : Nat) : Int) (x : Int) = ((y * 2 ^ k + x : Nat) : Int) := by
  rw [za6, Nat.mul_comm y, <- Nat.two_pow_add_eq_or_of_lt h]
theorem two_pow_int (k : Nat) : (2 : Int) ^ k = ((2 ^ k : Nat) : Int) := by simp
theorem zhE (c i : Nat) : Builtin.bitAnd ((c : Int) / 2 ^ (Builtin.bitAnd (i : Int) 7).toNat) 1 = ((b2n (c.testBit (i % 8)) : Nat) : Int) := by
  have e : (Builtin.bitAnd (i : Int) 7).toNat = i % 8 := by rw [bitAnd_m3]; omega
  rw [e, bitAnd_m1, zgb, two_pow_int, <- Int.natCast_ediv]
  omega
theorem kI {o : Addr} {e : Nat} (i : Nat) : jo "place" (.int ((i : Int) + 1)) (jG o i e) = jG o (i + 1) e := by
  have h := zdU o i (i + 1) e
  rw [<- h]
  rfl
section
variable {P : Program} {w : World} {K : PySem.W.Frag} {mg : Str -> Option Value} {base : Heap} {t : Ad}
def zaB (t : Ad) : Sp := fun vs H Q _ => ∃ (p o dx : Addr) (oct : List Nat), vs = [.ref p, .ref o] /\ H p = some (.ins t.CB dx []) /\ H o = some (.lst (zm oct)) /\ (∀ c ∈ oct, c < 256) /\ oct.length <= 100000 /\
  ∀ H', zo t H' ⟨p, o, oct⟩ (bitsOf oct) -> zy [p] H H' -> Q .non H'
theorem zgV : zq ["self", "octets"] ["self", "octets"] (zj zdI) := by trivial
theorem zfW {f : Addr} {fd : FuncData} (F : Fun K "__init__" "Bits.__init__" zdI f fd) (T : Tx K mg t) : yg P w K mg base (CXe P w) 1 f fd ["self", "octets"] (zaB t) := by
  refine F.okE zgV (fun vs H Q E h => ?_) (fun cdv A outer s H vs Q E hr h => ?_)
  . obtain ⟨p, o, dx, oct, rfl, _⟩ := h
    rfl
  . obtain ⟨p, o, dx, oct, rfl, hp, ho, hb, hl, k⟩ := h
    have ne : o ≠ p := yO ho hp (by intro z; cases z)
    refine ⟨_, zd (zU (pv 0) (pv 1) rfl) (zd (zU (pv 0) zi rfl) (zg (zU (pv 0) (zt jh zi (zL zC (by rfl) T.len PySem.boot_len (za (pv 1) zf))) rfl))), ?_⟩
    refine ⟨_, rfl, _, rfl, p, t.CB, dx, _, rfl, hp, T.cB, T.nO, (by show 0 < 1000; decide), ?_⟩
    refine ⟨_, rfl, p, t.CB, dx, _, rfl, zb, T.cB, T.nP, (by show 1 < 1000; decide), ?_⟩
    refine ⟨_, rfl, o, _, rfl, .inl (SqL.of (by rw [zh ne, zh ne]; exact ho)), _, _, rfl, rfl, .inl ⟨by decide, by decide⟩, _, rfl, p, t.CB, dx, _, rfl, zb, T.cB, T.nE, (by show 2 < 1000; decide), ?_⟩
    refine k _ ⟨dx, 0, ?_, ?_, hb, Nat.zero_le _, hl, rfl⟩ ?_
    . rw [zb, zk]
      rfl
    . rw [zh ne, zh ne, zh ne]; exact ho
    . exact ((zy.put (by simp)).trans (zy.put (by simp))).trans (zy.put (by simp))
def zen (t : Ad) : Sp := fun vs H Q _ => ∃ (B : Bi) (bs : List Bool), vs = [.ref B.p] /\ zo t H B bs /\ Q (nat bs.length) H
theorem zjB : zq ["self"] ["self"] (zj zh4) := by trivial
theorem zh0 {f : Addr} {fd : FuncData} (F : Fun K "left" "Bits.left" zh4 f fd) (T : Tx K mg t) : yg P w K mg base (CXe P w) 1 f fd ["self"] (zen t) := by
  refine F.okE zjB (fun vs H Q E h => ?_) (fun cdv A outer s H vs Q E hr h => ?_)
  . obtain ⟨B, bs, rfl, _⟩ := h
    rfl
  . obtain ⟨B, bs, rfl, ⟨dx, i, h1, h2, h3, h4, h5, rfl⟩, k⟩ := h
    refine ⟨_, zg (zB (zt y8 (zx (pv 0) rfl) (zx (pv 0) rfl))), ?_⟩
    refine ⟨_, rfl, B.p, t.CB, dx, _, _, rfl, h1, T.cB, T.nE, zdw _ _ _, _, rfl, B.p, t.CB, dx, _, _, rfl, h1, T.cB, T.nP, zei _ _ _, _, _, rfl, rfl, ?_⟩
    rw [List.length_drop, xP] at k
    show Q (.int (((8 * B.oct.length : Nat) : Int) - ((i : Nat) : Int))) H
    rw [<- Int.ofNat_sub h4]
    exact k
def j0 (t : Ad) : Sp := fun vs H Q E => ∃ (B : Bi) (bs : List Bool), vs = [.ref B.p] /\ zo t H B bs /\ Out t E B [] H zaA Q (bits 1 bs)
theorem zjU : zq ["self", "place"] ["self"] (zj zkv) := by trivial
theorem zjk {f : Addr} {fd : FuncData} (F : Fun K "bit" "Bits.bit" zkv f fd) (T : Tx K mg t) : yg P w K mg base (CXe P w) 1 f fd ["self"] (j0 t) := by
  refine F.okE zjU (fun vs H Q E h => ?_) (fun cdv A outer s H vs Q E hr h => ?_)
  . obtain ⟨B, bs, rfl, _⟩ := h
    rfl
  . obtain ⟨B, bs, rfl, ⟨dx, i, h1, h2, h3, h4, h5, rfl⟩, k⟩ := h
    have ne : B.o ≠ B.p := yO h2 h1 (by intro z; cases z)
    refine ⟨_, zd (zw (i := 1) zjU.nd rfl (Or.inl rfl) (zx (pv 0) rfl))
      (zd (ye (zu xt (pv 1) (zx (pv 0) rfl) (zD _)) (zg (zY Lv.of (by rfl) T.gN T.xN)) zH)
      (zd (zU (pv 0) (zt zT (pv 1) zi) rfl)
      (zg (zB (zt xI (zt qY (yI zX (zx (pv 0) rfl) (zt qY (pv 1) zi) (fun _ _ => rfl)) (zt xI (pv 1) zi)) zi))))), ?_⟩
    refine ⟨_, rfl, B.p, t.CB, dx, _, _, rfl, h1, T.cB, T.nP, zei _ _ _, ?_⟩
    refine ⟨_, rfl, _, rfl, B.p, t.CB, dx, _, _, rfl, h1, T.cB, T.nE, zdw _ _ _, rfl, _, rfl, yC (fun e => ?_) (fun e => ?_)⟩
    . have e' : (i : Int) = ((8 * B.oct.length : Nat) : Int) := V.int.inj (of_decide_eq_true e)
      have hi : i = 8 * B.oct.length := by omega
      rw [List.drop_eq_nil_of_le (by rw [xP]; omega), zhM] at k
      exact k H
    . have e' : ¬ (nat i = nat (8 * B.oct.length)) := fun z => e (decide_eq_true z)
      have hi : i < 8 * B.oct.length := by
        rcases Nat.lt_or_eq_of_le h4 with z | z
        . exact z
        . exact absurd (by rw [z]) e'
      obtain ⟨c, hc, hd⟩ := zdv hi
      rw [hd, zbL] at k
      refine ⟨_, rfl, _, _, rfl, rfl, _, rfl, B.p, t.CB, dx, _, rfl, h1, T.cB, T.nP, (by show 3 < 1000; decide), ?_⟩
      refine ⟨_, rfl, B.p, t.CB, dx, _, _, rfl, zb, T.cB, T.nO, ?_, _, rfl, _, _, rfl, rfl, (by show (0 : Int) <= 3; decide), B.o, _, _, nat c, rfl, rfl, SqL.of (by rw [zh ne]; exact h2), yP (j := i / 8) ?_ (yf hc),
        _, rfl, _, _, rfl, rfl, _, _, rfl, rfl, ?_, _, _, rfl, rfl, ?_⟩
      . rw [kI i]; exact zhF _ _ _
      . show (i : Int) / 2 ^ 3 = ((i / 8 : Nat) : Int)
        omega
      . show (0 : Int) <= Builtin.bitAnd (i : Int) 7
        rw [bitAnd_m3]; omega
      . show Q (.int (Builtin.bitAnd ((c : Int) / 2 ^ (Builtin.bitAnd (i : Int) 7).toNat) 1)) _
        rw [zhE]
        refine k _ _ ⟨dx, i + 1, ?_, by rw [zh ne]; exact h2, h3, hi, h5, rfl⟩ (zy.put (by simp)) rfl
        rw [zb, kI i]
theorem zfc {n : Nat} {bs : List Bool} (h : n <= bs.length) : bits n bs = some (val (bs.take n), bs.drop n) := by rw [qo, if_pos h]
theorem wz {n : Nat} {bs : List Bool} (h : bs.length < n) : bits n bs = none := by rw [qo, if_neg (by omega)]
theorem zo.meth {H : Hp} {B : Bi} {bs : List Bool} (h : zo t H B bs) {m : Str} (h1 : (m == ("octets" : Str)) = false := by decide +kernel) (h2 : (m == ("place" : Str)) = false := by decide +kernel) (h3 : (m == ("end" : Str)) = false := by decide +kernel) :
    ∃ dx fs, H B.p = some (.ins t.CB dx fs) /\ fs.lookup m = none := by
  obtain ⟨dx, i, e, _⟩ := h
  exact ⟨dx, _, e, zgy _ _ _ h1 h2 h3⟩
def yw (t : Ad) : Sp := fun vs H Q E => ∃ (B : Bi) (bs : List Bool) (n : Nat), vs = [.ref B.p, nat n] /\ n <= 1000 /\ zo t H B bs /\ Out t E B [] H zaA Q (bits n bs)
theorem js : zq ["self", "width", "answer", "k"] ["self", "width"] (zj za4) := by trivial
theorem zeI {f : Addr} {fd : FuncData} (F : Fun K "number" "Bits.number" za4 f fd) (T : Tx K mg t) (G : zI P w K mg base 1 t.CB "bit" ["self"] (j0 t)) : yg P w K mg base (CXe P w) 2 f fd ["self", "width"] (yw t) := by
  refine F.okE js (fun vs H Q E h => ?_) (fun cdv A outer s H vs Q E hr h => ?_)
  . obtain ⟨B, bs, n, rfl, _⟩ := h
    rfl
  . obtain ⟨B, bs, n, rfl, hn, hb, k⟩ := h
    refine ⟨_, zd (zw (i := 2) js.nd rfl (Or.inl rfl) zi)
      (zd (jW Lv.of.own rfl (wx rfl T.range (za (pv 1) zf)) (yz (i := 3) js.nd rfl (Or.inl rfl))
        (zg (zew (i := 2) js.nd rfl (Or.inl rfl) (zt xa (pm0 G Lv.of T.cB hr (pv 0)) (pv 3)) zjE)))
      (zg (zB (pv 2)))), ?_⟩
    refine ⟨_, rfl, (n : Int), rfl, by omega, by omega, wN (n := n) (lo := 0) (fun i σ H' => ∃ v3 : Option V, σ = [some (.ref B.p), some (nat n), some (nat (val (bs.take i))), v3] /\ i <= bs.length /\ zo t H' B (bs.drop i) /\ zy [B.p] H H')
      ⟨none, rfl, Nat.zero_le _, hb, zy.refl _ _⟩ ?_ ?_⟩
    . rintro i σ H' hi ⟨v3, rfl, hl, hb', kp⟩
      obtain ⟨dx, fs, e1, e2⟩ := hb'.meth (m := "bit")
      refine ⟨_, rfl, _, rfl, B.p, dx, fs, rfl, e1, e2, B, bs.drop i, rfl, hb', ?_⟩
      by_cases hlt : i < bs.length
      . have e : bits 1 (bs.drop i) = some (b2n bs[i], bs.drop (i + 1)) := by rw [List.drop_eq_getElem_cons hlt, zbL]
        rw [e]
        intro v H2 hb2 kp2 hv
        cases hv
        refine ⟨_, rfl, _, _, rfl, rfl, ⟨by omega, by omega, ?_⟩, _, _, rfl, rfl, ?_⟩
        . have := zgR bs[i]
          omega
        . refine ⟨some (.int (0 + (i : Int))), ?_, hlt, hb2, kp.trans kp2⟩
          have e : Builtin.bitOr ((val (bs.take i) : Nat) : Int) (((b2n bs[i] : Nat) : Int) * 2 ^ (0 + (i : Int)).toNat) = ((val (bs.take (i + 1)) : Nat) : Int) := by
            have e1 : (0 + (i : Int)).toNat = i := by omega
            have hv : val (bs.take i) < 2 ^ i := by
              have := zfh (bs.take i)
              rwa [List.length_take, Nat.min_eq_left (by omega)] at this
            rw [e1, List.take_succ_eq_append_getElem hlt, zcg, List.length_take, Nat.min_eq_left (by omega), <- vf hv]
            simp
          show [some (V.ref B.p), some (nat n), some (V.int _), some (V.int (0 + (i : Int)))] = _
          rw [e]
      . have e : bits 1 (bs.drop i) = none := wz (by rw [List.length_drop]; omega)
        rw [e]
        rw [wz (by omega)] at k
        exact k
    . rintro σ H' ⟨v3, rfl, hl, hb', kp⟩
      rw [zfc hl] at k
      exact ⟨_, rfl, k _ _ hb' kp rfl⟩
end
end Lk
end
section
namespace Lk
open PySem PySem.Spec PyProof.Rows L2
open Sn15 (D bits bitsOf symbol Px)
abbrev ze8 : Stmt := z0 (top 13) 0
abbrev zgY : Stmt := z0 (top 13) 1
def zhK : Option Nat -> V
  | some s => nat s
  | none => .non
def zaG (wa : Addr) (sole : Option Nat) : List (Str × V) := [("words", .ref wa), ("sole", zhK sole)]
theorem zaJ (wa : Addr) (sole : Option Nat) : (zaG wa sole).lookup ("words" : Str) = some (.ref wa) := zN
theorem xh (wa : Addr) (sole : Option Nat) : (zaG wa sole).lookup ("sole" : Str) = some (zhK sole) := (zp (by decide +kernel)).trans zN
theorem zb0 (wa : Addr) (sole : Option Nat) {m : Str} (h1 : (m == ("words" : Str)) = false) (h2 : (m == ("sole" : Str)) = false) : (zaG wa sole).lookup m = none := (zp h1).trans ((zp h2).trans rfl)
structure xg (H : Hp) (was : List Addr) (ws : List (List Nat)) : Prop where
  len : was.length = ws.length
  at_ : ∀ (j : Nat) (x : Addr), was[j]? = some x -> ∃ w, ws[j]? = some w /\ H x = some (.lst (zm w))
theorem xg.get {H : Hp} {was : List Addr} {ws : List (List Nat)} (h : xg H was ws) {j : Nat} {w : List Nat} (e : ws[j]? = some w) : ∃ x, was[j]? = some x /\ H x = some (.lst (zm w)) := by
  have hj : j < was.length := by rw [h.len]; exact (List.getElem?_eq_some_iff.mp e).1
  obtain ⟨w', e', hx⟩ := h.at_ j was[j] (List.getElem?_eq_getElem hj)
  rw [e] at e'
  cases e'
  exact ⟨_, List.getElem?_eq_getElem hj, hx⟩
def zcf (c : Sn15.Code) (words : List (List Nat)) : Option Nat -> Prop
  | some s => symbol c = pure s /\ s < c.length
  | none => ∃ ws, words = [] :: ws /\ zaz 2 ws /\ symbol c = (bits 1 >>= wo ws)
def yL (t : Ad) (H : Hp) (a : Addr) (c : Sn15.Code) : Prop := ∃ (dx wa : Addr) (was : List Addr) (words : List (List Nat)) (sole : Option Nat), H a = some (.ins t.CC dx (zaG wa sole)) /\ H wa = some (.lst (was.map V.ref)) /\ xg H was words /\ zcf c words sole
theorem xg.kept {H H' : Hp} {was : List Addr} {ws : List (List Nat)} (h : xg H was ws) (k : ∀ x l, H x = some (.lst l) -> H' x = some (.lst l)) : xg H' was ws :=
  ⟨h.len, fun j x e => let ⟨w, e1, e2⟩ := h.at_ j x e; ⟨w, e1, k _ _ e2⟩⟩
theorem zy.lst {t : Ad} {H H' : Hp} {B : Bi} {bs : List Bool} (k : zy [B.p] H H') (b : zo t H B bs) {x : Addr} {l : List V} (h : H x = some (.lst l)) : H' x = some (.lst l) := by
  obtain ⟨dx, i, h1, _⟩ := b
  exact k x _ h fun z => yO h h1 (by intro q; cases q) (List.mem_singleton.mp z)
theorem zy.ins {t : Ad} {H H' : Hp} {B : Bi} {bs : List Bool} (k : zy [B.p] H H') (b : zo t H B bs) {x C dx : Addr} {f : Str} {v : V} {r : List (Str × V)} (h : H x = some (.ins C dx ((f, v) :: r))) (hf : ¬ f = "octets") : H' x = some (.ins C dx ((f, v) :: r)) := by
  obtain ⟨dx', i, h1, _⟩ := b
  refine k x _ h fun z => yO h h1 (fun q => ?_) (List.mem_singleton.mp z)
  injection q with _ _ q
  injection q with q _
  exact hf (congrArg Prod.fst q)
theorem yL.kept {t : Ad} {H H' : Hp} {B : Bi} {bs : List Bool} {a : Addr} {c : Sn15.Code} (h : yL t H a c) (b : zo t H B bs) (k : zy [B.p] H H') : yL t H' a c := by
  obtain ⟨dx, wa, was, words, sole, h1, h2, h3, h4⟩ := h
  exact ⟨dx, wa, was, words, sole, k.ins b h1 (by decide +kernel), k.lst b h2, h3.kept fun x l e => k.lst b e, h4⟩
theorem yL.same {t : Ad} {H H' : Hp} {a : Addr} {c : Sn15.Code} (h : yL t H a c) (k : zQ H H') : yL t H' a c := by
  obtain ⟨dx, wa, was, words, sole, h1, h2, h3, h4⟩ := h
  exact ⟨dx, wa, was, words, sole, k _ _ h1, k _ _ h2, h3.kept fun x l e => k _ _ e, h4⟩
def kQ (t : Ad) : Sn15.Code -> V -> Hp -> Prop := fun c v H => ∃ a, v = .ref a /\ yL t H a c
theorem zdm {w : List Nat} {ws : List (List Nat)} {r s : Nat} (h : w[r]? = some s) : wo (w :: ws) r = pure s := by
  unfold wo; rw [h]
theorem zeE {w : List Nat} {ws : List (List Nat)} {r : Nat} (h : w.length <= r) : wo (w :: ws) r = (bits 1 >>= fun b => wo ws (2 * (r - w.length) + b)) := by
  conv => lhs; unfold wo
  rw [List.getElem?_eq_none h]
section
variable {P : Program} {w : World} {K : PySem.W.Frag} {mg : Str -> Option Value} {base : Heap} {t : Ad}
def vU (t : Ad) : Sp := fun vs H Q _ => ∃ (p wa dx : Addr) (sole : Option Nat), vs = [.ref p, .ref wa, zhK sole] /\ H p = some (.ins t.CC dx []) /\
  ∀ H', H' p = some (.ins t.CC dx (zaG wa sole)) -> zy [p] H H' -> Q .non H'
theorem ziy : zq ["self", "words", "sole"] ["self", "words", "sole"] (zj ze8) := by trivial
theorem zga {f : Addr} {fd : FuncData} (F : Fun K "__init__" "Code.__init__" ze8 f fd) (T : Tx K mg t) : yg P w K mg base (CXe P w) 1 f fd ["self", "words", "sole"] (vU t) := by
  refine F.okE ziy (fun vs H Q E h => ?_) (fun cdv A outer s H vs Q E hr h => ?_)
  . obtain ⟨p, wa, dx, sole, rfl, _⟩ := h
    rfl
  . obtain ⟨p, wa, dx, sole, rfl, hp, k⟩ := h
    refine ⟨_, zd (zU (pv 0) (pv 1) rfl) (zg (zU (pv 0) (pv 2) rfl)), ?_⟩
    refine ⟨_, rfl, _, rfl, p, t.CC, dx, _, rfl, hp, T.cC, T.nW, (by show 0 < 1000; decide), ?_⟩
    refine ⟨_, rfl, _, rfl, p, t.CC, dx, _, rfl, zb, T.cC, T.nS, (by show 1 < 1000; decide), ?_⟩
    refine k _ ?_ ((zy.put (by simp)).trans (zy.put (by simp)))
    rw [zb]
    rfl
def ww (t : Ad) : Sp := fun vs H Q E => ∃ (B : Bi) (bs : List Bool) (a : Addr) (c : Sn15.Code), vs = [.ref a, .ref B.p] /\ yL t H a c /\ zo t H B bs /\ Out t E B [] H zaA Q (symbol c bs)
def zjG (t : Ad) (E : XK) (B : Bi) (H : Hp) (Q : VK) (a : Addr) (words : List (List Nat)) (m : Nat) (σ : L2.St) (H2 : Hp) : Prop := ∃ (n r cap : Nat) (w : List Nat) (ws : List (List Nat)) (bs : List Bool), m = ws.length /\
  σ = [some (.ref a), some (.ref B.p), some (nat n), some (nat r)] /\ words.drop n = w :: ws /\ zaz cap (w :: ws) /\ r < cap /\ zo t H2 B bs /\ zy [B.p] H H2 /\ Out t E B [] H2 zaA Q (wo (w :: ws) r bs)
theorem wS : zq ["self", "bits", "length", "rank"] ["self", "bits"] (zj zgY) := by trivial
theorem zha {f : Addr} {fd : FuncData} (F : Fun K "next_symbol" "Code.next_symbol" zgY f fd) (T : Tx K mg t) (G : zI P w K mg base 1 t.CB "bit" ["self"] (j0 t)) : yg P w K mg base (CXe P w) 2 f fd ["self", "bits"] (ww t) := by
  refine F.okE wS (fun vs H Q E h => ?_) (fun cdv A outer s H vs Q E hr h => ?_)
  . obtain ⟨B, bs, a, c, rfl, _⟩ := h
    rfl
  . obtain ⟨B, bs, a, c, rfl, ⟨dx, wa, was, words, sole, h1, h2, h3, h4⟩, hb, k⟩ := h
    refine ⟨_, zd (ye (zdZ (zdD (zx (pv 0) rfl))) (zg (zB (zx (pv 0) rfl))) zH)
      (zd (zw (i := 2) wS.nd rfl (Or.inl rfl) zi)
      (zd (zw (i := 3) wS.nd rfl (Or.inl rfl) (pm0 G Lv.of T.cB hr (pv 1)))
      (zd (qB Lv.of.own (zu zf3 (pv 3) (zL zC (by rfl) T.len PySem.boot_len (za (yI zX (zx (pv 0) rfl) (pv 2) (fun _ _ => rfl)) zf)) (zD _))
        (zd (zw (i := 3) wS.nd rfl (Or.inl rfl) (zt zT (zt jh zi (zt y8 (pv 3) (zL zC (by rfl) T.len PySem.boot_len (za (yI zX (zx (pv 0) rfl) (pv 2) (fun _ _ => rfl)) zf)))) (pm0 G Lv.of T.cB hr (pv 1))))
        (zg (zew (i := 2) wS.nd rfl (Or.inl rfl) zi ziY))))
      (zg (zB (yI zX (yI zX (zx (pv 0) rfl) (pv 2) (fun _ _ => rfl)) (pv 3) (fun _ _ => rfl))))))), ?_⟩
    cases sole with
    | some s =>
      obtain ⟨hs, _⟩ := h4
      rw [hs] at k
      refine ⟨_, rfl, a, t.CC, dx, _, _, rfl, h1, T.cC, T.nS, xh _ _, _, rfl, zc7 ?_⟩
      refine ⟨_, rfl, a, t.CC, dx, _, _, rfl, h1, T.cC, T.nS, xh _ _, ?_⟩
      exact k.pure hb rfl
    | none =>
      obtain ⟨ws, hw, hf, hs⟩ := h4
      rw [hs] at k
      refine ⟨_, rfl, a, t.CC, dx, _, _, rfl, h1, T.cC, T.nS, xh _ _, _, rfl, ziM ?_⟩
      obtain ⟨dxb, fs, e1, e2⟩ := hb.meth (m := "bit")
      refine ⟨_, rfl, B.p, dxb, fs, rfl, e1, e2, B, bs, rfl, hb, k.bind fun b bs' v H' hm hb' kp hv k' => ?_⟩
      cases hv
      have hb2 : b < 2 := xU hm
      obtain ⟨w0, ws0, rfl⟩ : ∃ w0 ws0, ws = w0 :: ws0 := by
        cases ws with
        | nil => have : (2 : Nat) = 0 := hf; omega
        | cons w0 ws0 => exact ⟨w0, ws0, rfl⟩
      refine ⟨zjG t E B H Q a words, ⟨ws0.length, 1, b, 2, w0, ws0, bs', rfl, rfl, by rw [hw]; rfl, hf, hb2, hb', kp, k'⟩, ?_⟩
      rintro m σ H2 ⟨n, r, cap, w1, ws1, bs2, rfl, rfl, hd, hfit, hr2, hbb, kp2, k2⟩
      have hn : words[n]? = some w1 := by
        have := congrArg List.head? hd
        rw [List.head?_drop] at this
        exact this
      obtain ⟨x, hx1, hx2⟩ := h3.get hn
      have g1 := kp2.ins hb h1 (by decide +kernel)
      have g2 := kp2.lst hb h2
      have g3 := kp2.lst hb hx2
      have hx1' : (was.map V.ref)[n]? = some (.ref x) := by rw [List.getElem?_map, hx1]; rfl
      refine ⟨_, rfl, _, rfl, a, t.CC, dx, _, _, rfl, g1, T.cC, T.nW, zaJ _ _, _, rfl, wa, _, _, .ref x, rfl, rfl, SqL.of g2, yP rfl hx1', x, _, rfl, .inl (SqL.of g3), _, _, rfl, rfl, _, rfl, yC (fun e => ?_) (fun e => ?_)⟩
      . have hle : w1.length <= r := by
          have := of_decide_eq_true e
          rw [zk] at this
          omega
        rw [zeE hle] at k2
        obtain ⟨hwl, hfit'⟩ := hfit
        obtain ⟨dxb2, fs2, e3, e4⟩ := hbb.meth (m := "bit")
        refine ⟨fun σ' H' => ∃ m', m' < ws1.length /\ zjG t E B H Q a words m' σ' H', fun _ _ h => h, ?_⟩
        refine ⟨_, rfl, _, rfl, a, t.CC, dx, _, _, rfl, g1, T.cC, T.nW, zaJ _ _, _, rfl, wa, _, _, .ref x, rfl, rfl, SqL.of g2, yP rfl hx1', x, _, rfl, .inl (SqL.of g3), _, _, rfl, rfl, _, _, rfl, rfl, .inl ⟨by decide, by decide⟩,
          _, rfl, B.p, dxb2, fs2, rfl, e3, e4, B, bs2, rfl, hbb, k2.bind fun b3 bs3 v3 H3 hm3 hb3 kp3 hv3 k3 => ?_⟩
        cases hv3
        have hb32 : b3 < 2 := xU hm3
        obtain ⟨w4, ws4, rfl⟩ : ∃ w4 ws4, ws1 = w4 :: ws4 := by
          cases ws1 with
          | nil => have : 2 * (cap - w1.length) = 0 := hfit'; omega
          | cons w4 ws4 => exact ⟨w4, ws4, rfl⟩
        refine ⟨_, _, rfl, rfl, _, rfl, _, _, rfl, rfl, ws4.length, Nat.lt_succ_self _, n + 1, 2 * (r - w1.length) + b3, _, w4, ws4, bs3, rfl, ?_, ?_, hfit', by omega, hb3, kp2.trans kp3, k3⟩
        . show [some (V.ref a), some (V.ref B.p), some (V.int ((n : Int) + 1)), some (V.int (2 * ((r : Int) - ((zm w1).length : Nat)) + (b3 : Int)))] = _
          rw [zk]
          have q1 : ((n : Int) + 1) = ((n + 1 : Nat) : Int) := by omega
          have q2 : (2 * ((r : Int) - (w1.length : Int)) + (b3 : Int)) = ((2 * (r - w1.length) + b3 : Nat) : Int) := by omega
          rw [q1, q2]
        . rw [<- List.tail_drop, hd]
          rfl
      . have hlt : r < w1.length := by
          have : ¬ ((zm w1).length : Int) <= (r : Int) := fun z => e (decide_eq_true z)
          rw [zk] at this
          omega
        have hs1 : w1[r]? = some w1[r] := List.getElem?_eq_getElem hlt
        rw [zdm hs1] at k2
        refine ⟨_, rfl, a, t.CC, dx, _, _, rfl, g1, T.cC, T.nW, zaJ _ _, _, rfl, wa, _, _, .ref x, rfl, rfl, SqL.of g2, yP rfl hx1', _, rfl, x, _, _, nat w1[r], rfl, rfl, SqL.of g3, yP rfl (yf hs1), ?_⟩
        exact k2.pure hbb rfl
end
end Lk
end
section
namespace Lk
open PySem PySem.Spec PyProof.Rows L2
open Sn15 (D bits bitsOf symbol Px)
abbrev zjM : Stmt := top 14
theorem vG {X : Cx} {K : PySem.W.Frag} (h : X.K = K) : qI X (.builtin "len") (fun xs H Q => ∃ p ys, xs = [.ref p] /\ (SqL K H p ys \/ SqT K H p ys) /\ Q (.int ys.length) H) := by
  subst h
  exact zC
theorem zii {X : Cx} {K : PySem.W.Frag} (hK : X.K = K) {es : List Expr} {k : Nat} {t : TGs} {n : Nat} {pos : Pos} (hc : X.calm = true) (h : PGs X es t)
    (hn : (assignEach es X.env).length = n := by rfl) (hst : (assignEach es X.env).findIdx? (·.1) = none := by rfl) : PG X (.Tuple es k pos) (zk2 K n t) := by
  subst hK
  exact zgF hc h hn hst
theorem kY {n j : Nat} (h : j < n) : ixN n (j : Int) = some j := by
  unfold ixN
  rw [if_pos (by omega), if_pos (by omega)]
  simp
theorem zki {α : Type} {l : List α} (hN : l.Nodup) {i j : Nat} {x : α} (a : l[i]? = some x) (b : l[j]? = some x) : i = j := by
  obtain ⟨h1, e1⟩ := List.getElem?_eq_some_iff.mp a
  obtain ⟨h2, e2⟩ := List.getElem?_eq_some_iff.mp b
  exact (List.getElem_inj hN).mp (e1.trans e2.symm)
theorem wT {σ : L2.St} {H : Hp} {A B : Hp -> Prop} (h : A H) : zk0 σ H (fun b H3 => if b = true then A H3 else B H3) := by
  show if true = true then A H else B H
  exact zc7 h
theorem zaF (c : Sn15.Code) (n j : Nat) : zK (c ++ [n]) j = if n = j then zK c j ++ [c.length] else zK c j := by
  unfold zK
  rw [List.length_append, List.length_singleton, List.range_succ, List.filter_append]
  have e1 : List.filter (fun s => (c ++ [n]).getD s 0 == j) (List.range c.length) = List.filter (fun s => c.getD s 0 == j) (List.range c.length) := by
    apply List.filter_congr
    intro i hi
    have := List.mem_range.mp hi
    rw [List.getD_eq_getElem?_getD, List.getD_eq_getElem?_getD, List.getElem?_append_left this]
  rw [e1]
  have e2 : (c ++ [n]).getD c.length 0 = n := by rw [List.getD_eq_getElem?_getD, List.getElem?_append_right (Nat.le_refl _)]; simp
  by_cases h : n = j
  . rw [if_pos h, List.filter_cons, if_pos (by rw [e2]; simpa using h)]; rfl
  . rw [if_neg h, List.filter_cons, if_neg (by rw [e2]; simpa using h)]; simp
theorem ziK (j : Nat) : zK [] j = [] := rfl
theorem qJ (c : Sn15.Code) (j : Nat) : (zK c j).length <= c.length := by
  unfold zK
  exact Nat.le_trans (List.length_filter_le _ _) (by simp)
theorem qv (c : Sn15.Code) : ∀ (k n : Nat), (zJ c n k).length = k
  | 0, _ => rfl
  | k + 1, n => by show (zJ c (n + 1) k).length + 1 = k + 1; rw [qv c k]
theorem yM (c : Sn15.Code) : ∀ (k n j : Nat), j < k -> (zJ c n k)[j]? = some (zK c (n + j))
  | k + 1, n, 0, _ => rfl
  | k + 1, n, j + 1, h => by
    show (zJ c (n + 1) k)[j]? = _
    rw [yM c k (n + 1) j (by omega)]
    congr 2; omega
def zcq (words : List (List Nat)) (i : Nat) : List Int := (List.range i).map fun j => ((words.getD j []).length : Int) * 2 ^ (15 - j)
theorem zeH (c : Sn15.Code) : (zcq ([] :: zJ c 1 15) 16).sum = ((z6 c 15 : Nat) : Int) := by
  have g : ∀ j, j < 15 -> (([] :: zJ c 1 15).getD (j + 1) []) = zK c (1 + j) := fun j hj => by
    rw [List.getD_cons_succ, List.getD_eq_getElem?_getD, yM c 15 1 j hj]; rfl
  have key : ∀ i, i <= 15 -> ((List.range (i + 1)).map fun j => ((([] :: zJ c 1 15).getD j []).length : Int) * 2 ^ (15 - j)).sum = ((z6 c i : Nat) : Int) := by
    intro i
    induction i with
    | zero => intro _; rfl
    | succ i ih =>
      intro hi
      rw [List.range_succ, List.map_append, List.sum_append, ih (by omega)]
      simp only [List.map_cons, List.map_nil, List.sum_cons, List.sum_nil]
      rw [g i (by omega), z6]
      have e1 : 15 - (i + 1) = 14 - i := by omega
      have e2 : 1 + i = i + 1 := by omega
      rw [e1, e2]
      simp
  exact key 15 (Nat.le_refl _)
def zP (H0 : Hp) (t : Ad) (H : Hp) (a : Addr) (c : Sn15.Code) : Prop := ∃ (dx wa : Addr) (was : List Addr) (words : List (List Nat)) (sole : Option Nat), (H a = some (.ins t.CC dx (zaG wa sole)) /\ H wa = some (.lst (was.map V.ref)) /\ xg H was words /\ zcf c words sole) /\ H0 a = none /\ H0 wa = none /\ ∀ x ∈ was, H0 x = none
theorem zP.toAt {H0 : Hp} {t : Ad} {H : Hp} {a : Addr} {c : Sn15.Code} (h : zP H0 t H a c) : yL t H a c := by
  obtain ⟨dx, wa, was, words, sole, h1, _⟩ := h
  exact ⟨dx, wa, was, words, sole, h1⟩
theorem zP.rebase {H0 H1 : Hp} {t : Ad} {H : Hp} {a : Addr} {c : Sn15.Code} (h : zP H1 t H a c) (d : ∀ x, H1 x = none -> H0 x = none) : zP H0 t H a c := by
  obtain ⟨dx, wa, was, words, sole, h1, n1, n2, n3⟩ := h
  exact ⟨dx, wa, was, words, sole, h1, d _ n1, d _ n2, fun x hx => d _ (n3 x hx)⟩
theorem zP.made {H0 : Hp} {t : Ad} {H H' : Hp} {p dx wa : Addr} {was : List Addr} {words : List (List Nat)} {sole : Option Nat} {c : Sn15.Code} (nx : H p = none) (nd : H dx = none) (k : zy [p] (upd (upd H dx (.own p)) p (.ins t.CC dx [])) H')
    (hp : H' p = some (.ins t.CC dx (zaG wa sole))) (h2 : H wa = some (.lst (was.map V.ref))) (h3 : xg H was words) (h4 : zcf c words sole) (dom : ∀ x, H x = none -> H0 x = none) (nwa : H0 wa = none) (nwas : ∀ x ∈ was, H0 x = none) : zP H0 t H' p c /\ zQ H H' := by
  have s : zQ H H' := zQ.made nx nd fun b o e ne => k b o e (by simpa using ne)
  exact ⟨⟨dx, wa, was, words, sole, ⟨hp, s _ _ h2, h3.kept fun x l e => s _ _ e, h4⟩, dom _ nx, nwa, nwas⟩, s⟩
section
variable {P : Program} {w : World} {K : PySem.W.Frag} {mg : Str -> Option Value} {base : Heap} {t : Ad}
def zgh (t : Ad) : Sp := fun vs H Q E => ∃ (la : Addr) (l : List Nat), vs = [.ref la] /\ H la = some (.lst (zm l)) /\ (∀ n ∈ l, n <= 15) /\ l.length <= 4000 /\
  (Sn15.good l = true -> ∀ a H', zP H t H' a l -> zQ H H' -> Q (.ref a) H') /\ (Sn15.good l = false -> ∀ H', E (.ref t.CN) none H')
abbrev zkQ : List Str := ["lengths", "words", "symbol", "length", "used", "filled", "symbols"]
theorem j8 : zq zkQ ["lengths"] (zj zjM) := by trivial
structure zb5 (H Hx : Hp) (D : Addr) (was : List Addr) : Prop where
  lst : Hx D = some (.lst (was.map V.ref))
  nd : was.Nodup
  ne : ∀ x ∈ was, x ≠ D /\ H x = none
  same : zQ H Hx
theorem zr {H Hx : Hp} {a : Addr} {o : HO} (h : zQ H Hx) (n : Hx a = none) : zQ H (upd Hx a o) := fun b u e => by rw [zh (zc (h b u e) n)]; exact h b u e
theorem yH {H Hx : Hp} {a : Addr} {o : HO} (h : zQ H Hx) (n : H a = none) : zQ H (upd Hx a o) := fun b u e => by rw [zh (zc e n)]; exact h b u e
theorem kO (l : List Nat) : zm l = (l.map fun (n : Nat) => (n : Int)).map V.int := by unfold zm; rw [List.map_map]; rfl
theorem kR (l : List Nat) : (zm l).all qT = true := by
  rw [List.all_eq_true]
  intro x hx
  obtain ⟨n, _, rfl⟩ := List.mem_map.mp hx
  rfl
theorem yG {l : List Nat} {i : Nat} {x : V} (h : (zm l)[i]? = some x) : ∃ n, l[i]? = some n /\ x = nat n := by
  unfold zm at h
  rw [List.getElem?_map] at h
  cases e : l[i]? with
  | none => rw [e] at h; cases h
  | some n => rw [e] at h; exact ⟨n, rfl, (Option.some.inj h).symm⟩
theorem zgk {l : List Addr} {i : Nat} {x : V} (h : (l.map V.ref)[i]? = some x) : ∃ a, l[i]? = some a /\ x = .ref a := by
  rw [List.getElem?_map] at h
  cases e : l[i]? with
  | none => rw [e] at h; cases h
  | some n => rw [e] at h; exact ⟨n, rfl, (Option.some.inj h).symm⟩
theorem jt {l : List Addr} {i : Nat} {a : Addr} (h : l[i]? = some a) : (l.map V.ref)[i]? = some (.ref a) := by rw [List.getElem?_map, h]; rfl
theorem zcV (words : List (List Nat)) (i : Nat) : zcq words (i + 1) = zcq words i ++ [((words.getD i []).length : Int) * 2 ^ (15 - i)] := by
  unfold zcq; rw [List.range_succ, List.map_append]; rfl
theorem zcb {H H' : Hp} (s : zQ H H') : ∀ x, H' x = none -> H x = none := fun x h => s.free h
def zlz (H : Hp) (la wa : Addr) (was : List Addr) (l : List Nat) (i : Nat) (σ : L2.St) (Hy : Hp) : Prop := ∃ v2 v3 : Option V, σ = [some (.ref la), some (.ref wa), v2, v3, none, none, none] /\ zb5 H Hy wa was /\
  ∀ (j : Nat) (x : Addr), was[j]? = some x -> Hy x = some (.lst (zm (zK (l.take i) j)))
theorem zju {f : Addr} {fd : FuncData} (F : Fun K "code_of_lengths" "code_of_lengths" zjM f fd) (T : Tx K mg t) (G : yd P w K mg base 1 t.CC "Code" ["self", "words", "sole"] (vU t)) : yg P w K mg base (CXe P w) 3 f fd ["lengths"] (zgh t) := by
  obtain ⟨uL, hL, rL⟩ := T.kLONGEST
  refine F.okE j8 (fun vs H Q E h => ?_) (fun cdv A outer s H vs Q E hr h => ?_)
  . obtain ⟨la, l, rfl, _⟩ := h
    rfl
  . obtain ⟨la, l, rfl, hla, h15, hlen, kg, kb⟩ := h
    refine ⟨_, zd (zcc (i := 1) (own := [("length", 3)]) rfl j8.nd rfl rfl (zeq rfl rfl rfl rfl) (wx (by rfl) T.range (za (zt zT (zM (by rfl) hL rL) zi) zf)) (by show ke zkQ (zj zjM) _ _; exact qC (by decide +kernel))
        (fun _ _ _ _ _ => yz (i := 3) j8.nd rfl (Or.inl rfl)) (fun _ _ _ _ _ => jF) (fun _ _ _ _ _ => yh zf))
      (zd (jW Lv.of.own rfl (zeL (by rfl) T.enum (za (pv 0) zf)) (zgF rfl (jx (yz (i := 2) j8.nd rfl (Or.inl rfl)) (jx (yz (i := 3) j8.nd rfl (Or.inl rfl)) zdG)))
        (zg (yj (qQ PySem.F.plainAttrs_list PySem.F.slot_list_append PySem.F.type_list_append yo (yI zX (pv 1) (pv 3) (fun _ _ => rfl)) (za (pv 2) zf)))))
      (zd (zw (i := 4) j8.nd rfl (Or.inl rfl) (zt y8 (zL zC (by rfl) T.len PySem.boot_len (za (pv 0) zf)) (zL zC (by rfl) T.len PySem.boot_len (za (yI zX (pv 1) zi (fun _ _ => rfl)) zf))))
      (zd (zeA (yh zf) (zeN (pv 1) zi ve))
      (zd (ye (zu xt (pv 4) zi (zD _)) (zg (zB (pmk G Lv.of hr (za (pv 1) (za (qQ PySem.F.plainAttrs_list PySem.F.slot_list_index PySem.F.type_list_index zf5 (pv 0)
          (za (zL (zai rfl) (by rfl) T.max PyProof.Rows.boot_max (za (pv 0) zf)) zf)) zf))))) zH)
      (zd (zw (i := 5) j8.nd rfl (Or.inl rfl) (zL (zdA rfl) (by rfl) T.sum PyProof.Rows.boot_sum (za (zhP (own := [("length", 3), ("symbols", 6)]) rfl j8.nd (zeL (by rfl) T.enum (za (pv 1) zf)) (by show ke zkQ (zj zjM) _ _; exact qC (by decide +kernel))
          (fun _ _ _ _ _ => by exact zii (K := K) (n := 2) rfl rfl (jx (yz (i := 3) j8.nd (by rfl) (Or.inl (by rfl)) (Or.inr (by rfl))) (jx (yz (i := 6) j8.nd (by rfl) (Or.inl (by rfl)) (Or.inr (by rfl))) zdG))) (fun _ _ _ _ _ => jF)
          (fun _ _ _ _ _ => by exact zt xa (zL (vG (K := K) rfl) (by rfl) T.len PySem.boot_len (za (pv 6) zf)) (zt y8 (zM (by rfl) hL rL) (pv 3)))) zf)))
      (zd (ye (zu zcH (pv 5) (zt xa zi (zM (by rfl) hL rL)) (zD _)) (zg (zY Lv.of (by rfl) T.gN T.xN)) zH)
      (zg (zB (pmk G Lv.of hr (za (pv 1) (za zb9 zf))))))))))), ?_⟩
    refine ⟨_, _, rfl, rfl, _, rfl, by decide, by decide, fun wa hwa => zfL (lo := 0) (n := 16) (fun i Hx => ∃ was : List Addr, was.length = i /\ zb5 H Hx wa was /\ ∀ x ∈ was, Hx x = some (.lst [])) ?_ ?_ ?_⟩
    . exact ⟨[], rfl, ⟨zb, List.nodup_nil, fun x hx => absurd hx (by simp), zr (zQ.refl H) hwa⟩, fun x hx => absurd hx (by simp)⟩
    . rintro i Hx hi ⟨was, hwl, NL, hem⟩
      refine ⟨rfl, wT ⟨Nat.zero_le _, fun x hx => ⟨was.map V.ref, ?_, ?_, was ++ [x], ?_, ⟨?_, ?_, ?_, ?_⟩, ?_⟩⟩⟩
      . rw [zh (zc NL.lst hx)]; exact NL.lst
      . rw [List.length_map, hwl]; exact Nat.lt_trans hi (by decide)
      . rw [List.length_append, hwl]; rfl
      . rw [zb, List.map_append]; rfl
      . refine List.nodup_append.mpr ⟨NL.nd, by simp, fun a ha b hb => ?_⟩
        rw [List.mem_singleton.mp hb]
        exact zc (hem a ha) hx
      . intro y hy
        rcases List.mem_append.mp hy with z | z
        . exact NL.ne y z
        . rw [List.mem_singleton.mp z]; exact ⟨(zc NL.lst hx).symm, NL.same.free hx⟩
      . exact yH (zr NL.same hx) hwa
      . intro y hy
        rcases List.mem_append.mp hy with z | z
        . rw [zh (NL.ne y z).1, zh (zc (hem y z) hx)]; exact hem y z
        . rw [List.mem_singleton.mp z, zh (zc NL.lst hx).symm]; exact zb
    . rintro Hx ⟨was, hwl, NL, hem⟩
      refine ⟨_, rfl, la, zm l, rfl, SqL.of (NL.same _ _ hla), zfP (K := K) (a := la) (xs := zm l) (zlz H la wa was l) ⟨none, none, rfl, NL, fun j x hx => ?_⟩ (fun i σ Hy _ ⟨_, _, _, N2, _⟩ => SqL.of (N2.same _ _ hla)) ?_ ?_⟩
      . rw [hem x (List.mem_of_getElem? hx)]; rfl
      . rintro i x σ Hy Tt hx ⟨v2, v3, rfl, N2, hw2⟩ hTt
        obtain ⟨n, hn, rfl⟩ := yG hx
        have hn15 := h15 n (List.mem_of_getElem? hn)
        have hil : i < l.length := (List.getElem?_eq_some_iff.mp hn).1
        have htl : (l.take i).length = i := by rw [List.length_take]; omega
        have htk : l.take (i + 1) = l.take i ++ [n] := by
          rw [List.take_succ_eq_append_getElem hil]
          rw [List.getElem?_eq_getElem hil] at hn
          rw [Option.some.inj hn]
        obtain ⟨xw, hxw⟩ : ∃ xw, was[n]? = some xw := ⟨_, List.getElem?_eq_getElem (by omega)⟩
        have hcw := hw2 n xw hxw
        have m1 := List.mem_of_getElem? hxw
        refine ⟨Tt, _, rfl, SqT.of zb, rfl, _, _, rfl, _, _, rfl, rfl, _, rfl, _, rfl, wa, _, _, .ref xw, rfl, rfl, SqL.of (by rw [zh (zc N2.lst hTt)]; exact N2.lst), yP rfl (jt hxw),
          .inl ⟨rfl, _, SqL.of (by rw [zh (zc hcw hTt)]; exact hcw)⟩, _, rfl, xw, _, _, rfl, rfl, (by rw [zh (zc hcw hTt)]; exact hcw), ?_, ?_⟩
        . rw [zk]
          have := qJ (l.take i) n
          exact Nat.lt_of_le_of_lt this (Nat.lt_of_le_of_lt (by omega : _ <= 4000) (by decide))
        . refine ⟨_, _, rfl, ⟨?_, N2.nd, N2.ne, yH (zr N2.same hTt) (N2.ne xw m1).2⟩, fun j y hy => ?_⟩
          . rw [zh (N2.ne xw m1).1.symm, zh (zc N2.lst hTt)]; exact N2.lst
          . rw [htk, zaF, htl]
            by_cases hjn : n = j
            . subst hjn
              have : y = xw := Option.some.inj (hy.symm.trans hxw)
              subst this
              rw [zb, if_pos rfl, yt]; rfl
            . have hne : y ≠ xw := fun z => hjn (zki N2.nd hxw (by rw [<- z]; exact hy))
              rw [zh hne, zh (zc (hw2 j y hy) hTt), if_neg hjn]
              exact hw2 j y hy
      . rintro σ Hy ⟨v2, v3, rfl, N2, hw2⟩
        rw [zk, List.take_length] at hw2
        obtain ⟨x0, jm, rfl⟩ : ∃ x0 jm, was = x0 :: jm := by
          cases was with
          | nil => simp at hwl
          | cons x0 jm => exact ⟨x0, jm, rfl⟩
        have hx0 := hw2 0 x0 rfl
        have hla2 := N2.same _ _ hla
        refine ⟨_, rfl, la, _, rfl, .inl (SqL.of hla2), _, rfl, wa, _, _, .ref x0, rfl, rfl, SqL.of N2.lst, yP (j := 0) rfl rfl, x0, _, rfl, .inl (SqL.of hx0), _, _, rfl, rfl, ?_⟩
        refine ⟨Nat.zero_le _, fun e he => ⟨_, rfl, wa, _, _, 0, rfl, rfl, (by rw [zh (zc N2.lst he)]; exact N2.lst), kY (j := 0) (by simp), ?_⟩⟩
        rw [zk, zk]
        have nwe : wa ≠ e := zc N2.lst he
        generalize hH6 : upd (upd Hy e (.lst [])) wa (.lst ((List.map V.ref (x0 :: jm)).set 0 (.ref e))) = H6
        have l6 : H6 wa = some (.lst ((e :: jm).map V.ref)) := by rw [<- hH6, zb]; rfl
        have s6 : zQ H H6 := by rw [<- hH6]; exact yH (zr N2.same he) hwa
        have w6 : xg H6 (e :: jm) ([] :: zJ l 1 15) := by
          refine ⟨by simp [qv]; simpa using hwl, fun j x hx => ?_⟩
          cases j with
          | zero =>
            have : e = x := Option.some.inj hx
            subst this
            exact ⟨[], rfl, by rw [<- hH6, zh nwe.symm, zb]; rfl⟩
          | succ j =>
            have hx' : jm[j]? = some x := hx
            have hj : j < jm.length := (List.getElem?_eq_some_iff.mp hx').1
            have hj15 : j < 15 := by have : jm.length + 1 = 16 := hwl; omega
            have hm : x ∈ x0 :: jm := List.mem_of_getElem? (i := j + 1) hx'
            have := hw2 (j + 1) x hx'
            refine ⟨_, yM l 15 1 j hj15, ?_⟩
            rw [<- hH6, zh (N2.ne x hm).1, zh (zc this he), this, Nat.add_comm 1 j]
        have la6 := s6 _ _ hla
        have nwas : ∀ x ∈ e :: jm, H x = none := fun x hx => by
          rcases List.mem_cons.mp hx with z | z
          . rw [z]; exact N2.same.free he
          . exact (N2.ne x (List.mem_cons_of_mem _ z)).2
        have hsl := qJ l 0
        refine ⟨_, rfl, rfl, _, rfl, yC (fun eu => ?_) (fun eu => ?_)⟩
        . have hu : l.length - (zK l 0).length = 1 := by have := V.int.inj (of_decide_eq_true eu); omega
          have hgood : Sn15.good l = true := (wf h15).mpr (.inl hu)
          obtain ⟨sy, hs1, hs2, hs3, hs4⟩ := zin hu
          have hgs : l[sy]? = some (l.getD sy 0) := by rw [List.getD_eq_getElem?_getD, List.getElem?_eq_getElem hs2]; rfl
          refine ⟨_, rfl, _, rfl, .inl ⟨rfl, _, SqL.of la6⟩, _, rfl, la, l.map fun (n : Nat) => (n : Int), rfl, SqL.of (by rw [<- kO]; exact la6), by rw [List.length_map]; omega, fun M hM hMx => ?_⟩
          have hMs : M = ((l.getD sy 0 : Nat) : Int) := by
            obtain ⟨m, hm, rfl⟩ := List.mem_map.mp hM
            have h1 := hMx ((l.getD sy 0 : Nat) : Int) (List.mem_map.mpr ⟨_, List.mem_of_getElem? hgs, rfl⟩)
            obtain ⟨j, hj⟩ := List.getElem?_of_mem hm
            have hjl : j < l.length := (List.getElem?_eq_some_iff.mp hj).1
            by_cases hjs : j = sy
            . subst hjs
              rw [hj] at hgs
              rw [<- Option.some.inj hgs]
            . have := hs4 j hjl hjs
              rw [List.getD_eq_getElem?_getD, hj] at this
              have h0 : m = 0 := this
              rw [h0] at h1
              omega
          subst hMs
          refine ⟨la, zm l, _, sy, _, rfl, rfl, SqL.of la6, rfl, kR l, yf hgs, beq_self_eq_true _, fun m z hm hz => ?_, ?_⟩
          . obtain ⟨n, hn, rfl⟩ := yG hz
            have hml : m < l.length := (List.getElem?_eq_some_iff.mp hn).1
            have := hs4 m hml (by omega)
            rw [List.getD_eq_getElem?_getD, hn] at this
            have h0 : n = 0 := this
            subst h0
            show ((0 : Int) == ((l.getD sy 0 : Nat) : Int)) = false
            rw [beq_eq_false_iff_ne]
            omega
          . intro p dx hp hdx hne
            refine ⟨p, wa, dx, some sy, rfl, zb, fun H' e1 kp => ⟨rfl, ?_⟩⟩
            obtain ⟨c1, c2⟩ := zP.made (H0 := H) (c := l) hp hdx kp e1 l6 w6 ⟨yT hs1, hs2⟩ (zcb s6) hwa nwas
            exact kg hgood p H' c1 (s6.trans c2)
        . have hu : ¬ l.length - (zK l 0).length = 1 := fun z => eu (decide_eq_true (by
            have : (l.length : Int) - ((zK l 0).length : Int) = 1 := by omega
            show V.int ((l.length : Int) - ((zK l 0).length : Int)) = V.int 1
            rw [this]))
          refine ⟨_, rfl, wa, _, rfl, SqL.of l6, fun D2 hD2 => zg4 (K := K) (a := wa) (xs := (e :: jm).map V.ref) (fun i Hz => zQ H6 Hz /\ Hz D2 = some (.lst ((zcq ([] :: zJ l 1 15) i).map V.int))) ⟨zr (zQ.refl _) hD2, zb⟩ (fun i Hz _ h => SqL.of (h.1 _ _ l6)) ?_ ?_⟩
          . rintro i x Hz Tt hx ⟨sz, dz⟩ hTt
            obtain ⟨y, hy, rfl⟩ := zgk hx
            obtain ⟨w1, hw1, hy1⟩ := w6.at_ i y hy
            have hi16 : i < 16 := by have := (List.getElem?_eq_some_iff.mp hy).1; simp at this hwl; omega
            have hy2 := sz _ _ hy1
            refine ⟨Tt, _, rfl, SqT.of zb, rfl, _, _, rfl, _, _, rfl, rfl, rfl, wT ⟨_, rfl, y, _, rfl, .inl (SqL.of (by rw [zh (zc hy2 hTt)]; exact hy2)), _, rfl, _, _, rfl, rfl, _, _, rfl, rfl, ⟨?_, ?_, ?_⟩, _, (by rw [zh (zc dz hTt)]; exact dz), ?_, ?_, ?_⟩⟩
            . show (0 : Int) <= 15 - (i : Int)
              omega
            . show (15 : Int) - (i : Int) <= 1000000
              omega
            . have h1 : w1.length <= 4000 := by
                cases i with
                | zero => have : [] = w1 := Option.some.inj hw1
                          subst this; exact Nat.zero_le _
                | succ i =>
                  have : (zJ l 1 15)[i]? = some w1 := hw1
                  rw [yM l 15 1 i (by omega)] at this
                  have e5 := Option.some.inj this
                  rw [<- e5]
                  exact Nat.le_trans (qJ _ _) hlen
              rw [zk]
              omega
            . rw [List.length_map]
              unfold zcq
              rw [List.length_map, List.length_range]
              exact Nat.lt_trans hi16 (by decide)
            . exact yH (zr sz hTt) hD2
            . rw [zb, zcV, List.map_append]
              have e5 : ([] :: zJ l 1 15).getD i [] = w1 := by rw [List.getD_eq_getElem?_getD, hw1]; rfl
              have e6 : ((15 : Int) - (i : Int)).toNat = 15 - i := by omega
              show some (HO.lst (_ ++ [V.int (((zm w1).length : Nat) * 2 ^ ((15 : Int) - (i : Int)).toNat)])) = _
              rw [e5, e6, zk]
              rfl
          . rintro Hz ⟨sz, dz⟩
            have hlen16 : ((e :: jm).map V.ref).length = 16 := by rw [List.length_map]; exact hwl
            rw [hlen16] at dz
            refine ⟨D2, _, rfl, SqL.of dz, ?_⟩
            rw [zeH]
            refine ⟨_, rfl, _, _, rfl, rfl, ⟨by decide, by decide, by decide⟩, rfl, _, rfl, yC (fun ef => ?_) (fun ef => ?_)⟩
            . have hne : ¬ z6 l 15 = 2 ^ 15 := fun z => by
                rw [z] at ef
                exact absurd ef (by decide)
              refine kb ?_ Hz
              cases hg : Sn15.good l with
              | false => rfl
              | true =>
                rcases (wf h15).mp hg with z | z
                . exact absurd z hu
                . exact absurd z hne
            . have hft : z6 l 15 = 2 ^ 15 := by
                have : decide (V.int ((z6 l 15 : Nat) : Int) = V.int (1 * 2 ^ (15 : Int).toNat)) = true := by
                  cases q : decide (V.int ((z6 l 15 : Nat) : Int) = V.int (1 * 2 ^ (15 : Int).toNat)) with
                  | true => rfl
                  | false => rw [q] at ef; exact absurd rfl ef
                have := V.int.inj (of_decide_eq_true this)
                have e7 : (1 : Int) * 2 ^ (15 : Int).toNat = 32768 := by decide
                rw [e7] at this
                show z6 l 15 = 32768
                omega
              have hgood : Sn15.good l = true := (wf h15).mpr (.inr hft)
              refine ⟨_, rfl, ?_⟩
              intro p dx hp hdx hne
              refine ⟨p, wa, dx, none, rfl, zb, fun H' e1 kp => ⟨rfl, ?_⟩⟩
              have hns : ∀ s, ((List.range l.length).filter fun s => l.getD s 0 != 0) ≠ [s] := fun s z => by
                have q := qF l
                rw [z] at q
                have : ([s] : List Nat).length = 1 := rfl
                omega
              obtain ⟨c1, c2⟩ := zP.made (H0 := H) (c := l) hp hdx kp e1 (sz _ _ l6) (w6.kept fun x l e => sz _ _ e) (show zcf l ([] :: zJ l 1 15) none from ⟨_, rfl, zds hft, xx l hns⟩) (zcb (s6.trans sz)) hwa nwas
              exact kg hgood p H' c1 ((s6.trans sz).trans c2)
end
end Lk
end
section
namespace Lk
open PySem PySem.Spec PyProof.Rows L2
open Sn15 (D bits bitsOf symbol Px value back again cached)
abbrev zeC : Stmt := z0 (top 9) 0
abbrev zkj : Stmt := z0 (top 9) 1
abbrev zis : Stmt := z0 (top 9) 2
abbrev zbv : Stmt := z0 (top 9) 3
abbrev zeD : Stmt := top 23
abbrev zg5 : Stmt := top 24
structure Ca where
  p : Addr
  l : Addr
  c : Addr
def xy (w s k : Nat) (l c : Addr) : List (Str × V) := [("width", nat w), ("size", nat s), ("colours", .ref l), ("depth", nat k), ("cache", .ref c)]
theorem jY (w s k : Nat) (l c : Addr) : (xy w s k l c).lookup ("width" : Str) = some (nat w) := zN
theorem wC (w s k : Nat) (l c : Addr) : (xy w s k l c).lookup ("size" : Str) = some (nat s) := (zp (by decide +kernel)).trans zN
theorem yS (w s k : Nat) (l c : Addr) : (xy w s k l c).lookup ("colours" : Str) = some (.ref l) := (zp (by decide +kernel)).trans ((zp (by decide +kernel)).trans zN)
theorem zas (w s k : Nat) (l c : Addr) : (xy w s k l c).lookup ("depth" : Str) = some (nat k) := (zp (by decide +kernel)).trans ((zp (by decide +kernel)).trans ((zp (by decide +kernel)).trans zN))
theorem wU (w s k : Nat) (l c : Addr) : (xy w s k l c).lookup ("cache" : Str) = some (.ref c) :=
  (zp (by decide +kernel)).trans ((zp (by decide +kernel)).trans ((zp (by decide +kernel)).trans ((zp (by decide +kernel)).trans zN)))
theorem zcx (w s k : Nat) (l c : Addr) {m : Str} (h1 : (m == ("width" : Str)) = false) (h2 : (m == ("size" : Str)) = false) (h3 : (m == ("colours" : Str)) = false) (h4 : (m == ("depth" : Str)) = false) (h5 : (m == ("cache" : Str)) = false) : (xy w s k l c).lookup m = none :=
  (zp h1).trans ((zp h2).trans ((zp h3).trans ((zp h4).trans ((zp h5).trans rfl))))
def zn (l : List Px) : List Nat := l.map Px.word
structure zS (t : Ad) (H : Hp) (C : Ca) (w s k : Nat) (l : List Px) : Prop where
  ins : ∃ dx, H C.p = some (.ins t.CV dx (xy w s k C.l C.c))
  lst : H C.l = some (.lst (zm (zn l)))
  cch : H C.c = some (.lst (zm (xO k l)))
  ne : C.l ≠ C.c
  ok : ∀ p ∈ l, yq p
  k11 : k <= 11
theorem zS.neL {t : Ad} {H : Hp} {C : Ca} {w s k : Nat} {l : List Px} (h : zS t H C w s k l) : C.p ≠ C.l := by
  obtain ⟨dx, e⟩ := h.ins
  exact yO e h.lst (by intro z; cases z)
theorem zS.neC {t : Ad} {H : Hp} {C : Ca} {w s k : Nat} {l : List Px} (h : zS t H C w s k l) : C.p ≠ C.c := by
  obtain ⟨dx, e⟩ := h.ins
  exact yO e h.cch (by intro z; cases z)
theorem zS.kept {t : Ad} {H H' : Hp} {C : Ca} {w s k : Nat} {l : List Px} {B : Bi} {bs : List Bool} (h : zS t H C w s k l) (b : zo t H B bs) (kp : zy [B.p] H H') : zS t H' C w s k l := by
  obtain ⟨dx, e⟩ := h.ins
  exact ⟨⟨dx, kp.ins b e (by decide +kernel)⟩, kp.lst b h.lst, kp.lst b h.cch, h.ne, h.ok, h.k11⟩
theorem zS.meth {t : Ad} {H : Hp} {C : Ca} {w s k : Nat} {l : List Px} (h : zS t H C w s k l) {m : Str} (h1 : (m == ("width" : Str)) = false := by decide +kernel) (h2 : (m == ("size" : Str)) = false := by decide +kernel) (h3 : (m == ("colours" : Str)) = false := by decide +kernel)
    (h4 : (m == ("depth" : Str)) = false := by decide +kernel) (h5 : (m == ("cache" : Str)) = false := by decide +kernel) : ∃ dx fs, H C.p = some (.ins t.CV dx fs) /\ fs.lookup m = none := by
  obtain ⟨dx, e⟩ := h.ins
  exact ⟨dx, _, e, zcx _ _ _ _ _ h1 h2 h3 h4 h5⟩
section
variable {P : Program} {w : World} {K : PySem.W.Frag} {mg : Str -> Option Value} {base : Heap} {t : Ad}
def wc (t : Ad) : Sp := fun vs H Q _ => ∃ (p dx : Addr) (w h k : Nat), vs = [.ref p, nat w, nat h, nat k] /\ H p = some (.ins t.CV dx []) /\ w <= 2 ^ 20 /\ k <= 11 /\
  ∀ H' C, C.p = p -> zS t H' C w (w * h) k [] -> zy [p] H H' -> H C.l = none -> H C.c = none -> Q .non H'
theorem zhb : zq ["self", "width", "height", "depth"] ["self", "width", "height", "depth"] (zj zeC) := by trivial
theorem vL (n : Nat) : (List.replicate n ([V.int 0] : List V)).flatten = zm (List.replicate n 0) := by
  induction n with
  | zero => rfl
  | succ n ih => rw [List.replicate_succ, List.flatten_cons, ih]; rfl
theorem zf8 {f : Addr} {fd : FuncData} (F : Fun K "__init__" "Canvas.__init__" zeC f fd) (T : Tx K mg t) : yg P w K mg base (CXe P w) 1 f fd ["self", "width", "height", "depth"] (wc t) := by
  refine F.okE zhb (fun vs H Q E h => ?_) (fun cdv A outer s H vs Q E hr h => ?_)
  . obtain ⟨p, dx, w, h, k, rfl, _⟩ := h
    rfl
  . obtain ⟨p, dx, w, h, k, rfl, hp, hw, hk, kk⟩ := h
    refine ⟨_, zd (zU (pv 0) (pv 1) rfl) (zd (zU (pv 0) (zt jh (pv 1) (pv 2)) rfl) (zd (zU (pv 0) (yh zf) rfl) (zd (zU (pv 0) (pv 3) rfl)
      (zg (zU (pv 0) (zt km (yh (za zi zf)) (zt xa zi (pv 3))) rfl))))), ?_⟩
    refine ⟨_, rfl, _, rfl, p, t.CV, dx, _, rfl, hp, T.cV, T.vW, (by show 0 < 1000; decide), ?_⟩
    refine ⟨_, rfl, _, rfl, _, _, rfl, rfl, .inl ⟨by omega, by omega⟩, _, rfl, p, t.CV, dx, _, rfl, zb, T.cV, T.vS, (by show 1 < 1000; decide), ?_⟩
    generalize hH2 : upd (upd H p _) p _ = H2
    have p2 : H2 p = some (.ins t.CV dx [("width", nat w), ("size", nat (w * h))]) := by
      rw [<- hH2, zb]
      show some (HO.ins t.CV dx [("width", nat w), ("size", V.int ((w : Int) * (h : Int)))]) = _
      rw [<- Int.natCast_mul]
    have k2 : zy [p] H H2 := by rw [<- hH2]; exact (zy.put (by simp)).trans (zy.put (by simp))
    refine ⟨Nat.zero_le _, fun l hl => ⟨_, rfl, p, t.CV, dx, _, rfl, (by rw [zh (zc p2 hl)]; exact p2), T.cV, T.vC, (by show 2 < 1000; decide), ?_⟩⟩
    have npl : p ≠ l := zc p2 hl
    have nHl : H l = none := k2.free hl (by simp; exact npl.symm)
    generalize hH3 : upd (upd H2 l _) p _ = H3
    have p3 : H3 p = some (.ins t.CV dx [("width", nat w), ("size", nat (w * h)), ("colours", .ref l)]) := by rw [<- hH3, zb]; rfl
    have l3 : H3 l = some (.lst []) := by rw [<- hH3, zh npl.symm]; exact zb
    have k3 : zy [p] H H3 := by rw [<- hH3]; exact (k2.trans (zy.new hl)).trans (zy.put (by simp))
    refine ⟨_, rfl, _, rfl, p, t.CV, dx, _, rfl, p3, T.cV, T.vD, (by show 3 < 1000; decide), ?_⟩
    generalize hH4 : upd H3 p _ = H4
    have p4 : H4 p = some (.ins t.CV dx [("width", nat w), ("size", nat (w * h)), ("colours", .ref l), ("depth", nat k)]) := by rw [<- hH4, zb]; rfl
    have l4 : H4 l = some (.lst []) := by rw [<- hH4, zh npl.symm]; exact l3
    have k4 : zy [p] H H4 := by rw [<- hH4]; exact k3.trans (zy.put (by simp))
    have hpow : (2 : Nat) ^ k <= 2 ^ 11 := Nat.pow_le_pow_right (by decide) hk
    have h2 : (1 : Int) * 2 ^ ((k : Nat) : Int).toNat = ((2 ^ k : Nat) : Int) := by rw [Int.toNat_natCast, two_pow_int]; omega
    refine ⟨(by show 1 <= sizeLine; decide), fun x hx => ⟨_, rfl, _, _, rfl, rfl, ⟨by omega, by omega, by decide⟩, x, _, _, rfl, rfl, zb, ?_, ?_, ?_, fun c hc => ⟨_, rfl, p, t.CV, dx, [("width", nat w), ("size", nat (w * h)), ("colours", .ref l), ("depth", nat k)], rfl, ?_, T.cV, T.vH, (by show 4 < 1000; decide), ?_⟩⟩⟩
    . rw [h2]
      generalize (2 : Nat) ^ k = m at hpow
      omega
    . rw [h2]
      generalize (2 : Nat) ^ k = m at hpow
      omega
    . rw [h2, Int.toNat_natCast]
      show 1 * 2 ^ k <= 2 ^ 24
      generalize (2 : Nat) ^ k = m at hpow
      omega
    . rw [zh (zc (o := _) (by rw [zh (zc p4 hx)]; exact p4) hc), zh (zc p4 hx)]; exact p4
    . have p5 : upd H4 x (.lst [V.int 0]) p = some (.ins t.CV dx [("width", nat w), ("size", nat (w * h)), ("colours", .ref l), ("depth", nat k)]) := by rw [zh (zc p4 hx)]; exact p4
      have l5 : upd H4 x (.lst [V.int 0]) l = some (.lst []) := by rw [zh (zc l4 hx)]; exact l4
      have npc : p ≠ c := zc p5 hc
      have nlc : l ≠ c := zc l5 hc
      have k5 : zy [p] H (upd H4 x (.lst [V.int 0])) := k4.trans (zy.new hx)
      refine kk _ ⟨p, l, c⟩ rfl ⟨⟨dx, ?_⟩, ?_, ?_, nlc, fun q hq => absurd hq (by simp), hk⟩ ((k5.trans (zy.new hc)).trans (zy.put (by simp))) nHl (k5.free hc (by simp; exact npc.symm))
      . rw [zb]; rfl
      . rw [zh npl.symm, zh nlc]; exact l5
      . rw [zh npc.symm, zb, h2, Int.toNat_natCast, vL, zcY]
def zd7 (t : Ad) : Sp := fun vs H Q _ => ∃ (C : Ca) (w s k : Nat) (l : List Px) (p : Px), vs = [.ref C.p, nat p.word] /\ zS t H C w s k l /\ yq p /\ l.length < sizeLine /\
  ∀ H', zS t H' C w s k (l ++ [p]) -> zy [C.l, C.c] H H' -> Q .non H'
theorem zky : zq ["self", "colour"] ["self", "colour"] (zj zkj) := by trivial
theorem zfQ {p : Px} {k : Nat} (hk : k <= 32) : Builtin.bitAnd (506832829 * ((p.word : Nat) : Int)) 4294967295 / 2 ^ ((32 : Int) - ((k : Nat) : Int)).toNat = ((Sn15.hash k p : Nat) : Int) := by
  have e : ((32 : Int) - ((k : Nat) : Int)).toNat = 32 - k := by omega
  rw [bitAnd_m32, e, two_pow_int]
  unfold Sn15.hash
  have e2 : (506832829 * ((p.word : Nat) : Int)) % 4294967296 = ((0x1E35A7BD * p.word % 2 ^ 32 : Nat) : Int) := by omega
  rw [e2, <- Int.natCast_ediv]
theorem ziR {f : Addr} {fd : FuncData} (F : Fun K "put" "Canvas.put" zkj f fd) (T : Tx K mg t) : yg P w K mg base (CXe P w) 1 f fd ["self", "colour"] (zd7 t) := by
  obtain ⟨uS, hS, rS⟩ := T.kSPREAD
  obtain ⟨uL, hL, rL⟩ := T.kLOW
  refine F.okE zky (fun vs H Q E h => ?_) (fun cdv A outer s H vs Q E hr h => ?_)
  . obtain ⟨C, w, s, k, l, p, rfl, _⟩ := h
    rfl
  . obtain ⟨C, w, s, k, l, p, rfl, hC, hp, hl, kk⟩ := h
    obtain ⟨dx, hi⟩ := hC.ins
    refine ⟨_, zd (yj (qQ PySem.F.plainAttrs_list PySem.F.slot_list_append PySem.F.type_list_append yo (zx (pv 0) rfl) (za (pv 1) zf)))
      (zg (ye (zu jk (zx (pv 0) rfl) zi (zD _)) (zg (zeA (pv 1) (zeN (zx (pv 0) rfl) (zt qY (zt xI (zt jh (zM rfl hS rS) (pv 1)) (zM rfl hL rL)) (zt y8 zi (zx (pv 0) rfl))) ve))) zH)), ?_⟩
    have hlen : (zm (zn l)).length < sizeLine := by rw [zk]; unfold zn; rw [List.length_map]; exact hl
    have e1 : zm (zn l) ++ [nat p.word] = zm (zn (l ++ [p])) := by unfold zn; rw [List.map_append, yt]; rfl
    have hi1 : upd H C.l (.lst (zm (zn (l ++ [p])))) C.p = some (.ins t.CV dx (xy w s k C.l C.c)) := by rw [zh hC.neL]; exact hi
    have okp : ∀ q ∈ l ++ [p], yq q := fun q hq => by
      rcases List.mem_append.mp hq with z | z
      . exact hC.ok q z
      . rw [List.mem_singleton.mp z]; exact hp
    refine ⟨_, rfl, C.p, t.CV, dx, _, _, rfl, hi, T.cV, T.vC, yS _ _ _ _ _, .inl ⟨rfl, _, SqL.of hC.lst⟩, _, rfl, C.l, _, _, rfl, rfl, hC.lst, hlen, ?_⟩
    rw [e1]
    refine ⟨_, rfl, C.p, t.CV, dx, _, _, rfl, hi1, T.cV, T.vD, zas _ _ _ _ _, _, _, rfl, rfl, _, rfl, yC (fun e => ?_) (fun e => ?_)⟩
    . have hk0 : 0 < k := by have := of_decide_eq_true e; omega
      have hk := hC.k11
      have hh := zhY k p (by omega)
      refine ⟨_, rfl, _, rfl, C.p, t.CV, dx, _, _, rfl, hi1, T.cV, T.vH, wU _ _ _ _ _, _, rfl, _, _, rfl, rfl, .inl ⟨by decide, by decide⟩, _, _, rfl, rfl, _, rfl, C.p, t.CV, dx, _, _, rfl, hi1, T.cV, T.vD, zas _ _ _ _ _, _, _, rfl, rfl, _, _, rfl, rfl, ?_,
        C.c, _, _, Sn15.hash k p, rfl, rfl, (by rw [zh hC.ne.symm]; exact hC.cch), ?_, ?_⟩
      . show (0 : Int) <= 32 - (k : Int)
        omega
      . rw [zfQ (by omega), zk, zcZ]
        exact kY hh
      . refine kk _ ⟨⟨dx, ?_⟩, ?_, ?_, hC.ne, okp, hC.k11⟩ ((zy.put (by simp)).trans (zy.put (by simp)))
        . rw [zh hC.neC]; exact hi1
        . rw [zh hC.ne]; exact zb
        . rw [zb, zaQ k l p hk0 (by omega), j1]
    . have hk0 : k = 0 := by
        have : ¬ (0 : Int) < (k : Int) := fun z => e (decide_eq_true z)
        omega
      subst hk0
      refine kk _ ⟨⟨dx, hi1⟩, zb, ?_, hC.ne, okp, hC.k11⟩ (zy.put (by simp))
      rw [zh hC.ne.symm, hC.cch, jz, jz]
def zdh (t : Ad) : Sp := fun vs H Q _ => ∃ (C : Ca) (w s k i : Nat) (l : List Px), vs = [.ref C.p, nat i] /\ zS t H C w s k l /\ 0 < k /\ i < 2 ^ k /\ l.length < sizeLine /\
  ∀ H', zS t H' C w s k (l ++ [cached k l i]) -> zy [C.l, C.c] H H' -> Q .non H'
theorem ziU : zq ["self", "slot"] ["self", "slot"] (zj zis) := by trivial
theorem zg0 {f : Addr} {fd : FuncData} (F : Fun K "put_cached" "Canvas.put_cached" zis f fd) (T : Tx K mg t) (G : zI P w K mg base 1 t.CV "put" ["self", "colour"] (zd7 t)) : yg P w K mg base (CXe P w) 2 f fd ["self", "slot"] (zdh t) := by
  refine F.okE ziU (fun vs H Q E h => ?_) (fun cdv A outer s H vs Q E hr h => ?_)
  . obtain ⟨C, w, s, k, i, l, rfl, _⟩ := h
    rfl
  . obtain ⟨C, w, s, k, i, l, rfl, hC, hk, hi, hl, kk⟩ := h
    obtain ⟨dx, hin⟩ := hC.ins
    obtain ⟨dx2, fs, e1, e2⟩ := hC.meth (m := "put")
    refine ⟨_, zg (yj (pm G Lv.of T.cV hr (pv 0) (za (yI zX (zx (pv 0) rfl) (pv 1) (fun _ _ => rfl)) zf))), ?_⟩
    refine ⟨_, rfl, C.p, dx2, fs, rfl, e1, e2, _, rfl, C.p, t.CV, dx, _, _, rfl, hin, T.cV, T.vH, wU _ _ _ _ _, _, rfl, C.c, _, _, _, rfl, rfl, SqL.of hC.cch, yP rfl (yf (zcw k l i hk hi)),
      C, w, s, k, l, cached k l i, rfl, hC, zdN hC.ok, hl, ?_⟩
    exact fun H' c kp => kk H' c kp
def vK (t : Ad) : Sp := fun vs H Q E => ∃ (C : Ca) (w s k n d : Nat) (l : List Px), vs = [.ref C.p, nat n, nat d] /\ zS t H C w s k l /\ 0 < d /\ s <= 2 ^ 23 /\ n <= 2 ^ 50 /\ d <= 2 ^ 50 /\ l.length <= s /\
  (d <= l.length /\ l.length + n <= s -> ∀ H', zS t H' C w s k (again n d l) -> zy [C.l, C.c] H H' -> Q .non H') /\ (¬ (d <= l.length /\ l.length + n <= s) -> ∀ H', E (.ref t.CN) none H')
theorem vE : zq ["self", "length", "distance", "begin", "place"] ["self", "length", "distance"] (zj zbv) := by trivial
theorem wO : ∀ (i d : Nat) (l : List Px), again (i + 1) d l = again i d l ++ [(again i d l).getD ((again i d l).length - d) Sn15.black]
  | 0, d, l => rfl
  | i + 1, d, l => by rw [xW, wO i, <- xW]
theorem zdP {f : Addr} {fd : FuncData} (F : Fun K "repeat" "Canvas.repeat" zbv f fd) (T : Tx K mg t) (G : zI P w K mg base 1 t.CV "put" ["self", "colour"] (zd7 t)) : yg P w K mg base (CXe P w) 2 f fd ["self", "length", "distance"] (vK t) := by
  refine F.okE vE (fun vs H Q E h => ?_) (fun cdv A outer s H vs Q E hr h => ?_)
  . obtain ⟨C, w, s, k, n, d, l, rfl, _⟩ := h
    rfl
  . obtain ⟨C, w, s, k, n, d, l, rfl, hC, hd0, hs, hn, hd, hl, kg, kb⟩ := h
    obtain ⟨dx, hin⟩ := hC.ins
    have hwl : (zm (zn l)).length = l.length := by rw [zk]; unfold zn; rw [List.length_map]
    refine ⟨_, zd (zw (i := 3) vE.nd rfl (Or.inl rfl) (zt y8 (zL zC (by rfl) T.len PySem.boot_len (za (zx (pv 0) rfl) zf)) (pv 2)))
      (zd (ye (PW.pt (zdi (zu wH (pv 3) zi (zD _)) (zab (zu jk (zt zT (zL zC (by rfl) T.len PySem.boot_len (za (zx (pv 0) rfl) zf)) (pv 1)) (zx (pv 0) rfl) (zD _)))))
        (zg (zY Lv.of (by rfl) T.gN T.xN)) zH)
      (zg (jW Lv.of.own rfl (zdQ rfl T.range (za (pv 3) (za (zt zT (pv 3) (pv 1)) zf))) (yz (i := 4) vE.nd rfl (Or.inl rfl))
        (zg (yj (pm G Lv.of T.cV hr (pv 0) (za (yI zX (zx (pv 0) rfl) (pv 4) (fun _ _ => rfl)) zf))))))), ?_⟩
    refine ⟨_, rfl, C.p, t.CV, dx, _, _, rfl, hin, T.cV, T.vC, yS _ _ _ _ _, C.l, _, rfl, .inl (SqL.of hC.lst), _, rfl, _, _, rfl, rfl, ?_⟩
    rw [hwl]
    refine ⟨_, rfl, _, _, rfl, rfl, _, rfl, yC (fun e => ?_) (fun e => ?_)⟩
    . have hlt : ¬ d <= l.length := by have := of_decide_eq_true e; omega
      exact zc7 (kb (fun z => hlt z.1) _)
    . have hle : d <= l.length := by
        have : ¬ ((l.length : Int) - (d : Int)) < 0 := fun z => e (decide_eq_true z)
        omega
      refine ⟨_, rfl, C.p, t.CV, dx, _, _, rfl, hin, T.cV, T.vC, yS _ _ _ _ _, C.l, _, rfl, .inl (SqL.of hC.lst), _, rfl, _, _, rfl, rfl, _, rfl, C.p, t.CV, dx, _, _, rfl, hin, T.cV, T.vS, wC _ _ _ _ _, _, _, rfl, rfl, _, rfl, yC (fun e2 => ?_) (fun e2 => ?_)⟩
      . have hgt : ¬ l.length + n <= s := by have := of_decide_eq_true e2; rw [hwl] at this; omega
        exact kb (fun z => hgt z.2) _
      . have hle2 : l.length + n <= s := by
          have : ¬ (s : Int) < ((zm (zn l)).length : Int) + (n : Int) := fun z => e2 (decide_eq_true z)
          rw [hwl] at this
          omega
        refine ⟨_, rfl, _, rfl, _, rfl, _, _, rfl, rfl, _, _, rfl, ⟨by omega, by omega, by omega, by omega⟩, ?_⟩
        have en : ((l.length : Int) - (d : Int) + (n : Int) - ((l.length : Int) - (d : Int))).toNat = n := by omega
        rw [en]
        refine wN (n := n) (fun i σ H' => ∃ v4 : Option V, σ = [some (.ref C.p), some (nat n), some (nat d), some (.int ((l.length : Int) - (d : Int))), v4] /\ zS t H' C w s k (again i d l) /\ zy [C.l, C.c] H H')
          ⟨none, rfl, hC, zy.refl _ _⟩ ?_ ?_
        . rintro i σ H' hi ⟨v4, rfl, hC', kp⟩
          obtain ⟨dx2, hin2⟩ := hC'.ins
          obtain ⟨dx3, fs, e1, e3⟩ := hC'.meth (m := "put")
          have hal := jH i d l
          have hix : (again i d l).length - d < (again i d l).length := by rw [hal]; omega
          have hg : (zn (again i d l))[(again i d l).length - d]? = some ((again i d l).getD ((again i d l).length - d) Sn15.black).word := by
            unfold zn
            rw [List.getElem?_map, List.getElem?_eq_getElem hix, List.getD_eq_getElem?_getD, List.getElem?_eq_getElem hix]; rfl
          refine ⟨_, rfl, C.p, dx3, fs, rfl, e1, e3, _, rfl, C.p, t.CV, dx2, _, _, rfl, hin2, T.cV, T.vC, yS _ _ _ _ _, _, rfl, C.l, _, _, _, rfl, rfl, SqL.of hC'.lst, yP (by rw [hal]; omega) (yf hg),
            C, w, s, k, again i d l, _, rfl, hC', hC'.ok _ (getD_mem hix), ?_, ?_⟩
          . rw [hal]
            have : sizeLine = 2 ^ 24 := rfl
            omega
          . intro H2 c2 kp2
            rw [<- wO] at c2
            exact ⟨_, rfl, c2, kp.trans kp2⟩
        . rintro σ H' ⟨v4, rfl, hC', kp⟩
          exact kg ⟨hle, hle2⟩ H' hC' kp
def za2 (t : Ad) : Sp := fun vs H Q E => ∃ (B : Bi) (bs : List Bool) (s : Nat), vs = [.ref B.p, nat s] /\ s < 100 /\ zo t H B bs /\ Out t E B [] H zaA Q (value s bs)
theorem zdY : zq ["bits", "symbol", "extra"] ["bits", "symbol"] (zj zeD) := by trivial
theorem zfM {f : Addr} {fd : FuncData} (F : Fun K "read_value" "read_value" zeD f fd) (T : Tx K mg t) (G : zI P w K mg base 2 t.CB "number" ["self", "width"] (yw t)) : yg P w K mg base (CXe P w) 3 f fd ["bits", "symbol"] (za2 t) := by
  refine F.okE zdY (fun vs H Q E h => ?_) (fun cdv A outer s H vs Q E hr h => ?_)
  . obtain ⟨B, bs, s, rfl, _⟩ := h
    rfl
  . obtain ⟨B, bs, sy, rfl, hs, hb, k⟩ := h
    refine ⟨_, zd (ye (zu wH (pv 1) zi (zD _)) (zg (zB (zt zT (pv 1) zi))) zH)
      (zd (zw (i := 2) zdY.nd rfl (Or.inl rfl) (zt zdl (zt y8 (pv 1) zi) zi))
      (zg (zB (zt zT (zt zT (zt xa (zt zT zi (zt zeb (pv 1) zi)) (pv 2)) (pm G Lv.of T.cB hr (pv 0) (za (pv 2) zf))) zi)))), ?_⟩
    refine ⟨_, rfl, _, _, rfl, rfl, _, rfl, yC (fun e => ?_) (fun e => ?_)⟩
    . have h4 : sy < 4 := by have := of_decide_eq_true e; omega
      refine ⟨_, rfl, _, _, rfl, rfl, ?_⟩
      unfold value at k
      rw [if_pos h4] at k
      exact k.pure hb rfl
    . have h4 : 4 <= sy := by
        have : ¬ (sy : Int) < 4 := fun z => e (decide_eq_true z)
        omega
      unfold value at k
      rw [if_neg (by omega)] at k
      obtain ⟨dx, fs, e1, e2⟩ := hb.meth (m := "number")
      have ex : ((sy : Int) - 2) / 2 = (((sy - 2) / 2 : Nat) : Int) := by omega
      refine ⟨_, rfl, _, _, rfl, rfl, _, _, rfl, rfl, ⟨by decide, by decide⟩, ?_⟩
      dsimp only
      rw [ex]
      refine ⟨_, rfl, _, _, rfl, rfl, (by show (0 : Int) < 2; decide), _, _, rfl, rfl, _, rfl, _, _, rfl, rfl, ⟨by omega, by omega, by omega⟩, _, rfl, B.p, dx, fs, rfl, e1, e2, _, rfl, B, bs, (sy - 2) / 2, rfl, by omega, hb, k.bind fun b bs' v H' hm hb' kp hv k' => ?_⟩
      cases hv
      refine ⟨_, _, rfl, rfl, _, _, rfl, rfl, ?_⟩
      have ev : (2 + (sy : Int) % 2) * 2 ^ (((sy - 2) / 2 : Nat) : Int).toNat + (b : Int) + 1 = (((2 + sy % 2) * 2 ^ ((sy - 2) / 2) + b + 1 : Nat) : Int) := by
        rw [Int.toNat_natCast, two_pow_int]
        simp
      dsimp only
      rw [ev]
      exact k'.pure hb' rfl
def ze7 : Sp := fun vs H Q _ => ∃ (v w : Nat), vs = [nat v, nat w] /\ 0 < v /\ w <= 2 ^ 20 /\ Q (nat (back w v)) H
theorem zgG : zq ["value", "width", "pair"] ["value", "width"] (zj zg5) := by trivial
theorem kD : ∀ p ∈ Sn15.NEAR, -8 <= p.1 /\ p.1 <= 8 /\ 0 <= p.2 /\ p.2 <= 8 := by decide
theorem zh8 {f : Addr} {fd : FuncData} (F : Fun K "distance_of" "distance_of" zg5 f fd) (T : Tx K mg t) : yg P w K mg base (CXe P w) 1 f fd ["value", "width"] ze7 := by
  obtain ⟨na, nas, hN, hNs, hNl, hNp⟩ := T.kNEAR
  refine F.okE zgG (fun vs H Q E h => ?_) (fun cdv A outer s H vs Q E hr h => ?_)
  . obtain ⟨v, w, rfl, _⟩ := h
    rfl
  . obtain ⟨v, w, rfl, hv, hw, k⟩ := h
    have hl : ((nas.map V.ref).length : Int) = 120 := by rw [List.length_map, hNl]; rfl
    refine ⟨_, zd (ye (zu jk (pv 0) (zL zC (by rfl) T.len PySem.boot_len (za (zM (v := .ref na) (by rfl) hN rfl) zf)) (zD _))
        (zg (zB (zt y8 (pv 0) (zL zC (by rfl) T.len PySem.boot_len (za (zM (v := .ref na) (by rfl) hN rfl) zf))))) zH)
      (zd (zw (i := 2) zgG.nd rfl (Or.inl rfl) (yI zdp (zM (v := .ref na) (by rfl) hN rfl) (zt y8 (pv 0) zi) (fun _ _ => rfl)))
      (zg (zB (zL (zan rfl) (by rfl) T.max PyProof.Rows.boot_max (za zi (za (zt zT (yI zdp (pv 2) zi (fun _ _ => rfl)) (zt jh (yI zdp (pv 2) zi (fun _ _ => rfl)) (pv 1))) zf)))))), ?_⟩
    refine ⟨_, rfl, na, _, rfl, .inr (hNs _), _, _, rfl, rfl, _, rfl, yC (fun e => ?_) (fun e => ?_)⟩
    . have e' : 120 < v := by have := of_decide_eq_true e; rw [hl] at this; omega
      refine ⟨_, rfl, na, _, rfl, .inr (hNs _), _, _, rfl, rfl, ?_⟩
      dsimp only
      rw [hl]
      have q : (v : Int) - 120 = ((v - 120 : Nat) : Int) := by omega
      have qb : back w v = v - 120 := by unfold back; rw [if_pos e']
      rw [q, <- qb]
      exact k
    . have e' : v <= 120 := by
        have : ¬ ((nas.map V.ref).length : Int) < (v : Int) := fun z => e (decide_eq_true z)
        rw [hl] at this
        omega
      obtain ⟨b, hb⟩ : ∃ b, nas[v - 1]? = some b := ⟨_, List.getElem?_eq_getElem (by omega)⟩
      obtain ⟨x, y, hxy, hs⟩ := hNp (v - 1) b hb
      obtain ⟨h1, h2, h3, h4⟩ := kD _ (List.mem_of_getElem? hxy)
      refine ⟨_, rfl, _, _, rfl, rfl, na, _, _, .ref b, rfl, rfl, hNs _, yP (j := v - 1) (by omega) (jt hb), ?_⟩
      refine ⟨_, rfl, b, _, _, .int x, rfl, rfl, hs _, rfl, _, rfl, b, _, _, .int y, rfl, rfl, hs _, rfl, _, rfl, _, _, rfl, rfl, .inl ⟨by omega, by omega⟩, _, _, rfl, rfl, _, _, rfl, ?_⟩
      have qb : (if x + y * (w : Int) > 1 then x + y * (w : Int) else 1) = ((back w v : Nat) : Int) := by
        unfold back
        rw [if_neg (show ¬ 120 < v by omega)]
        have eg : Sn15.NEAR.getD (v - 1) (0, 0) = (x, y) := by rw [List.getD_eq_getElem?_getD, hxy]; rfl
        simp only [eg]
        by_cases hz : x + y * (w : Int) < 1
        . rw [if_pos hz, if_neg (by omega)]; rfl
        . rw [if_neg hz]
          by_cases h1 : x + y * (w : Int) > 1
          . rw [if_pos h1]; omega
          . rw [if_neg h1]; omega
      dsimp only
      rw [qb]
      exact k
end
end Lk
end
section
namespace Lk
open PySem PySem.Spec PyProof.Rows L2
open Sn15 (D bits bitsOf symbol Px)
abbrev zhN : Stmt := top 15
abbrev zdB : Stmt := top 16
abbrev zhu : Stmt := top 17
abbrev zgu : Stmt := top 18
abbrev ziD : Stmt := top 19
abbrev zkq : Stmt := top 20
theorem Out.next {α β : Type} {t : Ad} {E : XK} {B : Bi} {ps : List Addr} {H : Hp} {R : β -> V -> Hp -> Prop} {Q : VK} {bs bs' : List Bool} {m : D α} {f : α -> D β} {a : α} (h : Out t E B ps H R Q ((m >>= f) bs)) (hm : m bs = some (a, bs')) : Out t E B ps H R Q (f a bs') := by
  rw [zF, hm] at h
  exact h
theorem zo.same {t : Ad} {H H' : Hp} {B : Bi} {bs : List Bool} (h : zo t H B bs) (k : zQ H H') : zo t H' B bs := h.kept (k := zy.same k []) (by simp) (by simp)
theorem zQ.init {H H' : Hp} {x dx C : Addr} (nx : H x = none) (nd : H dx = none) (k : zy [x] (upd (upd H dx (.own x)) x (.ins C dx [])) H') : zQ H H' :=
  zQ.made nx nd fun b o e ne => k b o e (by simpa using ne)
section
variable {P : Program} {w : World} {K : PySem.W.Frag} {mg : Str -> Option Value} {base : Heap} {t : Ad}
def zdH (t : Ad) : Sp := fun vs H Q E => ∃ (B : Bi) (bs : List Bool) (size : Nat), vs = [.ref B.p, nat size] /\ zo t H B bs /\ Out t E B [] H zaA Q (za0 size bs)
theorem zeY : zq ["bits", "size", "number_width", "most"] ["bits", "size"] (zj ziD) := by trivial
theorem zg9 {f : Addr} {fd : FuncData} (F : Fun K "read_most_symbols" "read_most_symbols" ziD f fd) (T : Tx K mg t) (Gb : zI P w K mg base 1 t.CB "bit" ["self"] (j0 t)) (Gn : zI P w K mg base 2 t.CB "number" ["self", "width"] (yw t)) :
    yg P w K mg base (CXe P w) 3 f fd ["bits", "size"] (zdH t) := by
  refine F.okE zeY (fun vs H Q E h => ?_) (fun cdv A outer s H vs Q E hr h => ?_)
  . obtain ⟨B, bs, size, rfl, _⟩ := h
    rfl
  . obtain ⟨B, bs, size, rfl, hb, k⟩ := h
    have hr1 : yp 1 _ := hr.mono (by decide)
    refine ⟨_, zd (ye (zu xt (pm0 Gb Lv.of T.cB hr1 (pv 0)) zi (zD _)) (zg (zB (pv 1))) zH)
      (zd (zw (i := 2) zeY.nd rfl (Or.inl rfl) (zt zT zi (zt jh zi (pm Gn Lv.of T.cB hr (pv 0) (za zi zf)))))
      (zd (zw (i := 3) zeY.nd rfl (Or.inl rfl) (zt zT (pm Gn Lv.of T.cB hr (pv 0) (za (pv 2) zf)) zi))
      (zd (ye (zu jk (pv 3) (pv 1) (zD _)) (zg (zY Lv.of (by rfl) T.gN T.xN)) zH)
      (zg (zB (pv 3)))))), ?_⟩
    unfold za0 at k
    obtain ⟨dx, fs, e1, e2⟩ := hb.meth (m := "bit")
    refine ⟨_, rfl, B.p, dx, fs, rfl, e1, e2, B, bs, rfl, hb, k.bind fun u bs1 v H1 hm hb1 kp1 hv k1 => ?_⟩
    cases hv
    refine ⟨rfl, _, rfl, yC (fun e => ?_) (fun e => ?_)⟩
    . have e' : u = 0 := by have := V.int.inj (of_decide_eq_true e); omega
      rw [if_pos e'] at k1
      exact ⟨_, rfl, k1.pure hb1 rfl⟩
    . have e' : ¬ u = 0 := fun z => e (by rw [z]; exact decide_eq_true rfl)
      rw [if_neg e'] at k1
      obtain ⟨dx2, fs2, e3, e4⟩ := hb1.meth (m := "number")
      refine ⟨_, rfl, B.p, dx2, fs2, rfl, e3, e4, B, bs1, 3, rfl, by decide, hb1, k1.bind fun n bs2 v2 H2 hm2 hb2 kp2 hv2 k2 => ?_⟩
      cases hv2
      have hn : n < 8 := ya hm2
      obtain ⟨dx3, fs3, e5, e6⟩ := hb2.meth (m := "number")
      have q : (2 : Int) + 2 * (n : Int) = ((2 + 2 * n : Nat) : Int) := by omega
      refine ⟨_, _, rfl, rfl, .inl ⟨by decide, by decide⟩, _, _, rfl, rfl, ?_⟩
      dsimp only
      rw [q]
      refine ⟨_, rfl, B.p, dx3, fs3, rfl, e5, e6, _, rfl, B, bs2, 2 + 2 * n, rfl, by omega, hb2, k2.bind fun m bs3 v3 H3 hm3 hb3 kp3 hv3 k3 => ?_⟩
      cases hv3
      have q2 : (m : Int) + 2 = ((m + 2 : Nat) : Int) := by omega
      refine ⟨_, _, rfl, rfl, ?_⟩
      dsimp only
      rw [q2]
      obtain ⟨kt, kf⟩ := k3.need
      refine ⟨_, rfl, _, rfl, _, _, rfl, rfl, _, rfl, yC (fun e => ?_) (fun e => ?_)⟩
      . exact kf (decide_eq_false (by have := of_decide_eq_true e; omega)) _
      . have hle : m + 2 <= size := by
          have : ¬ (size : Int) < ((m + 2 : Nat) : Int) := fun z => e (decide_eq_true z)
          omega
        exact ⟨_, rfl, (kt (decide_eq_true hle)).pure hb3 rfl⟩
def zgE : List Nat -> V -> Hp -> Prop := fun l v H => ∃ a, v = .ref a /\ H a = some (.lst (zm l))
def ziO (s last : Nat) : D (List Nat) :=
  (if s = 16 then bits 2 else if s = 17 then bits 3 else bits 7) >>= fun k => pure (List.replicate (if s = 18 then k + 11 else k + 3) (if s = 16 then last else 0))
def zih (t : Ad) : Sp := fun vs H Q E => ∃ (B : Bi) (bs : List Bool) (s last : Nat), vs = [.ref B.p, nat s, nat last] /\ 15 < s /\ s < 19 /\ zo t H B bs /\ Out t E B [] H zgE Q (ziO s last bs)
theorem zkC : zq ["bits", "symbol", "last"] ["bits", "symbol", "last"] (zj zkq) := by trivial
theorem vp (n m : Nat) : (List.replicate n ([nat m] : List V)).flatten = zm (List.replicate n m) := by
  induction n with
  | zero => rfl
  | succ n ih => rw [List.replicate_succ, List.flatten_cons, ih]; rfl
theorem zav {H H' : Hp} {B : Bi} {bs : List Bool} {x p : Addr} {l : List Nat} {E : XK} {Q : VK} (hb : zo t H' B bs) (hp : H' p = none) (k : Out t E B [] H' zgE Q ((pure l : D (List Nat)) bs)) : Q (.ref p) (upd H' p (.lst (zm l))) :=
  k.pure' (hb.kept (zy.new (ps := []) hp) (by simp) (by simp)) (zy.new hp) ⟨p, rfl, zb⟩
theorem zjf {f : Addr} {fd : FuncData} (F : Fun K "read_run" "read_run" zkq f fd) (T : Tx K mg t) (Gn : zI P w K mg base 2 t.CB "number" ["self", "width"] (yw t)) :
    yg P w K mg base (CXe P w) 3 f fd ["bits", "symbol", "last"] (zih t) := by
  refine F.okE zkC (fun vs H Q E h => ?_) (fun cdv A outer s H vs Q E hr h => ?_)
  . obtain ⟨B, bs, s, last, rfl, _⟩ := h
    rfl
  . obtain ⟨B, bs, sy, last, rfl, hs1, hs2, hb, k⟩ := h
    refine ⟨_, zd (ye (zu xt (pv 1) zi (zD _)) (zg (zB (zt km (yh (za (pv 2) zf)) (zt zT zi (pm Gn Lv.of T.cB hr (pv 0) (za zi zf)))))) zH)
      (zd (ye (zu xt (pv 1) zi (zD _)) (zg (zB (zt km (yh (za zi zf)) (zt zT zi (pm Gn Lv.of T.cB hr (pv 0) (za zi zf)))))) zH)
      (zg (zB (zt km (yh (za zi zf)) (zt zT zi (pm Gn Lv.of T.cB hr (pv 0) (za zi zf))))))), ?_⟩
    unfold ziO at k
    refine ⟨_, rfl, rfl, _, rfl, yC (fun e => ?_) (fun e => ?_)⟩
    . have e16 : sy = 16 := by have := V.int.inj (of_decide_eq_true e); omega
      subst e16
      simp only [if_true] at k
      refine ⟨_, rfl, (by show 1 <= sizeLine; decide), fun x hx => ?_⟩
      have hb0 : zo t (upd H x (.lst [nat last])) B bs := hb.kept (zy.new (ps := []) hx) (by simp) (by simp)
      have k0 := k.shift (zy.new (o := .lst [nat last]) hx)
      obtain ⟨dx, fs, e1, e2⟩ := hb0.meth (m := "number")
      refine ⟨_, rfl, B.p, dx, fs, rfl, e1, e2, B, bs, 2, rfl, by decide, hb0, k0.bind fun n bs1 v H1 hm hb1 kp1 hv k1 => ?_⟩
      cases hv
      have hn : n < 4 := ya hm
      have hx1 : H1 x = some (.lst [nat last]) := kp1.lst hb0 zb
      have q : ((3 : Int) + (n : Int)).toNat = n + 3 := by omega
      refine ⟨_, _, rfl, rfl, x, _, _, rfl, rfl, hx1, by omega, by omega, ?_, fun p hp => ?_⟩
      . rw [q]; show 1 * (n + 3) <= 2 ^ 24; omega
      . rw [q, vp]
        exact zav (x := x) (H := H) hb1 hp k1
    . have e16 : ¬ sy = 16 := fun z => e (by rw [z]; exact decide_eq_true rfl)
      simp only [e16, if_false] at k
      refine ⟨_, rfl, rfl, _, rfl, yC (fun e => ?_) (fun e => ?_)⟩
      . have e17 : sy = 17 := by have := V.int.inj (of_decide_eq_true e); omega
        subst e17
        simp only [if_true] at k
        refine ⟨(by show 1 <= sizeLine; decide), fun x hx => ?_⟩
        have hb0 : zo t (upd H x (.lst [nat 0])) B bs := hb.kept (zy.new (ps := []) hx) (by simp) (by simp)
        have k0 := k.shift (zy.new (o := .lst [nat 0]) hx)
        obtain ⟨dx, fs, e1, e2⟩ := hb0.meth (m := "number")
        refine ⟨_, rfl, B.p, dx, fs, rfl, e1, e2, B, bs, 3, rfl, by decide, hb0, k0.bind fun n bs1 v H1 hm hb1 kp1 hv k1 => ?_⟩
        cases hv
        have hn : n < 8 := ya hm
        have hx1 : H1 x = some (.lst [nat 0]) := kp1.lst hb0 zb
        have q : ((3 : Int) + (n : Int)).toNat = n + 3 := by omega
        refine ⟨_, _, rfl, rfl, x, _, _, rfl, rfl, hx1, by omega, by omega, ?_, fun p hp => ?_⟩
        . rw [q]; show 1 * (n + 3) <= 2 ^ 24; omega
        . rw [q, vp]
          exact zav (x := x) (H := H) hb1 hp k1
      . have e17 : ¬ sy = 17 := fun z => e (by rw [z]; exact decide_eq_true rfl)
        have e18 : sy = 18 := by omega
        subst e18
        simp only [if_true] at k
        refine ⟨(by show 1 <= sizeLine; decide), fun x hx => ?_⟩
        have hb0 : zo t (upd H x (.lst [nat 0])) B bs := hb.kept (zy.new (ps := []) hx) (by simp) (by simp)
        have k0 := k.shift (zy.new (o := .lst [nat 0]) hx)
        obtain ⟨dx, fs, e1, e2⟩ := hb0.meth (m := "number")
        refine ⟨_, rfl, B.p, dx, fs, rfl, e1, e2, B, bs, 7, rfl, by decide, hb0, k0.bind fun n bs1 v H1 hm hb1 kp1 hv k1 => ?_⟩
        cases hv
        have hn : n < 128 := ya hm
        have hx1 : H1 x = some (.lst [nat 0]) := kp1.lst hb0 zb
        have q : ((11 : Int) + (n : Int)).toNat = n + 11 := by omega
        refine ⟨_, _, rfl, rfl, x, _, _, rfl, rfl, hx1, by omega, by omega, ?_, fun p hp => ?_⟩
        . rw [q]; show 1 * (n + 11) <= 2 ^ 24; omega
        . rw [q, vp]
          exact zav (x := x) (H := H) hb1 hp k1
def zex (t : Ad) : Sp := fun vs H Q E => ∃ (B : Bi) (bs : List Bool), vs = [.ref B.p] /\ zo t H B bs /\ Out t E B [] H (kQ t) Q (zaU bs)
abbrev zi2 : List Str := ["bits", "told", "lengths", "symbol"]
theorem zah : zq zi2 ["bits"] (zj zgu) := by trivial
theorem vo {n m : Nat} (h : m <= n) (d : Nat) : HT.sIx n d (some (m : Int)) = m := by
  show (if (m : Int) < 0 then ((m : Int) + (n : Int)).toNat else min (m : Int).toNat n) = m
  rw [if_neg (by omega), Int.toNat_natCast, Nat.min_eq_left h]
theorem zgx (l : List Nat) (m : Nat) (h : m <= l.length) : zc5 (zm l) none (some (m : Int)) = zm (l.take m) := by
  unfold zc5
  rw [zk, vo h]
  show ((zm l).drop 0).take (m - 0) = _
  unfold zm
  rw [List.drop_zero, Nat.sub_zero, List.map_take]
theorem zbP : ∀ s ∈ Sn15.ORDER, s < 19 := by decide
theorem zgC {K : PySem.W.Frag} {H : Hp} {a : Addr} {xs : List V} (h : (∀ H', SqT K H' a xs) \/ H a = some (.tup xs)) : SqT K H a xs := by
  rcases h with h | h
  . exact h H
  . exact SqT.of h
def zk4 (K : PySem.W.Frag) (t : Ad) (E : XK) (B : Bi) (H1 : Hp) (Q : VK) (la ta : Addr) (ord : List Nat) (v1 : Option V) (i : Nat) (σ : L2.St) (Hx : Hp) : Prop := ∃ (v3 : Option V) (l : List Nat) (bs : List Bool), σ = [some (.ref B.p), v1, some (.ref la), v3] /\ Hx la = some (.lst (zm l)) /\ l.length = 19 /\ (∀ n ∈ l, n <= 15) /\
  zo t Hx B bs /\ zy [B.p] H1 Hx /\ H1 la = none /\ ((∀ H', SqT K H' ta (zm ord)) \/ Hx ta = some (.tup (zm ord))) /\ Out t E B [] H1 (kQ t) Q ((zbc (ord.drop i) l >>= fun c => Sn15.need (Sn15.good c) >>= fun _ => pure c) bs)
theorem zg8 {f : Addr} {fd : FuncData} (F : Fun K "read_code_of_lengths" "read_code_of_lengths" zgu f fd) (T : Tx K mg t) (Gn : zI P w K mg base 2 t.CB "number" ["self", "width"] (yw t)) (Gc : zE P w K mg base 3 "code_of_lengths" ["lengths"] (zgh t)) :
    yg P w K mg base (CXe P w) 4 f fd ["bits"] (zex t) := by
  obtain ⟨oa, hO, hOs⟩ := T.kORDER
  refine F.okE zah (fun vs H Q E h => ?_) (fun cdv A outer s H vs Q E hr h => ?_)
  . obtain ⟨B, bs, rfl, _⟩ := h
    rfl
  . obtain ⟨B, bs, rfl, hb, k⟩ := h
    have hr2 : yp 2 _ := hr.mono (by decide)
    refine ⟨_, zd (zw (i := 1) zah.nd rfl (Or.inl rfl) (zt zT (pm Gn Lv.of T.cB hr2 (pv 0) (za zi zf)) zi))
      (zd (zcc (i := 2) (own := [("symbol", 3)]) rfl zah.nd rfl rfl (zeq rfl rfl rfl rfl) (zd8 (zM (v := .ref oa) (by rfl) hO rfl)) (by show ke zi2 (zj zgu) _ _; exact qC (by decide +kernel))
        (fun _ _ _ _ _ => yz (i := 3) zah.nd rfl (Or.inl rfl)) (fun _ _ _ _ _ => jF) (fun _ _ _ _ _ => zi))
      (zd (jW Lv.of.own rfl (zd8 (vb (ziT.or zhC) (zM (v := .ref oa) (by rfl) hO rfl) zhm (jC (pv 1)))) (yz (i := 3) zah.nd rfl (Or.inl rfl))
        (zg (zeA (pm Gn Lv.of T.cB hr2 (pv 0) (za zi zf)) (zeN (pv 2) (pv 3) ve))))
      (zg (zB (pd Gc Lv.of hr (za (pv 2) zf)))))), ?_⟩
    unfold zaU at k
    obtain ⟨dx, fs, e1, e2⟩ := hb.meth (m := "number")
    refine ⟨_, rfl, B.p, dx, fs, rfl, e1, e2, B, bs, 4, rfl, by decide, hb, k.bind fun n bs1 v H1 hm hb1 kp1 hv k1 => ?_⟩
    cases hv
    have hn : n < 16 := ya hm
    have q4 : (n : Int) + 4 = ((n + 4 : Nat) : Int) := by omega
    refine ⟨_, _, rfl, rfl, ?_⟩
    dsimp only
    rw [q4]
    have hol : Sn15.ORDER.length = 19 := rfl
    refine ⟨oa, rfl, ⟨_, hOs _⟩, fun la hla => zjQ (K := K) (a := oa) (xs := zm Sn15.ORDER) (fun i Hx => Hx la = some (.lst (zm (List.replicate i 0))) /\ zQ H1 Hx) ⟨zb, zr (zQ.refl _) hla⟩ (fun i Hx _ _ => hOs _) ?_ ?_⟩
    . rintro i x Hx hx ⟨h1, h2⟩
      have hi : i < 19 := by have := (List.getElem?_eq_some_iff.mp hx).1; rw [zk] at this; exact this
      refine ⟨rfl, wT ⟨_, h1, ?_, ?_, yH h2 hla⟩⟩
      . rw [zk, List.length_replicate]; exact Nat.lt_trans hi (by decide)
      . rw [zb, List.replicate_succ', yt]; rfl
    . rintro Hx ⟨h1, h2⟩
      rw [zk, hol] at h1
      have hbx := hb1.same h2
      have kx : zy [B.p] H1 Hx := zy.same h2 _
      have hlt : (Sn15.ORDER.take (n + 4)).length = n + 4 := by rw [List.length_take, hol]; omega
      by_cases hw : n + 4 = 19
      . refine ⟨_, rfl, _, rfl, .inr ⟨oa, _, rfl, hOs _, ⟨rfl, by rw [zk, hol]; exact (vo (by omega) _).trans hw⟩, oa, rfl, ⟨_, hOs _⟩, wg (K := K) (a := oa) (xs := zm (Sn15.ORDER.take (n + 4))) (zk4 K t E B H1 Q la oa (Sn15.ORDER.take (n + 4)) (some (nat (n + 4)))) ⟨none, List.replicate 19 0, bs1, rfl, h1, by simp, by simp, hbx, kx, hla, (.inl (by rw [hw]; exact hOs)), k1⟩ (fun i σ Hz _ ⟨_, _, _, _, _, _, _, _, kz, _, hS, _⟩ => zgC hS) ?_ ?_⟩⟩
        . rintro i x σ Hz hx ⟨v3, l, bs2, rfl, hl2, hlen2, h15, hb2, kz, nla, hS, k2⟩
          obtain ⟨sym, hsym, rfl⟩ := yG hx
          have hil : i < (Sn15.ORDER.take (n + 4)).length := (List.getElem?_eq_some_iff.mp hsym).1
          have hs19 : sym < 19 := zbP sym (List.mem_of_mem_take (List.mem_of_getElem? hsym))
          rw [List.drop_eq_getElem_cons hil] at k2
          have hsy : (Sn15.ORDER.take (n + 4))[i] = sym := by rw [List.getElem?_eq_getElem hil] at hsym; exact Option.some.inj hsym
          rw [hsy] at k2
          have k3 : Out t E B [] H1 (kQ t) Q ((bits 3 >>= fun q => zbc ((Sn15.ORDER.take (n + 4)).drop (i + 1)) (l.set sym q) >>= fun c => Sn15.need (Sn15.good c) >>= fun _ => pure c) bs2) := by
            have e : (zbc (sym :: (Sn15.ORDER.take (n + 4)).drop (i + 1)) l >>= fun c => Sn15.need (Sn15.good c) >>= fun _ => (pure c : D Sn15.Code)) = (bits 3 >>= fun q => zbc ((Sn15.ORDER.take (n + 4)).drop (i + 1)) (l.set sym q) >>= fun c => Sn15.need (Sn15.good c) >>= fun _ => pure c) := by
              show ((bits 3 >>= fun q => zbc _ (l.set sym q)) >>= _) = _
              rw [zG]
            rw [<- e]; exact k2
          obtain ⟨dx2, fs2, e3, e4⟩ := hb2.meth (m := "number")
          refine ⟨_, rfl, B.p, dx2, fs2, rfl, e3, e4, B, bs2, 3, rfl, by decide, hb2, (k3.shift kz).bind fun q bs3 v H3 hm hb3 kp3 hv _ => ?_⟩
          cases hv
          have hq : q < 8 := ya hm
          have hl3 := kp3.lst hb2 hl2
          have nlp : B.p ≠ la := by
            obtain ⟨dz, iz, z1, _⟩ := hb3
            exact yO z1 hl3 (by intro z; cases z)
          have nlo : B.o ≠ la := by
            obtain ⟨dz, iz, _, z2, _⟩ := hb1
            exact zc z2 nla
          refine ⟨_, rfl, _, rfl, la, _, _, sym, rfl, rfl, hl3, kY (by rw [zk, hlen2]; exact hs19), some (nat sym), l.set sym q, bs3, rfl, ?_, by rw [List.length_set]; exact hlen2, fun m hm => ?_, ?_, ?_, nla, ?_, k3.next hm⟩
          . rw [zb, j1]
          . rcases List.mem_or_eq_of_mem_set hm with z | z
            . exact h15 m z
            . omega
          . exact hb3.kept (ps := [la]) (zy.put (by simp)) (by simpa using nlp) (by simpa using nlo)
          . intro b o e nb
            have := kp3 b o (kz b o e nb) nb
            rw [zh (zc e nla)]
            exact this
          . rcases hS with hS | hS
            . exact .inl hS
            . refine .inr ?_
              have nT : oa ≠ B.p := by
                obtain ⟨dz, iz, z1, _⟩ := hb2
                exact yO hS z1 (by intro z; cases z)
              rw [zh (yO hS hl2 (by intro z; cases z))]
              exact kp3 _ _ hS (by simpa using nT)
        . rintro σ Hz ⟨v3, l, bs2, rfl, hl2, hlen2, h15, hb2, kz, nla, hS, k2⟩
          rw [zk, List.drop_length] at k2
          have k3 : Out t E B [] H1 (kQ t) Q ((Sn15.need (Sn15.good l) >>= fun _ => (pure l : D Sn15.Code)) bs2) := k2
          obtain ⟨kt, kf⟩ := k3.need
          refine ⟨_, rfl, la, l, rfl, hl2, h15, by omega, fun hg a H4 hc sm => ?_, fun hg => kf hg⟩
          exact (kt hg).pure' (hb2.same sm) (kz.trans (zy.same sm _)) ⟨a, rfl, hc.toAt⟩
      . refine ⟨_, rfl, _, rfl, .inl ⟨oa, _, rfl, hOs _, fun z => hw ?_, fun p hp => ⟨p, rfl, ⟨_, SqT.of zb⟩, wg (K := K) (a := p) (xs := zm (Sn15.ORDER.take (n + 4))) (zk4 K t E B H1 Q la p (Sn15.ORDER.take (n + 4)) (some (nat (n + 4)))) ⟨none, List.replicate 19 0, bs1, rfl, (by rw [zh (zc h1 hp)]; exact h1), by simp, by simp, (hbx.kept (zy.new (ps := []) hp) (by simp) (by simp)), (kx.trans (zy.new hp)), hla, (.inr (by rw [zb, zgx _ _ (by rw [hol]; omega)])), k1⟩ (fun i σ Hz _ ⟨_, _, _, _, _, _, _, _, kz, _, hS, _⟩ => zgC hS) ?_ ?_⟩⟩⟩
        . have := z.2
          rw [zk, hol] at this
          exact (vo (n := 19) (m := n + 4) (by omega) 19).symm.trans this
        . rintro i x σ Hz hx ⟨v3, l, bs2, rfl, hl2, hlen2, h15, hb2, kz, nla, hS, k2⟩
          obtain ⟨sym, hsym, rfl⟩ := yG hx
          have hil : i < (Sn15.ORDER.take (n + 4)).length := (List.getElem?_eq_some_iff.mp hsym).1
          have hs19 : sym < 19 := zbP sym (List.mem_of_mem_take (List.mem_of_getElem? hsym))
          rw [List.drop_eq_getElem_cons hil] at k2
          have hsy : (Sn15.ORDER.take (n + 4))[i] = sym := by rw [List.getElem?_eq_getElem hil] at hsym; exact Option.some.inj hsym
          rw [hsy] at k2
          have k3 : Out t E B [] H1 (kQ t) Q ((bits 3 >>= fun q => zbc ((Sn15.ORDER.take (n + 4)).drop (i + 1)) (l.set sym q) >>= fun c => Sn15.need (Sn15.good c) >>= fun _ => pure c) bs2) := by
            have e : (zbc (sym :: (Sn15.ORDER.take (n + 4)).drop (i + 1)) l >>= fun c => Sn15.need (Sn15.good c) >>= fun _ => (pure c : D Sn15.Code)) = (bits 3 >>= fun q => zbc ((Sn15.ORDER.take (n + 4)).drop (i + 1)) (l.set sym q) >>= fun c => Sn15.need (Sn15.good c) >>= fun _ => pure c) := by
              show ((bits 3 >>= fun q => zbc _ (l.set sym q)) >>= _) = _
              rw [zG]
            rw [<- e]; exact k2
          obtain ⟨dx2, fs2, e3, e4⟩ := hb2.meth (m := "number")
          refine ⟨_, rfl, B.p, dx2, fs2, rfl, e3, e4, B, bs2, 3, rfl, by decide, hb2, (k3.shift kz).bind fun q bs3 v H3 hm hb3 kp3 hv _ => ?_⟩
          cases hv
          have hq : q < 8 := ya hm
          have hl3 := kp3.lst hb2 hl2
          have nlp : B.p ≠ la := by
            obtain ⟨dz, iz, z1, _⟩ := hb3
            exact yO z1 hl3 (by intro z; cases z)
          have nlo : B.o ≠ la := by
            obtain ⟨dz, iz, _, z2, _⟩ := hb1
            exact zc z2 nla
          refine ⟨_, rfl, _, rfl, la, _, _, sym, rfl, rfl, hl3, kY (by rw [zk, hlen2]; exact hs19), some (nat sym), l.set sym q, bs3, rfl, ?_, by rw [List.length_set]; exact hlen2, fun m hm => ?_, ?_, ?_, nla, ?_, k3.next hm⟩
          . rw [zb, j1]
          . rcases List.mem_or_eq_of_mem_set hm with z | z
            . exact h15 m z
            . omega
          . exact hb3.kept (ps := [la]) (zy.put (by simp)) (by simpa using nlp) (by simpa using nlo)
          . intro b o e nb
            have := kp3 b o (kz b o e nb) nb
            rw [zh (zc e nla)]
            exact this
          . rcases hS with hS | hS
            . exact .inl hS
            . refine .inr ?_
              have nT : p ≠ B.p := by
                obtain ⟨dz, iz, z1, _⟩ := hb2
                exact yO hS z1 (by intro z; cases z)
              rw [zh (yO hS hl2 (by intro z; cases z))]
              exact kp3 _ _ hS (by simpa using nT)
        . rintro σ Hz ⟨v3, l, bs2, rfl, hl2, hlen2, h15, hb2, kz, nla, hS, k2⟩
          rw [zk, List.drop_length] at k2
          have k3 : Out t E B [] H1 (kQ t) Q ((Sn15.need (Sn15.good l) >>= fun _ => (pure l : D Sn15.Code)) bs2) := k2
          obtain ⟨kt, kf⟩ := k3.need
          refine ⟨_, rfl, la, l, rfl, hl2, h15, by omega, fun hg a H4 hc sm => ?_, fun hg => kf hg⟩
          exact (kt hg).pure' (hb2.same sm) (kz.trans (zy.same sm _)) ⟨a, rfl, hc.toAt⟩
end
end Lk
end
section
namespace Lk
open PySem PySem.Spec PyProof.Rows L2
open Sn15 (D bits bitsOf symbol Px)
theorem zbu (c : Sn15.Code) (size n most last : Nat) (l : List Nat) (h : l.length < size) (hm : 0 < most) : Sn15.lengths c size (n + 1) most last l = (symbol c >>= fun s => if s < 16 then Sn15.lengths c size n (most - 1) (if s = 0 then last else s) (l ++ [s]) else
    (ziO s last >>= fun r => Sn15.need (decide (l.length + r.length <= size)) >>= fun _ => Sn15.lengths c size n (most - 1) last (l ++ r))) := by
  rw [xG c size n most last l h hm]
  congr 1
  funext s
  by_cases h16 : s < 16
  . rw [if_pos h16, if_pos h16]
  . rw [if_neg h16, if_neg h16]
    unfold ziO
    rw [zG]
    simp only [zl, List.length_replicate]
theorem zia {s last : Nat} {r : List Nat} {bs bs' : List Bool} (hl : last <= 15) (h : ziO s last bs = some (r, bs')) : (∀ n ∈ r, n <= 15) /\ r.length <= 140 := by
  unfold ziO at h
  obtain ⟨k, bs1, hk, h⟩ := bind_some h
  cases h
  have hk2 : k < 128 := by
    split at hk
    . have := ya hk; omega
    . split at hk
      . have := ya hk; omega
      . have := ya hk; omega
  refine ⟨fun n hn => ?_, ?_⟩
  . rw [List.eq_of_mem_replicate hn]
    split <;> omega
  . rw [List.length_replicate]
    split <;> omega
theorem zdz {c : Sn15.Code} {bs bs' : List Bool} (h : zaU bs = some (c, bs')) : c.length = 19 := by
  unfold zaU at h
  obtain ⟨n, bs1, _, h⟩ := bind_some h
  obtain ⟨d, bs2, hd, h⟩ := bind_some h
  obtain ⟨_, bs3, _, h⟩ := bind_some h
  cases h
  exact (zeG _ _ _ _ _ (by simp) hd).1.trans (by simp)
theorem zgc {size m : Nat} {bs bs' : List Bool} (h : za0 size bs = some (m, bs')) : m <= size := by
  unfold za0 at h
  obtain ⟨u, bs1, _, h⟩ := bind_some h
  split at h
  . cases h; exact Nat.le_refl _
  . obtain ⟨k, bs2, _, h⟩ := bind_some h
    obtain ⟨q, bs3, _, h⟩ := bind_some h
    obtain ⟨_, bs4, hn, h⟩ := bind_some h
    cases h
    exact of_decide_eq_true (xD hn).1
def zfB (size : Nat) : D Sn15.Code := do
  let c <- zaU
  let most <- za0 size
  Sn15.lengths c size (size + 1) most 8 []
theorem zf9 (size : Nat) : qu size = zfB size := by unfold qu zfB; rw [zir]
def zbI (size : Nat) : Sn15.Code -> V -> Hp -> Prop := fun l v H => ∃ (a : Addr) (l0 : List Nat), v = .ref a /\ H a = some (.lst (zm l0)) /\ l0.length <= size /\ l = l0 ++ List.replicate (size - l0.length) 0 /\ ∀ n ∈ l0, n <= 15
def zhV (t : Ad) (E : XK) (B : Bi) (H2 : Hp) (Q : VK) (size : Nat) (c : Sn15.Code) (ca la : Addr) (m : Nat) (σ : L2.St) (Hx : Hp) : Prop := ∃ (last : Nat) (l : List Nat) (bs : List Bool) (v6 : Option V),
  σ = [some (.ref B.p), some (nat size), some (.ref ca), some (nat m), some (.ref la), some (nat last), v6] /\ Hx la = some (.lst (zm l)) /\ (∀ n ∈ l, n <= 15) /\ last <= 15 /\ zo t Hx B bs /\ zy [B.p] H2 Hx /\ l.length <= size + 200 /\
  (l.length <= size -> ∃ n, m < n /\ Out t E B [] H2 (zbI size) Q (Sn15.lengths c size n m last l bs)) /\ (size < l.length -> ∀ H', E (.ref t.CN) none H')
theorem qE {t : Ad} {H2 Hx : Hp} {B : Bi} {bs bs2 : List Bool} {la : Addr} {o : HO} (hb : zo t Hx B bs) (hb2 : zo t H2 B bs2) (nla : H2 la = none) : zo t (upd Hx la o) B bs := by
  obtain ⟨dz, iz, z1, z2, _⟩ := hb2
  exact hb.kept (ps := [la]) (zy.put (by simp)) (by simpa using zc z1 nla) (by simpa using zc z2 nla)
theorem qy {H2 Hx : Hp} {ps : List Addr} {la : Addr} {o : HO} (k : zy ps H2 Hx) (nla : H2 la = none) : zy ps H2 (upd Hx la o) := fun b u e n => by
  rw [zh (zc e nla)]; exact k b u e n
section
variable {P : Program} {w : World} {K : PySem.W.Frag} {mg : Str -> Option Value} {base : Heap} {t : Ad}
def zeW (t : Ad) : Sp := fun vs H Q E => ∃ (B : Bi) (bs : List Bool) (size : Nat), vs = [.ref B.p, nat size] /\ size <= 3000 /\ zo t H B bs /\ Out t E B [] H (zbI size) Q (zfB size bs)
theorem jd : zq ["bits", "size", "code", "left", "lengths", "last", "symbol"] ["bits", "size"] (zj zhu) := by trivial
theorem zil {f : Addr} {fd : FuncData} (F : Fun K "read_lengths" "read_lengths" zhu f fd) (T : Tx K mg t) (Gx : zI P w K mg base 2 t.CC "next_symbol" ["self", "bits"] (ww t)) (Gc : zE P w K mg base 4 "read_code_of_lengths" ["bits"] (zex t))
    (Gm : zE P w K mg base 3 "read_most_symbols" ["bits", "size"] (zdH t)) (Gr : zE P w K mg base 3 "read_run" ["bits", "symbol", "last"] (zih t)) : yg P w K mg base (CXe P w) 5 f fd ["bits", "size"] (zeW t) := by
  obtain ⟨uL, hL, rL⟩ := T.kLONGEST
  refine F.okE jd (fun vs H Q E h => ?_) (fun cdv A outer s H vs Q E hr h => ?_)
  . obtain ⟨B, bs, size, rfl, _⟩ := h
    rfl
  . obtain ⟨B, bs, size, rfl, hsz, hb, k⟩ := h
    have hr3 : yp 3 _ := hr.mono (by decide)
    have hr2 : yp 2 _ := hr.mono (by decide)
    refine ⟨_, zd (zw (i := 2) jd.nd rfl (Or.inl rfl) (pd Gc Lv.of hr (za (pv 0) zf)))
      (zd (zw (i := 3) jd.nd rfl (Or.inl rfl) (pd Gm Lv.of hr3 (za (pv 0) (za (pv 1) zf))))
      (zd (ye (PW.pt (zey (zdZ (zdD (zx (pv 2) rfl))) (zbn (zu zfi (zx (pv 2) rfl) (zM (by rfl) hL rL) (zD _))))) (zg (zB (zt km (yh (za (zx (pv 2) rfl) zf)) (pv 3)))) zH)
      (zd (zw (i := 4) jd.nd rfl (Or.inl rfl) (yh zf))
      (zd (zw (i := 5) jd.nd rfl (Or.inl rfl) zi)
      (zd (qB Lv.of.own (PW.pt (zey (zu jk (pv 3) zi (zD _)) (zbn (zu wH (zL zC (by rfl) T.len PySem.boot_len (za (pv 4) zf)) (pv 1) (zD _)))))
        (zd (zew (i := 3) jd.nd rfl (Or.inl rfl) zi zji)
        (zd (zw (i := 6) jd.nd rfl (Or.inl rfl) (pm Gx Lv.of T.cC hr2 (pv 2) (za (pv 0) zf)))
        (zg (ye (zu jk (pv 6) (zM (by rfl) hL rL) (zD _))
          (zg (yj (qQ PySem.F.plainAttrs_list PySem.F.slot_list_extend PySem.F.type_list_extend zd5 (pv 4) (za (pd Gr Lv.of hr3 (za (pv 0) (za (pv 6) (za (pv 5) zf)))) zf))))
          (zd (yj (qQ PySem.F.plainAttrs_list PySem.F.slot_list_append PySem.F.type_list_append yo (pv 4) (za (pv 6) zf)))
            (zg (zw (i := 5) jd.nd rfl (Or.inl rfl) (vt (zu jk (pv 6) zi (zD _)) (pv 6) (pv 5))))))))))
      (zd (ye (zu jk (zL zC (by rfl) T.len PySem.boot_len (za (pv 4) zf)) (pv 1) (zD _)) (zg (zY Lv.of (by rfl) T.gN T.xN)) zH)
      (zg (zB (pv 4))))))))), ?_⟩
    unfold zfB at k
    refine ⟨_, rfl, B, bs, rfl, hb, k.bind fun c bs1 v H1 hm hb1 kp1 hv k1 => ?_⟩
    obtain ⟨ca, rfl, hc1⟩ := hv
    have hc19 := zdz hm
    refine ⟨_, rfl, _, rfl, B, bs1, size, rfl, hb1, k1.bind fun most bs2 v2 H2 hm2 hb2 kp2 hv2 k2 => ?_⟩
    cases hv2
    have hms := zgc hm2
    have hc2 := hc1.kept hb1 kp2
    obtain ⟨cdx, wa, was, words, sole, c1, c2, c3, c4⟩ := id hc2
    by_cases hq : ∃ sy, sole = some sy /\ sy <= 15
    . obtain ⟨sy, rfl, hsy⟩ := hq
      refine ⟨_, rfl, ca, t.CC, cdx, _, _, rfl, c1, T.cC, T.nS, xh _ _, _, rfl, zc7 ?_⟩
      refine ⟨_, rfl, ca, t.CC, cdx, _, _, rfl, c1, T.cC, T.nS, xh _ _, _, _, rfl, rfl, _, rfl, ?_⟩
      have e1 : decide (((sy : Nat) : Int) <= 15) = true := decide_eq_true (by omega)
      rw [e1]
      refine zc7 ?_
      refine ⟨_, rfl, ca, t.CC, cdx, _, _, rfl, c1, T.cC, T.nS, xh _ _, (by show 1 <= sizeLine; decide), fun x hx => ⟨_, rfl, x, _, _, rfl, rfl, zb, by omega, by omega, ?_, fun p hp => ?_⟩⟩
      . rw [Int.toNat_natCast]
        show 1 * most <= 2 ^ 24
        omega
      . rw [Int.toNat_natCast]
        show Q (.ref p) (upd (upd H2 x (.lst [nat sy])) p (.lst (List.replicate most [nat sy]).flatten))
        rw [vp]
        have kk := jf c4.1 (by omega : sy < 16) size (size + 1) most 8 [] (by omega) (by simpa using hms)
        rw [kk] at k2
        have sm : zQ H2 (upd (upd H2 x (.lst [nat sy])) p (.lst (zm (List.replicate most sy)))) := zr (zr (zQ.refl _) hx) hp
        refine k2.pure' (hb2.same sm) (zy.same sm _) ⟨p, List.replicate most sy, rfl, zb, by rw [List.length_replicate]; exact hms, ?_, fun n hn => by rw [List.eq_of_mem_replicate hn]; exact hsy⟩
        simp
    . have tst : ∀ (R : Bool -> Hp -> Prop), R false H2 -> (zk3 (tB (zjS (zke K (ziN 2) "sole"))) (zjo (tOp (rI0 fun i j => .bl (decide (i <= j))) (zke K (ziN 2) "sole") (tC (.int 15))))) [some (.ref B.p), some (nat size), some (.ref ca), some (nat most), none, none, none] H2 R := fun R hR => by
        cases sole with
        | none => exact ⟨_, rfl, ca, t.CC, cdx, _, _, rfl, c1, T.cC, T.nS, xh _ _, _, rfl, ziM hR⟩
        | some sy =>
          have h15 : ¬ sy <= 15 := fun z => hq ⟨sy, rfl, z⟩
          refine ⟨_, rfl, ca, t.CC, cdx, _, _, rfl, c1, T.cC, T.nS, xh _ _, _, rfl, zc7 ?_⟩
          refine ⟨_, rfl, ca, t.CC, cdx, _, _, rfl, c1, T.cC, T.nS, xh _ _, _, _, rfl, rfl, _, rfl, ?_⟩
          have e1 : decide (((sy : Nat) : Int) <= 15) = false := decide_eq_false (by omega)
          rw [e1]
          exact hR
      refine tst _ (ziM ?_)
      refine ⟨Nat.zero_le _, fun la hla => ?_⟩
      have sm0 : zQ H2 (upd H2 la (.lst [])) := zr (zQ.refl _) hla
      refine ⟨zhV t E B H2 Q size c ca la, ⟨most, 8, [], bs2, none, rfl, zb, fun n hn => absurd hn (by simp), by decide, hb2.same sm0, zy.same sm0 _, Nat.zero_le _, fun _ => ⟨size + 1, by omega, k2⟩, fun z => absurd z (by simp)⟩, ?_⟩
      rintro m σ Hx ⟨last, l, bs3, v6, rfl, hl3, h15, hlast, hb3, kp3, hlen, kl, kb⟩
      refine ⟨_, rfl, _, _, rfl, rfl, _, rfl, yC (fun e1 => ?_) (fun e1 => ?_)⟩
      . have hm0 : 0 < m := by have := of_decide_eq_true e1; omega
        refine ⟨_, rfl, la, _, rfl, .inl (SqL.of hl3), _, rfl, _, _, rfl, rfl, _, rfl, yC (fun e2 => ?_) (fun e2 => ?_)⟩
        . have hls : l.length < size := by have := of_decide_eq_true e2; rw [zk] at this; omega
          obtain ⟨n, hn, kn⟩ := kl (by omega)
          obtain ⟨n', rfl⟩ : ∃ n', n = n' + 1 := ⟨n - 1, by omega⟩
          rw [zbu c size n' m last l hls hm0] at kn
          refine ⟨fun σ' H' => ∃ m', m' < m /\ zhV t E B H2 Q size c ca la m' σ' H', fun _ _ h => h, ?_⟩
          have qm : (m : Int) - 1 = ((m - 1 : Nat) : Int) := by omega
          refine ⟨_, rfl, _, _, rfl, rfl, ?_⟩
          dsimp only
          rw [qm]
          have hc3 := hc2.kept hb2 kp3
          obtain ⟨ddx, wa', was', words', sole', d1, _⟩ := id hc3
          refine ⟨_, rfl, ca, ddx, _, rfl, d1, zb0 _ _ (by decide +kernel) (by decide +kernel), _, rfl, B, bs3, ca, c, rfl, hc3, hb3, (kn.shift kp3).bind fun sy bs4 v4 H4 hm4 hb4 kp4 hv4 _ => ?_⟩
          cases hv4
          have k4 := kn.next hm4
          have hs19 : sy < 19 := by rw [<- hc19]; exact y9 hm4
          have hl4 := kp4.lst hb3 hl3
          have kp34 := kp3.trans kp4
          refine ⟨_, rfl, _, _, rfl, rfl, _, rfl, yC (fun e5 => ?_) (fun e5 => ?_)⟩
          . have h16 : 15 < sy := by have := of_decide_eq_true e5; omega
            rw [if_neg (by omega)] at k4
            refine ⟨_, rfl, .inl ⟨rfl, _, SqL.of hl4⟩, _, rfl, _, rfl, _, rfl, B, bs4, sy, last, rfl, h16, hs19, hb4, (k4.shift kp34).bind fun r bs5 v5 H5 hm5 hb5 kp5 hv5 _ => ?_⟩
            obtain ⟨ra, rfl, hra⟩ := hv5
            have k5 := k4.next hm5
            obtain ⟨hr15, hrl⟩ := zia hlast hm5
            have hl5 := kp5.lst hb4 hl4
            refine ⟨la, ra, _, _, rfl, rfl, hl5, hra, ?_, m - 1, by omega, last, l ++ r, bs5, some (nat sy), rfl, by rw [zb, yt], fun n hn => ?_, hlast, qE hb5 hb2 hla, qy (kp34.trans kp5) hla, by rw [List.length_append]; omega, fun hle => ?_, fun hgt => ?_⟩
            . rw [zk, zk]
              show l.length + r.length <= 2 ^ 24
              omega
            . rcases List.mem_append.mp hn with z | z
              . exact h15 n z
              . exact hr15 n z
            . exact ⟨n', by omega, k5.need.1 (decide_eq_true (by rw [<- List.length_append]; exact hle))⟩
            . exact k5.need.2 (decide_eq_false (by rw [<- List.length_append]; omega))
          . have h16 : sy < 16 := by
              have : ¬ (15 : Int) < (sy : Int) := fun z => e5 (decide_eq_true z)
              omega
            rw [if_pos h16] at k4
            have go : ∀ lst : Nat, lst = (if sy = 0 then last else sy) -> ∃ m', m' < m /\ zhV t E B H2 Q size c ca la m' [some (.ref B.p), some (nat size), some (.ref ca), some (nat (m - 1)), some (.ref la), some (nat lst), some (nat sy)] (upd H4 la (.lst (zm l ++ [nat sy]))) := by
              intro lst hlst
              refine ⟨m - 1, by omega, lst, l ++ [sy], bs4, some (nat sy), rfl, by rw [zb, yt]; rfl, fun n hn => ?_, ?_, qE hb4 hb2 hla, qy kp34 hla, by simp; omega, fun hle => ⟨n', by omega, ?_⟩, fun hgt => ?_⟩
              . rcases List.mem_append.mp hn with z | z
                . exact h15 n z
                . rw [List.mem_singleton.mp z]; omega
              . rw [hlst]; split <;> omega
              . rw [hlst]; exact k4
              . rw [List.length_append] at hgt
                simp at hgt
                omega
            refine ⟨_, rfl, .inl ⟨rfl, _, SqL.of hl4⟩, _, rfl, la, _, _, rfl, rfl, hl4, ?_, ?_⟩
            . rw [zk]
              exact Nat.lt_of_le_of_lt (by omega : l.length <= 3000) (by decide)
            . refine ⟨_, rfl, _, _, rfl, rfl, _, rfl, yC (fun e6 => ?_) (fun e6 => ?_)⟩
              . have : 0 < sy := by have := of_decide_eq_true e6; omega
                exact ⟨_, rfl, go sy (by rw [if_neg (by omega)])⟩
              . have : sy = 0 := by
                  have : ¬ (0 : Int) < (sy : Int) := fun z => e6 (decide_eq_true z)
                  omega
                exact ⟨_, rfl, go last (by rw [if_pos this])⟩
        . have hge : size <= l.length := by
            have : ¬ ((zm l).length : Int) < (size : Int) := fun z => e2 (decide_eq_true z)
            rw [zk] at this
            omega
          have hend : l.length <= size -> ∃ q, Sn15.lengths c size q m last l bs3 = some (l ++ List.replicate (size - l.length) 0, bs3) /\ Out t E B [] H2 (zbI size) Q (Sn15.lengths c size q m last l bs3) := fun hle => by
            obtain ⟨n, hn, kn⟩ := kl hle
            obtain ⟨n', rfl⟩ : ∃ n', n = n' + 1 := ⟨n - 1, by omega⟩
            exact ⟨n' + 1, by rw [xm c size n' m last l (.inl hge)]; rfl, kn⟩
          refine ⟨_, rfl, la, _, rfl, .inl (SqL.of hl3), _, rfl, _, _, rfl, rfl, _, rfl, yC (fun e3 => ?_) (fun e3 => ?_)⟩
          . exact kb (by have := of_decide_eq_true e3; rw [zk] at this; omega) _
          . have hle : l.length <= size := by
              have : ¬ (size : Int) < ((zm l).length : Int) := fun z => e3 (decide_eq_true z)
              rw [zk] at this
              omega
            obtain ⟨q, hq, kq⟩ := hend hle
            rw [hq] at kq
            exact ⟨_, rfl, kq _ _ hb3 kp3 ⟨la, l, rfl, hl3, hle, rfl, h15⟩⟩
      . have hm0 : m = 0 := by
          have : ¬ (0 : Int) < (m : Int) := fun z => e1 (decide_eq_true z)
          omega
        refine ziM ?_
        have hend : l.length <= size -> ∃ q, Sn15.lengths c size q m last l bs3 = some (l ++ List.replicate (size - l.length) 0, bs3) /\ Out t E B [] H2 (zbI size) Q (Sn15.lengths c size q m last l bs3) := fun hle => by
          obtain ⟨n, hn, kn⟩ := kl hle
          obtain ⟨n', rfl⟩ : ∃ n', n = n' + 1 := ⟨n - 1, by omega⟩
          exact ⟨n' + 1, by rw [xm c size n' m last l (.inr hm0)]; rfl, kn⟩
        refine ⟨_, rfl, la, _, rfl, .inl (SqL.of hl3), _, rfl, _, _, rfl, rfl, _, rfl, yC (fun e3 => ?_) (fun e3 => ?_)⟩
        . exact kb (by have := of_decide_eq_true e3; rw [zk] at this; omega) _
        . have hle : l.length <= size := by
            have : ¬ (size : Int) < ((zm l).length : Int) := fun z => e3 (decide_eq_true z)
            rw [zk] at this
            omega
          obtain ⟨q, hq, kq⟩ := hend hle
          rw [hq] at kq
          exact ⟨_, rfl, kq _ _ hb3 kp3 ⟨la, l, rfl, hl3, hle, rfl, h15⟩⟩
def zbb (t : Ad) (H0 : Hp) : Sn15.Code -> V -> Hp -> Prop := fun c v H => ∃ a, v = .ref a /\ zP H0 t H a c
theorem yn {t : Ad} {H H' : Hp} {B : Bi} {bs : List Bool} (k : zy [B.p] H H') (hb : zo t H' B bs) : ∀ x, H' x = none -> H x = none := fun x hx => by
  obtain ⟨dx, i, z, _⟩ := hb
  exact k.free hx (by simpa using (zc z hx).symm)
def zay (t : Ad) : Sp := fun vs H Q E => ∃ (B : Bi) (bs : List Bool) (size : Nat), vs = [.ref B.p, nat size] /\ zo t H B bs /\ Out t E B [] H (zbb t H) Q (kh size bs)
theorem jD : zq ["bits", "size", "two", "first_width", "first", "second"] ["bits", "size"] (zj zdB) := by trivial
theorem zfZ {f : Addr} {fd : FuncData} (F : Fun K "read_short_code" "read_short_code" zdB f fd) (T : Tx K mg t) (Gb : zI P w K mg base 1 t.CB "bit" ["self"] (j0 t)) (Gn : zI P w K mg base 2 t.CB "number" ["self", "width"] (yw t))
    (G : yd P w K mg base 1 t.CC "Code" ["self", "words", "sole"] (vU t)) : yg P w K mg base (CXe P w) 3 f fd ["bits", "size"] (zay t) := by
  refine F.okE jD (fun vs H Q E h => ?_) (fun cdv A outer s H vs Q E hr h => ?_)
  . obtain ⟨B, bs, size, rfl, _⟩ := h
    rfl
  . obtain ⟨B, bs, size, rfl, hb, k⟩ := h
    have hr1 : yp 1 _ := hr.mono (by decide)
    refine ⟨_, zd (zw (i := 2) jD.nd rfl (Or.inl rfl) (pm0 Gb Lv.of T.cB hr1 (pv 0)))
      (zd (zw (i := 3) jD.nd rfl (Or.inl rfl) (vt (zu xt (pm0 Gb Lv.of T.cB hr1 (pv 0)) zi (zD _)) zi zi))
      (zd (zw (i := 4) jD.nd rfl (Or.inl rfl) (pm Gn Lv.of T.cB hr (pv 0) (za (pv 3) zf)))
      (zd (ye (zu zf3 (pv 4) (pv 1) (zD _)) (zg (zY Lv.of (by rfl) T.gN T.xN)) zH)
      (zd (ye (zu xt (pv 2) zi (zD _)) (zg (zB (pmk G Lv.of hr (za (yh (za (yh zf) (za (yh (za (pv 4) zf)) zf))) (za (pv 4) zf))))) zH)
      (zd (zw (i := 5) jD.nd rfl (Or.inl rfl) (pm Gn Lv.of T.cB hr (pv 0) (za zi zf)))
      (zd (ye (PW.pt (zdi (zu zf3 (pv 5) (pv 1) (zD _)) (zab (zu xt (pv 5) (pv 4) (zD _))))) (zg (zY Lv.of (by rfl) T.gN T.xN)) zH)
      (zg (zB (pmk G Lv.of hr (za (yh (za (yh zf) (za (yh (za (zL (zeR rfl) (by rfl) T.min PyProof.Rows.boot_min (za (pv 4) (za (pv 5) zf))) (za (zL (zan rfl) (by rfl) T.max PyProof.Rows.boot_max (za (pv 4) (za (pv 5) zf))) zf))) zf))) (za zb9 zf))))))))))), ?_⟩
    unfold kh at k
    obtain ⟨dx, fs, e1, e2⟩ := hb.meth (m := "bit")
    refine ⟨_, rfl, B.p, dx, fs, rfl, e1, e2, B, bs, rfl, hb, k.bind fun two bs1 v1 H1 hm1 hb1 kp1 hv1 k1 => ?_⟩
    cases hv1
    have htwo : two < 2 := xU hm1
    obtain ⟨dx1, fs1, e3, e4⟩ := hb1.meth (m := "bit")
    refine ⟨_, rfl, B.p, dx1, fs1, rfl, e3, e4, B, bs1, rfl, hb1, k1.bind fun long bs2 v2 H2 hm2 hb2 kp2 hv2 k2 => ?_⟩
    cases hv2
    obtain ⟨dx2, fs2, e5, e6⟩ := hb2.meth (m := "number")
    have hfw : ∀ fw : Nat, fw = (if long = 1 then 8 else 1) -> fw <= 1000 := fun fw h => by rw [h]; split <;> decide
    refine ⟨rfl, _, rfl, yC (fun e => ?_) (fun e => ?_)⟩
    . have hl : long = 1 := by have := V.int.inj (of_decide_eq_true e); omega
      rw [if_pos hl] at k2
      refine ⟨_, rfl, B.p, dx2, fs2, rfl, e5, e6, _, rfl, B, bs2, 8, rfl, by decide, hb2, k2.bind fun a bs3 v3 H3 hm3 hb3 kp3 hv3 k3 => ?_⟩
      cases hv3
      obtain ⟨kt, kf⟩ := k3.need
      refine ⟨_, rfl, _, rfl, _, _, rfl, rfl, _, rfl, yC (fun e7 => ?_) (fun e7 => ?_)⟩
      . exact kf (decide_eq_false (by have := of_decide_eq_true e7; omega)) _
      . have ha : a < size := by
          have : ¬ (size : Int) <= (a : Int) := fun z => e7 (decide_eq_true z)
          omega
        have k4 := kt (decide_eq_true ha)
        refine ⟨_, rfl, rfl, _, rfl, yC (fun e8 => ?_) (fun e8 => ?_)⟩
        . have h0 : ¬ two = 1 := by have := V.int.inj (of_decide_eq_true e8); omega
          rw [if_neg h0] at k4
          refine ⟨Nat.zero_le _, fun x0 hx0 => ⟨_, rfl, (by show 1 <= sizeLine; decide), fun x1 hx1 => ⟨(by show 2 <= sizeLine; decide), fun wa hwa => ⟨_, rfl, ?_⟩⟩⟩⟩
          intro p dxp hp hdxp hne
          refine ⟨p, wa, dxp, some a, rfl, zb, fun H' e9 kp => ⟨rfl, ?_⟩⟩
          have f0 : upd (upd (upd H3 x0 (.lst [])) x1 (.lst [nat a])) wa (.lst [.ref x0, .ref x1]) x0 = some (.lst (zm [])) := by
            rw [zh (zc (o := .lst []) (by rw [zh (zc zb hx1)]; exact zb) hwa), zh (zc zb hx1)]; exact zb
          have f1 : upd (upd (upd H3 x0 (.lst [])) x1 (.lst [nat a])) wa (.lst [.ref x0, .ref x1]) x1 = some (.lst (zm [a])) := by
            rw [zh (zc zb hwa)]; exact zb
          have sm : zQ H3 (upd (upd (upd H3 x0 (.lst [])) x1 (.lst [nat a])) wa (.lst [.ref x0, .ref x1])) := zr (zr (zr (zQ.refl _) hx0) hx1) hwa
          have d3 := yn ((kp1.trans kp2).trans kp3) hb3
          obtain ⟨g1, g2⟩ := zP.made (H0 := H) (c := jb size a) (was := [x0, x1]) (words := [[], [a]]) hp hdxp kp e9 zb ⟨rfl, fun j x hx => match j, hx with
            | 0, hx => ⟨[], rfl, by rw [<- Option.some.inj hx]; exact f0⟩
            | 1, hx => ⟨[a], rfl, by rw [<- Option.some.inj hx]; exact f1⟩
            | j + 2, hx => by simp at hx⟩ ⟨j7 ha, by rw [xY]; exact ha⟩ (fun x hx => d3 x (sm.free hx)) (d3 _ ((zr (zr (zQ.refl _) hx0) hx1).free hwa)) (fun x hx => by
            simp only [List.mem_cons, List.not_mem_nil, or_false] at hx
            rcases hx with z | z
            . rw [z]; exact d3 _ hx0
            . rw [z]; exact d3 _ ((zr (zQ.refl _) hx0).free hx1))
          exact k4.pure' (hb3.same (sm.trans g2)) (zy.same (sm.trans g2) _) ⟨p, rfl, g1⟩
        . have h1 : two = 1 := by
            have : ¬ two = 0 := fun z => e8 (by rw [z]; exact decide_eq_true rfl)
            omega
          rw [if_pos h1] at k4
          obtain ⟨dx3, fs3, e9, e10⟩ := hb3.meth (m := "number")
          refine ⟨_, rfl, B.p, dx3, fs3, rfl, e9, e10, B, bs3, 8, rfl, by decide, hb3, k4.bind fun b bs5 v5 H5 hm5 hb5 kp5 hv5 k5 => ?_⟩
          cases hv5
          obtain ⟨kt5, kf5⟩ := k5.need
          refine ⟨_, rfl, _, rfl, _, _, rfl, rfl, _, rfl, yC (fun e11 => ?_) (fun e11 => ?_)⟩
          . have hbs : ¬ b < size := by have := of_decide_eq_true e11; omega
            exact zc7 (kf5 (by rw [decide_eq_false hbs]; rfl) _)
          . have hbs : b < size := by
              have : ¬ (size : Int) <= (b : Int) := fun z => e11 (decide_eq_true z)
              omega
            refine ⟨_, rfl, _, rfl, rfl, _, rfl, yC (fun e12 => ?_) (fun e12 => ?_)⟩
            . have hab : b = a := by have := V.int.inj (of_decide_eq_true e12); omega
              exact kf5 (by rw [hab, decide_eq_true ha]; simp) _
            . have hab : a ≠ b := fun z => e12 (by rw [z]; exact decide_eq_true rfl)
              have k6 := kt5 (by rw [decide_eq_true hbs, Bool.true_and, bne_iff_ne]; exact fun z => hab z.symm)
              have qmin : (if (b : Int) < (a : Int) then (b : Int) else (a : Int)) = ((min a b : Nat) : Int) := by split <;> omega
              have qmax : (if (b : Int) > (a : Int) then (b : Int) else (a : Int)) = ((max a b : Nat) : Int) := by split <;> omega
              refine ⟨Nat.zero_le _, fun x0 hx0 => ⟨_, rfl, _, rfl, _, _, rfl, _, rfl, _, rfl, _, _, rfl, (by show 2 <= sizeLine; decide), fun x1 hx1 => ⟨(by show 2 <= sizeLine; decide), fun wa hwa => ?_⟩⟩⟩
              rw [qmin, qmax]
              intro p dxp hp hdxp hne
              refine ⟨p, wa, dxp, none, rfl, zb, fun H' e9 kp => ⟨rfl, ?_⟩⟩
              rw [qmin, qmax] at hwa
              generalize hW : upd (upd (upd H5 x0 (.lst [])) x1 (.lst [nat (min a b), nat (max a b)])) wa (.lst [.ref x0, .ref x1]) = HW at hp hdxp kp
              have f0 : HW x0 = some (.lst (zm [])) := by
                rw [<- hW, zh (zc (o := .lst []) (by rw [zh (zc zb hx1)]; exact zb) hwa), zh (zc zb hx1)]; exact zb
              have f1 : HW x1 = some (.lst (zm [min a b, max a b])) := by
                rw [<- hW, zh (zc zb hwa)]; exact zb
              have f2 : HW wa = some (.lst [.ref x0, .ref x1]) := by rw [<- hW]; exact zb
              have sm : zQ H5 HW := by rw [<- hW]; exact zr (zr (zr (zQ.refl _) hx0) hx1) hwa
              have d5 := yn (((kp1.trans kp2).trans kp3).trans kp5) hb5
              obtain ⟨g1, g2⟩ := zP.made (H0 := H) (c := yU size a b) (was := [x0, x1]) (words := [[], [min a b, max a b]]) hp hdxp kp e9 f2 ⟨rfl, fun j x hx => match j, hx with
                | 0, hx => ⟨[], rfl, by rw [<- Option.some.inj hx]; exact f0⟩
                | 1, hx => ⟨_, rfl, by rw [<- Option.some.inj hx]; exact f1⟩
                | j + 2, hx => by simp at hx⟩ ⟨_, rfl, ⟨by simp, by simp [zaz]⟩, qp ha hbs hab⟩ (fun x hx => d5 x (sm.free hx)) (d5 _ ((zr (zr (zQ.refl _) hx0) hx1).free hwa)) (fun x hx => by
                simp only [List.mem_cons, List.not_mem_nil, or_false] at hx
                rcases hx with z | z
                . rw [z]; exact d5 _ hx0
                . rw [z]; exact d5 _ ((zr (zQ.refl _) hx0).free hx1))
              exact k6.pure' (hb5.same (sm.trans g2)) (zy.same (sm.trans g2) _) ⟨p, rfl, g1⟩
    . have hl : ¬ long = 1 := fun z => e (by rw [z]; exact decide_eq_true rfl)
      rw [if_neg hl] at k2
      refine ⟨_, rfl, B.p, dx2, fs2, rfl, e5, e6, _, rfl, B, bs2, 1, rfl, by decide, hb2, k2.bind fun a bs3 v3 H3 hm3 hb3 kp3 hv3 k3 => ?_⟩
      cases hv3
      obtain ⟨kt, kf⟩ := k3.need
      refine ⟨_, rfl, _, rfl, _, _, rfl, rfl, _, rfl, yC (fun e7 => ?_) (fun e7 => ?_)⟩
      . exact kf (decide_eq_false (by have := of_decide_eq_true e7; omega)) _
      . have ha : a < size := by
          have : ¬ (size : Int) <= (a : Int) := fun z => e7 (decide_eq_true z)
          omega
        have k4 := kt (decide_eq_true ha)
        refine ⟨_, rfl, rfl, _, rfl, yC (fun e8 => ?_) (fun e8 => ?_)⟩
        . have h0 : ¬ two = 1 := by have := V.int.inj (of_decide_eq_true e8); omega
          rw [if_neg h0] at k4
          refine ⟨Nat.zero_le _, fun x0 hx0 => ⟨_, rfl, (by show 1 <= sizeLine; decide), fun x1 hx1 => ⟨(by show 2 <= sizeLine; decide), fun wa hwa => ⟨_, rfl, ?_⟩⟩⟩⟩
          intro p dxp hp hdxp hne
          refine ⟨p, wa, dxp, some a, rfl, zb, fun H' e9 kp => ⟨rfl, ?_⟩⟩
          have f0 : upd (upd (upd H3 x0 (.lst [])) x1 (.lst [nat a])) wa (.lst [.ref x0, .ref x1]) x0 = some (.lst (zm [])) := by
            rw [zh (zc (o := .lst []) (by rw [zh (zc zb hx1)]; exact zb) hwa), zh (zc zb hx1)]; exact zb
          have f1 : upd (upd (upd H3 x0 (.lst [])) x1 (.lst [nat a])) wa (.lst [.ref x0, .ref x1]) x1 = some (.lst (zm [a])) := by
            rw [zh (zc zb hwa)]; exact zb
          have sm : zQ H3 (upd (upd (upd H3 x0 (.lst [])) x1 (.lst [nat a])) wa (.lst [.ref x0, .ref x1])) := zr (zr (zr (zQ.refl _) hx0) hx1) hwa
          have d3 := yn ((kp1.trans kp2).trans kp3) hb3
          obtain ⟨g1, g2⟩ := zP.made (H0 := H) (c := jb size a) (was := [x0, x1]) (words := [[], [a]]) hp hdxp kp e9 zb ⟨rfl, fun j x hx => match j, hx with
            | 0, hx => ⟨[], rfl, by rw [<- Option.some.inj hx]; exact f0⟩
            | 1, hx => ⟨[a], rfl, by rw [<- Option.some.inj hx]; exact f1⟩
            | j + 2, hx => by simp at hx⟩ ⟨j7 ha, by rw [xY]; exact ha⟩ (fun x hx => d3 x (sm.free hx)) (d3 _ ((zr (zr (zQ.refl _) hx0) hx1).free hwa)) (fun x hx => by
            simp only [List.mem_cons, List.not_mem_nil, or_false] at hx
            rcases hx with z | z
            . rw [z]; exact d3 _ hx0
            . rw [z]; exact d3 _ ((zr (zQ.refl _) hx0).free hx1))
          exact k4.pure' (hb3.same (sm.trans g2)) (zy.same (sm.trans g2) _) ⟨p, rfl, g1⟩
        . have h1 : two = 1 := by
            have : ¬ two = 0 := fun z => e8 (by rw [z]; exact decide_eq_true rfl)
            omega
          rw [if_pos h1] at k4
          obtain ⟨dx3, fs3, e9, e10⟩ := hb3.meth (m := "number")
          refine ⟨_, rfl, B.p, dx3, fs3, rfl, e9, e10, B, bs3, 8, rfl, by decide, hb3, k4.bind fun b bs5 v5 H5 hm5 hb5 kp5 hv5 k5 => ?_⟩
          cases hv5
          obtain ⟨kt5, kf5⟩ := k5.need
          refine ⟨_, rfl, _, rfl, _, _, rfl, rfl, _, rfl, yC (fun e11 => ?_) (fun e11 => ?_)⟩
          . have hbs : ¬ b < size := by have := of_decide_eq_true e11; omega
            exact zc7 (kf5 (by rw [decide_eq_false hbs]; rfl) _)
          . have hbs : b < size := by
              have : ¬ (size : Int) <= (b : Int) := fun z => e11 (decide_eq_true z)
              omega
            refine ⟨_, rfl, _, rfl, rfl, _, rfl, yC (fun e12 => ?_) (fun e12 => ?_)⟩
            . have hab : b = a := by have := V.int.inj (of_decide_eq_true e12); omega
              exact kf5 (by rw [hab, decide_eq_true ha]; simp) _
            . have hab : a ≠ b := fun z => e12 (by rw [z]; exact decide_eq_true rfl)
              have k6 := kt5 (by rw [decide_eq_true hbs, Bool.true_and, bne_iff_ne]; exact fun z => hab z.symm)
              have qmin : (if (b : Int) < (a : Int) then (b : Int) else (a : Int)) = ((min a b : Nat) : Int) := by split <;> omega
              have qmax : (if (b : Int) > (a : Int) then (b : Int) else (a : Int)) = ((max a b : Nat) : Int) := by split <;> omega
              refine ⟨Nat.zero_le _, fun x0 hx0 => ⟨_, rfl, _, rfl, _, _, rfl, _, rfl, _, rfl, _, _, rfl, (by show 2 <= sizeLine; decide), fun x1 hx1 => ⟨(by show 2 <= sizeLine; decide), fun wa hwa => ?_⟩⟩⟩
              rw [qmin, qmax]
              intro p dxp hp hdxp hne
              refine ⟨p, wa, dxp, none, rfl, zb, fun H' e9 kp => ⟨rfl, ?_⟩⟩
              rw [qmin, qmax] at hwa
              generalize hW : upd (upd (upd H5 x0 (.lst [])) x1 (.lst [nat (min a b), nat (max a b)])) wa (.lst [.ref x0, .ref x1]) = HW at hp hdxp kp
              have f0 : HW x0 = some (.lst (zm [])) := by
                rw [<- hW, zh (zc (o := .lst []) (by rw [zh (zc zb hx1)]; exact zb) hwa), zh (zc zb hx1)]; exact zb
              have f1 : HW x1 = some (.lst (zm [min a b, max a b])) := by
                rw [<- hW, zh (zc zb hwa)]; exact zb
              have f2 : HW wa = some (.lst [.ref x0, .ref x1]) := by rw [<- hW]; exact zb
              have sm : zQ H5 HW := by rw [<- hW]; exact zr (zr (zr (zQ.refl _) hx0) hx1) hwa
              have d5 := yn (((kp1.trans kp2).trans kp3).trans kp5) hb5
              obtain ⟨g1, g2⟩ := zP.made (H0 := H) (c := yU size a b) (was := [x0, x1]) (words := [[], [min a b, max a b]]) hp hdxp kp e9 f2 ⟨rfl, fun j x hx => match j, hx with
                | 0, hx => ⟨[], rfl, by rw [<- Option.some.inj hx]; exact f0⟩
                | 1, hx => ⟨_, rfl, by rw [<- Option.some.inj hx]; exact f1⟩
                | j + 2, hx => by simp at hx⟩ ⟨_, rfl, ⟨by simp, by simp [zaz]⟩, qp ha hbs hab⟩ (fun x hx => d5 x (sm.free hx)) (d5 _ ((zr (zr (zQ.refl _) hx0) hx1).free hwa)) (fun x hx => by
                simp only [List.mem_cons, List.not_mem_nil, or_false] at hx
                rcases hx with z | z
                . rw [z]; exact d5 _ hx0
                . rw [z]; exact d5 _ ((zr (zQ.refl _) hx0).free hx1))
              exact k6.pure' (hb5.same (sm.trans g2)) (zy.same (sm.trans g2) _) ⟨p, rfl, g1⟩
def zig (t : Ad) (H0 : Hp) (size : Nat) : Sn15.Code -> V -> Hp -> Prop := fun c v H => zbb t H0 c v H /\ c.length = size
def zc8 (t : Ad) : Sp := fun vs H Q E => ∃ (B : Bi) (bs : List Bool) (size : Nat), vs = [.ref B.p, nat size] /\ size <= 3000 /\ zo t H B bs /\ Out t E B [] H (zig t H size) Q (Sn15.code size bs)
theorem zi8 : zq ["bits", "size"] ["bits", "size"] (zj zhN) := by trivial
theorem zP.pad {H0 : Hp} {t : Ad} {H : Hp} {a : Addr} {l : List Nat} (h : zP H0 t H a l) (k : Nat) : zP H0 t H a (l ++ List.replicate k 0) := by
  obtain ⟨dx, wa, was, words, sole, ⟨h1, h2, h3, h4⟩, n⟩ := h
  refine ⟨dx, wa, was, words, sole, ⟨h1, h2, h3, ?_⟩, n⟩
  cases sole with
  | some s => exact ⟨by rw [kH]; exact h4.1, by rw [List.length_append]; exact Nat.lt_of_lt_of_le h4.2 (Nat.le_add_right _ _)⟩
  | none =>
    obtain ⟨ws, hw, hf, hs⟩ := h4
    exact ⟨ws, hw, hf, by rw [kH]; exact hs⟩
theorem zim {f : Addr} {fd : FuncData} (F : Fun K "read_code" "read_code" zhN f fd) (T : Tx K mg t) (Gb : zI P w K mg base 1 t.CB "bit" ["self"] (j0 t)) (Gs : zE P w K mg base 3 "read_short_code" ["bits", "size"] (zay t))
    (Gl : zE P w K mg base 5 "read_lengths" ["bits", "size"] (zeW t)) (Gc : zE P w K mg base 3 "code_of_lengths" ["lengths"] (zgh t)) : yg P w K mg base (CXe P w) 6 f fd ["bits", "size"] (zc8 t) := by
  refine F.okE zi8 (fun vs H Q E h => ?_) (fun cdv A outer s H vs Q E hr h => ?_)
  . obtain ⟨B, bs, size, rfl, _⟩ := h
    rfl
  . obtain ⟨B, bs, size, rfl, hsz, hb, k⟩ := h
    have hr1 : yp 1 _ := hr.mono (by decide)
    have hr3 : yp 3 _ := hr.mono (by decide)
    refine ⟨_, zd (ye (zu xt (pm0 Gb Lv.of T.cB hr1 (pv 0)) zi (zD _)) (zg (zB (pd Gs Lv.of hr3 (za (pv 0) (za (pv 1) zf))))) zH)
      (zg (zB (pd Gc Lv.of hr3 (za (pd Gl Lv.of hr (za (pv 0) (za (pv 1) zf))) zf)))), ?_⟩
    rw [zhk] at k
    have hlen : ∀ c bs', wZ size bs = some (c, bs') -> c.length = size := fun c bs' h => ze4 h
    have k0 : Out t E B [] H (zbb t H) Q (wZ size bs) := by
      cases hm : wZ size bs with
      | none => rw [hm] at k; exact k
      | some x => rw [hm] at k; exact fun v H2 b k2 r => k v H2 b k2 ⟨r, hlen x.1 x.2 hm⟩
    unfold wZ at k0
    rw [zf9] at k0
    obtain ⟨dx, fs, e1, e2⟩ := hb.meth (m := "bit")
    refine ⟨_, rfl, B.p, dx, fs, rfl, e1, e2, B, bs, rfl, hb, k0.bind fun u bs1 v1 H1 hm1 hb1 kp1 hv1 k1 => ?_⟩
    cases hv1
    refine ⟨rfl, _, rfl, yC (fun e => ?_) (fun e => ?_)⟩
    . have e' : u = 1 := by have := V.int.inj (of_decide_eq_true e); omega
      rw [if_pos e'] at k1
      exact ⟨_, rfl, _, rfl, B, bs1, size, rfl, hb1, k1.imp fun c v H' ⟨a, e, h⟩ => ⟨a, e, h.rebase (yn kp1 hb1)⟩⟩
    . have e' : ¬ u = 1 := fun z => e (by rw [z]; exact decide_eq_true rfl)
      rw [if_neg e'] at k1
      refine ⟨_, rfl, _, rfl, B, bs1, size, rfl, hsz, hb1, k1.bind fun l bs2 v2 H2 hm2 hb2 kp2 hv2 k2 => ?_⟩
      obtain ⟨la, l0, rfl, hla, hl0, rfl, h15⟩ := hv2
      rw [zgq] at k2
      obtain ⟨kt, kf⟩ := k2.need
      refine ⟨la, l0, rfl, hla, h15, by omega, fun hg a H4 hc sm => ?_, fun hg => kf hg⟩
      exact (kt hg).pure' (hb2.same sm) (zy.same sm _) ⟨a, rfl, (hc.rebase (yn (kp1.trans kp2) hb2)).pad _⟩
end
end Lk
end
section
namespace Lk
open PySem PySem.Spec PyProof.Rows L2
open Sn15 (D bits bitsOf symbol Px Group up)
abbrev zd2 : Stmt := z0 (top 31) 0
abbrev zfa : Stmt := z0 (top 31) 1
abbrev zdd : Stmt := z0 (top 32) 0
abbrev zda : Stmt := z0 (top 32) 1
abbrev zdt : Stmt := top 33
abbrev zdR : Stmt := top 34
abbrev zdb : Stmt := top 38
abbrev wj : Stmt := top 41
abbrev zhw : Stmt := top 42
abbrev zbt : Stmt := top 43
def sqF (z ac : Nat) (cl : Addr) : List (Str × V) := [("shift", nat z), ("across", nat ac), ("colours", .ref cl)]
theorem zjg (z ac : Nat) (cl : Addr) : (sqF z ac cl).lookup ("shift" : Str) = some (nat z) := zN
theorem zks (z ac : Nat) (cl : Addr) : (sqF z ac cl).lookup ("across" : Str) = some (nat ac) := (zp (by decide +kernel)).trans zN
theorem zhq (z ac : Nat) (cl : Addr) : (sqF z ac cl).lookup ("colours" : Str) = some (.ref cl) := (zp (by decide +kernel)).trans ((zp (by decide +kernel)).trans zN)
theorem zjc (z ac : Nat) (cl : Addr) {m : Str} (h1 : (m == ("shift" : Str)) = false) (h2 : (m == ("across" : Str)) = false) (h3 : (m == ("colours" : Str)) = false) : (sqF z ac cl).lookup m = none := (zp h1).trans ((zp h2).trans ((zp h3).trans rfl))
structure zdE (t : Ad) (H : Hp) (a cl : Addr) (z ac : Nat) (l : List Px) : Prop where
  ins : ∃ dx, H a = some (.ins t.CS dx (sqF z ac cl))
  lst : H cl = some (.lst (zm (zn l)))
  ok : ∀ p ∈ l, yq p
theorem zdE.kept {t : Ad} {H H' : Hp} {a cl : Addr} {z ac : Nat} {l : List Px} {B : Bi} {bs : List Bool} (h : zdE t H a cl z ac l) (b : zo t H B bs) (k : zy [B.p] H H') : zdE t H' a cl z ac l := by
  obtain ⟨dx, e⟩ := h.ins
  exact ⟨⟨dx, k.ins b e (by decide +kernel)⟩, k.lst b h.lst, h.ok⟩
theorem zdE.same {t : Ad} {H H' : Hp} {a cl : Addr} {z ac : Nat} {l : List Px} (h : zdE t H a cl z ac l) (k : zQ H H') : zdE t H' a cl z ac l := by
  obtain ⟨dx, e⟩ := h.ins
  exact ⟨⟨dx, k _ _ e⟩, k _ _ h.lst, h.ok⟩
structure vj (k : Nat) (g : Group) : Prop where
  g1 : g.green.length = 280 + zW k
  r1 : g.red.length = 256
  b1 : g.blue.length = 256
  a1 : g.alpha.length = 256
  d1 : g.distance.length = 40
def yK (t : Ad) (H : Hp) (k : Nat) (ga : Addr) (g : Group) : Prop := ∃ a0 a1 a2 a3 a4 : Addr, H ga = some (.lst [.ref a0, .ref a1, .ref a2, .ref a3, .ref a4]) /\ yL t H a0 g.green /\ yL t H a1 g.red /\ yL t H a2 g.blue /\ yL t H a3 g.alpha /\ yL t H a4 g.distance /\ vj k g
theorem yK.kept {t : Ad} {H H' : Hp} {k : Nat} {ga : Addr} {g : Group} {B : Bi} {bs : List Bool} (h : yK t H k ga g) (b : zo t H B bs) (kp : zy [B.p] H H') : yK t H' k ga g := by
  obtain ⟨a0, a1, a2, a3, a4, h0, h1, h2, h3, h4, h5, h6⟩ := h
  exact ⟨a0, a1, a2, a3, a4, kp.lst b h0, h1.kept b kp, h2.kept b kp, h3.kept b kp, h4.kept b kp, h5.kept b kp, h6⟩
theorem yK.same {t : Ad} {H H' : Hp} {k : Nat} {ga : Addr} {g : Group} (h : yK t H k ga g) (s : zQ H H') : yK t H' k ga g := by
  obtain ⟨a0, a1, a2, a3, a4, h0, h1, h2, h3, h4, h5, h6⟩ := h
  exact ⟨a0, a1, a2, a3, a4, s _ _ h0, h1.same s, h2.same s, h3.same s, h4.same s, h5.same s, h6⟩
def grF (sv : V) (la : Addr) : List (Str × V) := [("squares", sv), ("groups", .ref la)]
theorem zhB (sv : V) (la : Addr) : (grF sv la).lookup ("squares" : Str) = some sv := zN
theorem zjY (sv : V) (la : Addr) : (grF sv la).lookup ("groups" : Str) = some (.ref la) := (zp (by decide +kernel)).trans zN
theorem zjH (sv : V) (la : Addr) {m : Str} (h1 : (m == ("squares" : Str)) = false) (h2 : (m == ("groups" : Str)) = false) : (grF sv la).lookup m = none := (zp h1).trans ((zp h2).trans rfl)
def zjC (t : Ad) (H : Hp) (w h : Nat) (gs : List Group) (wh : Nat -> Nat -> Nat) (sv : V) : Prop := (sv = .non /\ (wh = fun _ _ => 0) /\ 0 < gs.length) \/
  ∃ (sa cl : Addr) (z : Nat) (l : List Px), sv = .ref sa /\ zdE t H sa cl z (up w (2 ^ z)) l /\ wh = yx w z l /\ z <= 20 /\ l.length = up w (2 ^ z) * up h (2 ^ z) /\ ∀ p ∈ l, yJ p < gs.length
structure jP (t : Ad) (H : Hp) (k : Nat) (G : Addr) (w h : Nat) (gs : List Group) (wh : Nat -> Nat -> Nat) : Prop where
  ex : ∃ (dx la : Addr) (sv : V) (gas : List Addr), H G = some (.ins t.CG dx (grF sv la)) /\ H la = some (.lst (gas.map V.ref)) /\ gas.length = gs.length /\ (∀ (j : Nat) (ga : Addr), gas[j]? = some ga -> ∃ g, gs[j]? = some g /\ yK t H k ga g) /\ zjC t H w h gs wh sv
theorem jP.kept {t : Ad} {H H' : Hp} {k : Nat} {G : Addr} {w h : Nat} {gs : List Group} {wh : Nat -> Nat -> Nat} {B : Bi} {bs : List Bool} (g : jP t H k G w h gs wh) (b : zo t H B bs) (kp : zy [B.p] H H') : jP t H' k G w h gs wh := by
  obtain ⟨dx, la, sv, gas, h1, h2, h3, h4, h5⟩ := g.ex
  refine ⟨dx, la, sv, gas, kp.ins b h1 (by decide +kernel), kp.lst b h2, h3, fun j ga e => ?_, ?_⟩
  . obtain ⟨g, e1, e2⟩ := h4 j ga e
    exact ⟨g, e1, e2.kept b kp⟩
  . rcases h5 with h5 | ⟨sa, cl, z, l, e1, e2, r⟩
    . exact .inl h5
    . exact .inr ⟨sa, cl, z, l, e1, e2.kept b kp, r⟩
theorem jP.same {t : Ad} {H H' : Hp} {k : Nat} {G : Addr} {w h : Nat} {gs : List Group} {wh : Nat -> Nat -> Nat} (g : jP t H k G w h gs wh) (s : zQ H H') : jP t H' k G w h gs wh := by
  obtain ⟨dx, la, sv, gas, h1, h2, h3, h4, h5⟩ := g.ex
  refine ⟨dx, la, sv, gas, s _ _ h1, s _ _ h2, h3, fun j ga e => ?_, ?_⟩
  . obtain ⟨g, e1, e2⟩ := h4 j ga e
    exact ⟨g, e1, e2.same s⟩
  . rcases h5 with h5 | ⟨sa, cl, z, l, e1, e2, r⟩
    . exact .inl h5
    . exact .inr ⟨sa, cl, z, l, e1, e2.same s, r⟩
section
variable {P : Program} {w : World} {K : PySem.W.Frag} {mg : Str -> Option Value} {base : Heap} {t : Ad}
def zaE (t : Ad) : Sp := fun vs H Q _ => ∃ (p dx cl : Addr) (z ac : Nat), vs = [.ref p, nat z, nat ac, .ref cl] /\ H p = some (.ins t.CS dx []) /\ ∀ H', H' p = some (.ins t.CS dx (sqF z ac cl)) -> zy [p] H H' -> Q .non H'
theorem zij : zq ["self", "shift", "across", "colours"] ["self", "shift", "across", "colours"] (zj zd2) := by trivial
theorem zf0 {f : Addr} {fd : FuncData} (F : Fun K "__init__" "Squares.__init__" zd2 f fd) (T : Tx K mg t) : yg P w K mg base (CXe P w) 1 f fd ["self", "shift", "across", "colours"] (zaE t) := by
  refine F.okE zij (fun vs H Q E h => ?_) (fun cdv A outer s H vs Q E hr h => ?_)
  . obtain ⟨p, dx, cl, z, ac, rfl, _⟩ := h
    rfl
  . obtain ⟨p, dx, cl, z, ac, rfl, hp, k⟩ := h
    refine ⟨_, zd (zU (pv 0) (pv 1) rfl) (zd (zU (pv 0) (pv 2) rfl) (zg (zU (pv 0) (pv 3) rfl))), ?_⟩
    refine ⟨_, rfl, _, rfl, p, t.CS, dx, _, rfl, hp, T.cS, T.sS, (by show 0 < 1000; decide), ?_⟩
    refine ⟨_, rfl, _, rfl, p, t.CS, dx, _, rfl, zb, T.cS, T.sA, (by show 1 < 1000; decide), ?_⟩
    refine ⟨_, rfl, _, rfl, p, t.CS, dx, _, rfl, zb, T.cS, T.sC, (by show 2 < 1000; decide), ?_⟩
    refine k _ ?_ (((zy.put (by simp)).trans (zy.put (by simp))).trans (zy.put (by simp)))
    rw [zb]
    rfl
def vX (t : Ad) : Sp := fun vs H Q _ => ∃ (p dx la : Addr) (sv : V), vs = [.ref p, sv, .ref la] /\ H p = some (.ins t.CG dx []) /\ ∀ H', H' p = some (.ins t.CG dx (grF sv la)) -> zy [p] H H' -> Q .non H'
theorem zhI : zq ["self", "squares", "groups"] ["self", "squares", "groups"] (zj zdd) := by trivial
theorem zfm {f : Addr} {fd : FuncData} (F : Fun K "__init__" "Groups.__init__" zdd f fd) (T : Tx K mg t) : yg P w K mg base (CXe P w) 1 f fd ["self", "squares", "groups"] (vX t) := by
  refine F.okE zhI (fun vs H Q E h => ?_) (fun cdv A outer s H vs Q E hr h => ?_)
  . obtain ⟨p, dx, la, sv, rfl, _⟩ := h
    rfl
  . obtain ⟨p, dx, la, sv, rfl, hp, k⟩ := h
    refine ⟨_, zd (zU (pv 0) (pv 1) rfl) (zg (zU (pv 0) (pv 2) rfl)), ?_⟩
    refine ⟨_, rfl, _, rfl, p, t.CG, dx, _, rfl, hp, T.cG, T.gS, (by show 0 < 1000; decide), ?_⟩
    refine ⟨_, rfl, _, rfl, p, t.CG, dx, _, rfl, zb, T.cG, T.gG, (by show 1 < 1000; decide), ?_⟩
    refine k _ ?_ ((zy.put (by simp)).trans (zy.put (by simp)))
    rw [zb]
    rfl
theorem zc2 {p : Px} (h : yq p) : Builtin.bitAnd (((p.word : Nat) : Int) / 2 ^ (8 : Int).toNat) 65535 = ((yJ p : Nat) : Int) := by
  obtain ⟨h1, h2, h3, h4⟩ := h
  have e : (2 : Int) ^ (8 : Int).toNat = 256 := by decide
  rw [bitAnd_m16, e]
  unfold yJ Px.word
  omega
def wn : Sp := fun vs H Q _ => ∃ p : Px, vs = [nat p.word] /\ yq p /\ Q (nat (yJ p)) H
theorem zh2 : zq ["colour"] ["colour"] (zj zdt) := by trivial
theorem zgw {f : Addr} {fd : FuncData} (F : Fun K "group_number" "group_number" zdt f fd) : yg P w K mg base (CXe P w) 1 f fd ["colour"] wn := by
  refine F.okE zh2 (fun vs H Q E h => ?_) (fun cdv A outer s H vs Q E hr h => ?_)
  . obtain ⟨p, rfl, _⟩ := h
    rfl
  . obtain ⟨p, rfl, hp, k⟩ := h
    refine ⟨_, zg (zB (zt xI (zt qY (pv 0) zi) zi)), ?_⟩
    refine ⟨_, rfl, _, _, rfl, rfl, (by show (0 : Int) <= 8; decide), _, _, rfl, rfl, ?_⟩
    show Q (.int (Builtin.bitAnd (((p.word : Nat) : Int) / 2 ^ (8 : Int).toNat) 65535)) H
    rw [zc2 hp]
    exact k
def vA : Sp := fun vs H Q _ => ∃ n z : Nat, vs = [nat n, nat z] /\ z <= 100 /\ Q (nat (up n (2 ^ z))) H
theorem zhx : zq ["number", "shift"] ["number", "shift"] (zj zdR) := by trivial
theorem zfs {f : Addr} {fd : FuncData} (F : Fun K "divided_up" "divided_up" zdR f fd) : yg P w K mg base (CXe P w) 1 f fd ["number", "shift"] vA := by
  refine F.okE zhx (fun vs H Q E h => ?_) (fun cdv A outer s H vs Q E hr h => ?_)
  . obtain ⟨n, z, rfl, _⟩ := h
    rfl
  . obtain ⟨n, z, rfl, hz, k⟩ := h
    refine ⟨_, zg (zB (zt qY (zt y8 (zt zT (pv 0) (zt xa zi (pv 1))) zi) (pv 1))), ?_⟩
    refine ⟨_, rfl, _, rfl, _, _, rfl, rfl, ⟨by omega, by omega, by decide⟩, _, _, rfl, rfl, _, _, rfl, rfl, _, rfl, _, _, rfl, rfl, (by show (0 : Int) <= (z : Int); omega), ?_⟩
    show Q (.int (((n : Int) + 1 * 2 ^ ((z : Nat) : Int).toNat - 1) / 2 ^ ((z : Nat) : Int).toNat)) H
    have e : ((n : Int) + 1 * 2 ^ ((z : Nat) : Int).toNat - 1) / 2 ^ ((z : Nat) : Int).toNat = ((up n (2 ^ z) : Nat) : Int) := by
      have hp : 0 < (2 : Nat) ^ z := Nat.pow_pos (by decide)
      unfold up
      rw [Int.toNat_natCast, two_pow_int, Int.natCast_ediv]
      congr 1
      omega
    rw [e]
    exact k
def zaZ (t : Ad) : Sp := fun vs H Q _ => ∃ (a cl : Addr) (z ac x y : Nat) (l : List Px), vs = [.ref a, nat x, nat y] /\ zdE t H a cl z ac l /\ ac <= 2 ^ 20 /\ y / 2 ^ z * ac + x / 2 ^ z < l.length /\ Q (nat (l.getD (y / 2 ^ z * ac + x / 2 ^ z) Sn15.black).word) H
theorem ziw : zq ["self", "x", "y"] ["self", "x", "y"] (zj zfa) := by trivial
theorem zfI {f : Addr} {fd : FuncData} (F : Fun K "colour_at" "Squares.colour_at" zfa f fd) (T : Tx K mg t) : yg P w K mg base (CXe P w) 1 f fd ["self", "x", "y"] (zaZ t) := by
  refine F.okE ziw (fun vs H Q E h => ?_) (fun cdv A outer s H vs Q E hr h => ?_)
  . obtain ⟨a, cl, z, ac, x, y, l, rfl, _⟩ := h
    rfl
  . obtain ⟨a, cl, z, ac, x, y, l, rfl, hS, hac, hix, k⟩ := h
    obtain ⟨dx, e⟩ := hS.ins
    refine ⟨_, zg (zB (yI zX (zx (pv 0) rfl) (zt zT (zt jh (zt qY (pv 2) (zx (pv 0) rfl)) (zx (pv 0) rfl)) (zt qY (pv 1) (zx (pv 0) rfl))) (fun _ _ => rfl))), ?_⟩
    have hg : (zn l)[y / 2 ^ z * ac + x / 2 ^ z]? = some (l.getD (y / 2 ^ z * ac + x / 2 ^ z) Sn15.black).word := by
      unfold zn
      rw [List.getElem?_map, List.getD_eq_getElem?_getD, List.getElem?_eq_getElem hix]; rfl
    refine ⟨_, rfl, a, t.CS, dx, _, _, rfl, e, T.cS, T.sC, zhq _ _ _, _, rfl, _, rfl, a, t.CS, dx, _, _, rfl, e, T.cS, T.sS, zjg _ _ _, _, _, rfl, rfl, (by show (0 : Int) <= (z : Int); omega), _, rfl, a, t.CS, dx, _, _, rfl, e, T.cS, T.sA, zks _ _ _, _, _, rfl, rfl, .inr ⟨by omega, by omega⟩,
      _, rfl, _, rfl, a, t.CS, dx, _, _, rfl, e, T.cS, T.sS, zjg _ _ _, _, _, rfl, rfl, (by show (0 : Int) <= (z : Int); omega), _, _, rfl, rfl, cl, _, _, _, rfl, rfl, SqL.of hS.lst, yP (j := y / 2 ^ z * ac + x / 2 ^ z) ?_ (yf hg), k⟩
    show (y : Int) / 2 ^ ((z : Nat) : Int).toNat * (ac : Int) + (x : Int) / 2 ^ ((z : Nat) : Int).toNat = _
    rw [Int.toNat_natCast, two_pow_int]
    simp
def zax (t : Ad) : Sp := fun vs H Q _ => ∃ (G : Addr) (k w h x y : Nat) (gs : List Group) (wh : Nat -> Nat -> Nat), vs = [.ref G, nat x, nat y] /\ jP t H k G w h gs wh /\ x < w /\ y < h /\ w <= 2 ^ 20 /\ h <= 2 ^ 20 /\
  ∀ ga g, gs[wh x y]? = some g -> yK t H k ga g -> Q (.ref ga) H
theorem zh1 : zq ["self", "x", "y"] ["self", "x", "y"] (zj zda) := by trivial
theorem zfR {n z : Nat} (h : 0 < z) : up n z <= n := by
  unfold up
  rw [Nat.div_le_iff_le_mul_add_pred h]
  have : n <= z * n := Nat.le_mul_of_pos_left n h
  omega
theorem j5 {x n z : Nat} (h : 0 < z) (hx : x < n) : x / z < up n z := by
  unfold up
  rw [Nat.div_lt_iff_lt_mul h]
  have h1 : n + z - 1 < ((n + z - 1) / z + 1) * z := by
    have := Nat.lt_div_mul_add (a := n + z - 1) h
    rw [Nat.add_mul, Nat.one_mul]; exact this
  rw [Nat.add_mul, Nat.one_mul] at h1
  omega
theorem zgm {w h x y a b : Nat} (hx : a < w) (hy : b < h) : b * w + a < w * h := by
  calc b * w + a < b * w + w := by omega
    _ = (b + 1) * w := by rw [Nat.add_mul, Nat.one_mul]
    _ <= h * w := Nat.mul_le_mul_right _ hy
    _ = w * h := Nat.mul_comm _ _
theorem zfk {f : Addr} {fd : FuncData} (F : Fun K "group_at" "Groups.group_at" zda f fd) (T : Tx K mg t) (Gn : zE P w K mg base 1 "group_number" ["colour"] wn) (Gc : zI P w K mg base 1 t.CS "colour_at" ["self", "x", "y"] (zaZ t)) :
    yg P w K mg base (CXe P w) 2 f fd ["self", "x", "y"] (zax t) := by
  refine F.okE zh1 (fun vs H Q E h => ?_) (fun cdv A outer s H vs Q E hr h => ?_)
  . obtain ⟨G, k, w, h, x, y, gs, wh, rfl, _⟩ := h
    rfl
  . obtain ⟨G, k, w, h, x, y, gs, wh, rfl, hG, hx, hy, hw, hh, kk⟩ := h
    obtain ⟨dx, la, sv, gas, h1, h2, h3, h4, h5⟩ := hG.ex
    refine ⟨_, zd (ye (zdZ (zjA (zx (pv 0) rfl))) (zg (zB (yI zX (zx (pv 0) rfl) zi (fun _ _ => rfl)))) zH)
      (zg (zB (yI zX (zx (pv 0) rfl) (pd Gn Lv.of hr (za (pm Gc Lv.of T.cS hr (zx (pv 0) rfl) (za (pv 1) (za (pv 2) zf))) zf)) (fun _ _ => rfl)))), ?_⟩
    rcases h5 with ⟨rfl, rfl, hpos⟩ | ⟨sa, cl, z, l, rfl, hS, rfl, hz, hl, hnum⟩
    . obtain ⟨ga, hga⟩ : ∃ ga, gas[0]? = some ga := ⟨_, List.getElem?_eq_getElem (by omega)⟩
      obtain ⟨g, hg1, hg2⟩ := h4 0 ga hga
      refine ⟨_, rfl, G, t.CG, dx, _, _, rfl, h1, T.cG, T.gS, zhB _ _, _, rfl, zc7 ?_⟩
      exact ⟨_, rfl, G, t.CG, dx, _, _, rfl, h1, T.cG, T.gG, zjY _ _, la, _, _, .ref ga, rfl, rfl, SqL.of h2, yP (j := 0) rfl (jt hga), kk ga g hg1 hg2⟩
    . have hzp : 0 < (2 : Nat) ^ z := Nat.pow_pos (by decide)
      have hix : y / 2 ^ z * up w (2 ^ z) + x / 2 ^ z < l.length := by rw [hl]; exact zgm (x := x) (y := y) (j5 hzp hx) (j5 hzp hy)
      have hmem := getD_mem (d := Sn15.black) hix
      have hnl := hnum _ hmem
      obtain ⟨ga, hga⟩ : ∃ ga, gas[yx w z l x y]? = some ga := ⟨_, List.getElem?_eq_getElem (by rw [h3]; exact hnl)⟩
      obtain ⟨g, hg1, hg2⟩ := h4 _ ga hga
      obtain ⟨dxs, eS⟩ := hS.ins
      refine ⟨_, rfl, G, t.CG, dx, _, _, rfl, h1, T.cG, T.gS, zhB _ _, _, rfl, ziM ?_⟩
      refine ⟨_, rfl, G, t.CG, dx, _, _, rfl, h1, T.cG, T.gG, zjY _ _, _, rfl, G, t.CG, dx, _, _, rfl, h1, T.cG, T.gS, zhB _ _, sa, dxs, _, rfl, eS, zjc _ _ _ (by decide +kernel) (by decide +kernel) (by decide +kernel), _, rfl, _, rfl,
        sa, cl, z, up w (2 ^ z), x, y, l, rfl, hS, Nat.le_trans (zfR hzp) hw, hix, _, rfl, hS.ok _ hmem, la, _, _, .ref ga, rfl, rfl, SqL.of h2, yP rfl (jt hga), kk ga g hg1 hg2⟩
def vx (t : Ad) : Sp := fun vs H Q E => ∃ (B : Bi) (bs : List Bool), vs = [.ref B.p] /\ zo t H B bs /\ Out t E B [] H zaA Q (qZ bs)
theorem zeg : zq ["bits", "depth"] ["bits"] (zj zdb) := by trivial
theorem zfX {f : Addr} {fd : FuncData} (F : Fun K "read_cache_depth" "read_cache_depth" zdb f fd) (T : Tx K mg t) (Gb : zI P w K mg base 1 t.CB "bit" ["self"] (j0 t)) (Gn : zI P w K mg base 2 t.CB "number" ["self", "width"] (yw t)) :
    yg P w K mg base (CXe P w) 3 f fd ["bits"] (vx t) := by
  refine F.okE zeg (fun vs H Q E h => ?_) (fun cdv A outer s H vs Q E hr h => ?_)
  . obtain ⟨B, bs, rfl, _⟩ := h
    rfl
  . obtain ⟨B, bs, rfl, hb, k⟩ := h
    have hr1 : yp 1 _ := hr.mono (by decide)
    refine ⟨_, zd (ye (zu xt (pm0 Gb Lv.of T.cB hr1 (pv 0)) zi (zD _)) (zg (zB zi)) zH)
      (zd (zw (i := 1) zeg.nd rfl (Or.inl rfl) (pm Gn Lv.of T.cB hr (pv 0) (za zi zf)))
      (zd (ye (PW.pt (zdi (zu wH (pv 1) zi (zD _)) (zab (zu jk (pv 1) zi (zD _))))) (zg (zY Lv.of (by rfl) T.gN T.xN)) zH)
      (zg (zB (pv 1))))), ?_⟩
    unfold qZ at k
    obtain ⟨dx, fs, e1, e2⟩ := hb.meth (m := "bit")
    refine ⟨_, rfl, B.p, dx, fs, rfl, e1, e2, B, bs, rfl, hb, k.bind fun u bs1 v1 H1 hm1 hb1 kp1 hv1 k1 => ?_⟩
    cases hv1
    have hu : u < 2 := xU hm1
    refine ⟨rfl, _, rfl, yC (fun e => ?_) (fun e => ?_)⟩
    . have e' : ¬ u = 1 := by have := V.int.inj (of_decide_eq_true e); omega
      rw [if_neg e'] at k1
      exact k1.pure hb1 rfl
    . have e' : u = 1 := by
        have : ¬ u = 0 := fun z => e (by rw [z]; exact decide_eq_true rfl)
        omega
      rw [if_pos e'] at k1
      obtain ⟨dx2, fs2, e3, e4⟩ := hb1.meth (m := "number")
      refine ⟨_, rfl, B.p, dx2, fs2, rfl, e3, e4, B, bs1, 4, rfl, by decide, hb1, k1.bind fun n bs2 v2 H2 hm2 hb2 kp2 hv2 k2 => ?_⟩
      cases hv2
      obtain ⟨kt, kf⟩ := k2.need
      refine ⟨_, rfl, _, _, rfl, rfl, _, rfl, yC (fun e5 => ?_) (fun e5 => ?_)⟩
      . exact zc7 (kf (decide_eq_false (by have := of_decide_eq_true e5; omega)) _)
      . have h1 : 1 <= n := by
          have : ¬ (n : Int) < 1 := fun z => e5 (decide_eq_true z)
          omega
        refine ⟨_, rfl, _, _, rfl, rfl, _, rfl, yC (fun e6 => ?_) (fun e6 => ?_)⟩
        . exact kf (decide_eq_false (by have := of_decide_eq_true e6; omega)) _
        . have h2 : n <= 11 := by
            have : ¬ (11 : Int) < (n : Int) := fun z => e6 (decide_eq_true z)
            omega
          exact ⟨_, rfl, (kt (decide_eq_true ⟨h1, h2⟩)).pure hb2 rfl⟩
end
end Lk
end
section
namespace Lk
open PySem PySem.Spec PyProof.Rows L2
open Sn15 (D bits bitsOf symbol Px Group up value back again cached)
def y2 (g : Group) (s : Nat) : D Px := do
  let r <- symbol g.red
  let b <- symbol g.blue
  let a <- symbol g.alpha
  return ⟨a, r, s, b⟩
theorem zbQ (w t k : Nat) (g : Group) (l : List Px) : zcS w t k g l = (symbol g.green >>= fun s => if s < 256 then y2 g s >>= fun p => pure (l ++ [p]) else
    if s < 280 then value (s - 256) >>= fun n => symbol g.distance >>= fun ds => value ds >>= fun dv => Sn15.need (decide (back w dv <= l.length) && decide (l.length + n <= t)) >>= fun _ => pure (again n (back w dv) l)
    else pure (l ++ [cached k l (s - 280)])) := by
  unfold zcS y2
  congr 1
  funext s
  by_cases h1 : s < 256
  . simp only [h1, if_true, zG, zl]
  . simp only [h1, if_false]
theorem zcu {g : Group} {k s : Nat} {p : Px} {bs bs' : List Bool} (hg : vj k g) (hs : s < 256) (h : y2 g s bs = some (p, bs')) : yq p := by
  unfold y2 at h
  obtain ⟨r, bs1, hr, h⟩ := bind_some h
  obtain ⟨b, bs2, hb, h⟩ := bind_some h
  obtain ⟨a, bs3, ha, h⟩ := bind_some h
  cases h
  have h1 := y9 hr
  have h2 := y9 hb
  have h3 := y9 ha
  rw [hg.r1] at h1
  rw [hg.b1] at h2
  rw [hg.a1] at h3
  exact ⟨h3, h1, hs, h2⟩
theorem zbS {s v : Nat} {bs bs' : List Bool} (hs : s < 40) (h : value s bs = some (v, bs')) : v <= 2 ^ 30 := by
  unfold value at h
  split at h
  . cases h; omega
  . obtain ⟨e, bs1, he, h⟩ := bind_some h
    cases h
    have h1 := ya he
    have h2 : (2 : Nat) ^ ((s - 2) / 2) <= 2 ^ 18 := Nat.pow_le_pow_right (by decide) (by omega)
    have h3 : 2 + s % 2 <= 3 := by omega
    have h4 : (2 + s % 2) * 2 ^ ((s - 2) / 2) <= 3 * 2 ^ 18 := Nat.mul_le_mul h3 h2
    generalize (2 : Nat) ^ ((s - 2) / 2) = m at *
    omega
theorem zht {w d : Nat} (hw : w <= 2 ^ 20) (hd : d <= 2 ^ 30) (h0 : 0 < d) : back w d <= 2 ^ 50 := by
  unfold back
  split
  . omega
  . rename_i hd2
    simp only []
    have hlt : d - 1 < Sn15.NEAR.length := by show d - 1 < 120; omega
    have hm : Sn15.NEAR.getD (d - 1) (0, 0) ∈ Sn15.NEAR := by rw [List.getD_eq_getElem?_getD, List.getElem?_eq_getElem hlt]; exact List.getElem_mem _
    obtain ⟨h1, h2, h3, h4⟩ := kD _ hm
    have h5 : (Sn15.NEAR.getD (d - 1) (0, 0)).2 * (w : Int) <= 8 * (w : Int) := Int.mul_le_mul_of_nonneg_right h4 (by omega)
    split
    . decide
    . omega
theorem zgv {w t k : Nat} {g : Group} {l l' : List Px} {bs bs' : List Bool} (hl : l.length < t) (h : zcS w t k g l bs = some (l', bs')) : l.length < l'.length /\ l'.length <= t := by
  rw [zbQ] at h
  obtain ⟨s, bs1, _, h⟩ := bind_some h
  split at h
  . obtain ⟨p, bs2, _, h⟩ := bind_some h
    cases h
    rw [List.length_append]
    exact ⟨by simp, by simp; omega⟩
  . split at h
    . obtain ⟨n, bs2, hn, h⟩ := bind_some h
      obtain ⟨ds, bs3, _, h⟩ := bind_some h
      obtain ⟨dv, bs4, _, h⟩ := bind_some h
      obtain ⟨_, bs5, hq, h⟩ := bind_some h
      cases h
      have hq := (xD hq).1
      rw [Bool.and_eq_true] at hq
      have h2 := of_decide_eq_true hq.2
      have h3 := wR hn
      rw [jH]
      omega
    . cases h
      rw [List.length_append]
      exact ⟨by simp, by simp; omega⟩
theorem or4 {a r g b i j k : Nat} (hr : r < 2 ^ i) (hg : g < 2 ^ j) (hb : b < 2 ^ k) : Builtin.bitOr (Builtin.bitOr (Builtin.bitOr ((a * 2 ^ (i + (j + k)) : Nat) : Int) ((r * 2 ^ (j + k) : Nat) : Int)) ((g * 2 ^ k : Nat) : Int)) ((b : Nat) : Int) = ((((a * 2 ^ i + r) * 2 ^ j + g) * 2 ^ k + b : Nat) : Int) := by
  have h1 : r * 2 ^ (j + k) < 2 ^ (i + (j + k)) := by
    rw [Nat.pow_add 2 i]
    exact Nat.mul_lt_mul_of_pos_right hr (Nat.pow_pos (by decide))
  have h2 : g * 2 ^ k < 2 ^ (j + k) := by
    rw [Nat.pow_add 2 j]
    exact Nat.mul_lt_mul_of_pos_right hg (Nat.pow_pos (by decide))
  have e1 : a * 2 ^ (i + (j + k)) + r * 2 ^ (j + k) = (a * 2 ^ i + r) * 2 ^ (j + k) := by rw [Nat.add_mul, Nat.pow_add 2 i, Nat.mul_assoc]
  have e2 : (a * 2 ^ i + r) * 2 ^ (j + k) + g * 2 ^ k = ((a * 2 ^ i + r) * 2 ^ j + g) * 2 ^ k := by rw [Nat.add_mul _ g, Nat.pow_add 2 j, Nat.mul_assoc]
  rw [vP h1, e1, vP h2, e2, vP hb]
theorem zft {p : Px} (h : yq p) : Builtin.bitOr (Builtin.bitOr (Builtin.bitOr ((p.a : Int) * 2 ^ (24 : Int).toNat) ((p.r : Int) * 2 ^ (16 : Int).toNat)) ((p.g : Int) * 2 ^ (8 : Int).toNat)) (p.b : Int) = ((p.word : Nat) : Int) := by
  obtain ⟨h1, h2, h3, h4⟩ := h
  have e1 : (p.a : Int) * 2 ^ (24 : Int).toNat = ((p.a * 2 ^ (8 + (8 + 8)) : Nat) : Int) := by rw [show (24 : Int).toNat = 8 + (8 + 8) from rfl, two_pow_int, <- Int.natCast_mul]
  have e2 : (p.r : Int) * 2 ^ (16 : Int).toNat = ((p.r * 2 ^ (8 + 8) : Nat) : Int) := by rw [show (16 : Int).toNat = 8 + 8 from rfl, two_pow_int, <- Int.natCast_mul]
  have e3 : (p.g : Int) * 2 ^ (8 : Int).toNat = ((p.g * 2 ^ 8 : Nat) : Int) := by rw [show (8 : Int).toNat = 8 from rfl, two_pow_int, <- Int.natCast_mul]
  rw [e1, e2, e3, or4 (show p.r < 2 ^ 8 from h2) (show p.g < 2 ^ 8 from h3) (show p.b < 2 ^ 8 from h4)]
  rfl
def zja : Px -> V -> Hp -> Prop := fun p v _ => v = nat p.word /\ yq p
theorem yL.meth {t : Ad} {H : Hp} {a : Addr} {c : Sn15.Code} (h : yL t H a c) : ∃ dx fs, H a = some (.ins t.CC dx fs) /\ fs.lookup ("next_symbol" : Str) = none := by
  obtain ⟨dx, wa, was, words, sole, h1, _⟩ := h
  exact ⟨dx, _, h1, zb0 _ _ (by decide +kernel) (by decide +kernel)⟩
section
variable {P : Program} {w : World} {K : PySem.W.Frag} {mg : Str -> Option Value} {base : Heap} {t : Ad}
def vd (t : Ad) : Sp := fun vs H Q E => ∃ (B : Bi) (bs : List Bool) (s k : Nat) (ga : Addr) (g : Group), vs = [.ref B.p, nat s, .ref ga] /\ s < 256 /\ yK t H k ga g /\ zo t H B bs /\ Out t E B [] H zja Q (y2 g s bs)
theorem jq : zq ["bits", "green", "group", "red", "blue", "alpha"] ["bits", "green", "group"] (zj zbt) := by trivial
theorem zdn {f : Addr} {fd : FuncData} (F : Fun K "read_colour" "read_colour" zbt f fd) (T : Tx K mg t) (Gx : zI P w K mg base 2 t.CC "next_symbol" ["self", "bits"] (ww t)) : yg P w K mg base (CXe P w) 3 f fd ["bits", "green", "group"] (vd t) := by
  obtain ⟨uR, hR, rR⟩ := T.kRED
  obtain ⟨uB, hB, rB⟩ := T.kBLUE
  obtain ⟨uA, hA, rA⟩ := T.kALPHA
  refine F.okE jq (fun vs H Q E h => ?_) (fun cdv A outer s H vs Q E hr h => ?_)
  . obtain ⟨B, bs, s, k, ga, g, rfl, _⟩ := h
    rfl
  . obtain ⟨B, bs, sy, kk, ga, g, rfl, hs, hG, hb, k⟩ := h
    refine ⟨_, zd (zw (i := 3) jq.nd rfl (Or.inl rfl) (pm Gx Lv.of T.cC hr (yI zX (pv 2) (zM (by rfl) hR rR) (fun _ _ => rfl)) (za (pv 0) zf)))
      (zd (zw (i := 4) jq.nd rfl (Or.inl rfl) (pm Gx Lv.of T.cC hr (yI zX (pv 2) (zM (by rfl) hB rB) (fun _ _ => rfl)) (za (pv 0) zf)))
      (zd (zw (i := 5) jq.nd rfl (Or.inl rfl) (pm Gx Lv.of T.cC hr (yI zX (pv 2) (zM (by rfl) hA rA) (fun _ _ => rfl)) (za (pv 0) zf)))
      (zg (zB (zt zaT (zt zaT (zt zaT (zt xa (pv 5) zi) (zt xa (pv 3) zi)) (zt xa (pv 1) zi)) (pv 4)))))), ?_⟩
    have hok : ∀ p bs', y2 g sy bs = some (p, bs') -> yq p := fun p bs' h => by
      obtain ⟨_, _, _, _, _, _, _, _, _, _, _, ho⟩ := hG
      exact zcu ho hs h
    have k0 : Out t E B [] H (fun (p : Px) v _ => v = nat p.word) Q (y2 g sy bs) := by
      cases hm : y2 g sy bs with
      | none => rw [hm] at k; exact k
      | some x => rw [hm] at k; exact fun v H2 b k2 r => k v H2 b k2 ⟨r, hok x.1 x.2 hm⟩
    have hoks := hok
    unfold y2 at k0 hoks
    obtain ⟨a0, a1, a2, a3, a4, g0, c0, c1, c2, c3, c4, go⟩ := id hG
    obtain ⟨dx1, fs1, e1, e2⟩ := c1.meth
    refine ⟨_, rfl, ga, _, _, .ref a1, rfl, rfl, SqL.of g0, yP (j := 1) rfl rfl, a1, dx1, fs1, rfl, e1, e2, _, rfl, B, bs, a1, _, rfl, c1, hb, k0.bind fun r bs1 v1 H1 hm1 hb1 kp1 hv1 k1 => ?_⟩
    cases hv1
    obtain ⟨dx2, fs2, e3, e4⟩ := (c2.kept hb kp1).meth
    refine ⟨_, rfl, ga, _, _, .ref a2, rfl, rfl, SqL.of (kp1.lst hb g0), yP (j := 2) rfl rfl, a2, dx2, fs2, rfl, e3, e4, _, rfl, B, bs1, a2, _, rfl, c2.kept hb kp1, hb1, k1.bind fun b bs2 v2 H2 hm2 hb2 kp2 hv2 k2 => ?_⟩
    cases hv2
    have kp12 := kp1.trans kp2
    obtain ⟨dx3, fs3, e5, e6⟩ := (c3.kept hb kp12).meth
    refine ⟨_, rfl, ga, _, _, .ref a3, rfl, rfl, SqL.of (kp12.lst hb g0), yP (j := 3) rfl rfl, a3, dx3, fs3, rfl, e5, e6, _, rfl, B, bs2, a3, _, rfl, c3.kept hb kp12, hb2, k2.bind fun a bs3 v3 H3 hm3 hb3 kp3 hv3 k3 => ?_⟩
    cases hv3
    have hp : yq ⟨a, r, sy, b⟩ := hok _ bs3 (by
      unfold y2
      rw [zF, hm1]
      simp only [Option.bind_some]
      rw [zF, hm2]
      simp only [Option.bind_some]
      rw [zF, hm3]
      rfl)
    obtain ⟨q1, q2, q3, q4⟩ := id hp
    refine ⟨_, rfl, _, _, rfl, rfl, ⟨by decide, by decide, ?_⟩, _, rfl, _, _, rfl, rfl, ⟨by decide, by decide, ?_⟩, _, _, rfl, rfl, _, rfl, _, _, rfl, rfl, ⟨by decide, by decide, ?_⟩, _, _, rfl, rfl, _, rfl, _, _, rfl, rfl, ?_⟩
    . simp only [] at q1; omega
    . simp only [] at q2; omega
    . omega
    . have ew := zft hp
      dsimp only at ew ⊢
      rw [ew]
      exact k3.pure hb3 rfl
def ziV (t : Ad) (C : Ca) (w s k : Nat) : List Px -> V -> Hp -> Prop := fun l v H => v = .non /\ zS t H C w s k l
structure zad (t : Ad) (H0 H : Hp) (B : Bi) (C : Ca) : Prop where
  kp : zy [B.p] H0 H
  b0 : ∃ bs0, zo t H0 B bs0
  nl : H0 C.l = none
  nc : H0 C.c = none
theorem zad.bits {t : Ad} {H0 H Hx Hy : Hp} {B : Bi} {C : Ca} {bs : List Bool} (a : zad t H0 H B C) (hb : zo t Hx B bs) (k : zy [C.l, C.c] Hx Hy) : zo t Hy B bs := by
  obtain ⟨bs0, dz, iz, z1, z2, _⟩ := a.b0
  refine hb.kept k ?_ ?_
  . simp only [List.mem_cons, List.not_mem_nil, or_false]
    exact fun z => z.elim (zc z1 a.nl) (zc z1 a.nc)
  . simp only [List.mem_cons, List.not_mem_nil, or_false]
    exact fun z => z.elim (zc z2 a.nl) (zc z2 a.nc)
theorem zad.next {t : Ad} {H0 H H' : Hp} {B : Bi} {C : Ca} (a : zad t H0 H B C) (k : zy [B.p, C.l, C.c] H H') : zad t H0 H' B C := by
  refine ⟨fun b o e n => k b o (a.kp b o e n) ?_, a.b0, a.nl, a.nc⟩
  simp only [List.mem_cons, List.not_mem_nil, or_false] at n ⊢
  exact fun z => z.elim n fun z => z.elim (zc e a.nl) (zc e a.nc)
def zff (t : Ad) : Sp := fun vs H Q E => ∃ (B : Bi) (bs : List Bool) (C : Ca) (w s k : Nat) (l : List Px) (ga : Addr) (g : Group) (H0 : Hp), vs = [.ref B.p, .ref C.p, .ref ga] /\ yK t H k ga g /\ zad t H0 H B C /\ zS t H C w s k l /\ zo t H B bs /\
  l.length < s /\ s <= 2 ^ 23 /\ w <= 2 ^ 20 /\ Out t E B [C.l, C.c] H (ziV t C w s k) Q (zcS w s k g l bs)
theorem zbJ : zq ["bits", "canvas", "group", "symbol", "length", "value"] ["bits", "canvas", "group"] (zj zhw) := by trivial
theorem ziv {f : Addr} {fd : FuncData} (F : Fun K "read_step" "read_step" zhw f fd) (T : Tx K mg t) (Gx : zI P w K mg base 2 t.CC "next_symbol" ["self", "bits"] (ww t)) (Gp : zI P w K mg base 1 t.CV "put" ["self", "colour"] (zd7 t)) (Gc : zI P w K mg base 2 t.CV "put_cached" ["self", "slot"] (zdh t))
    (Gr : zI P w K mg base 2 t.CV "repeat" ["self", "length", "distance"] (vK t)) (Gv : zE P w K mg base 3 "read_value" ["bits", "symbol"] (za2 t)) (Gd : zE P w K mg base 1 "distance_of" ["value", "width"] ze7) (Gk : zE P w K mg base 3 "read_colour" ["bits", "green", "group"] (vd t)) :
    yg P w K mg base (CXe P w) 4 f fd ["bits", "canvas", "group"] (zff t) := by
  obtain ⟨uF, hF, rF⟩ := T.kFIRST
  obtain ⟨uD, hD, rD⟩ := T.kDISTANCE
  refine F.okE zbJ (fun vs H Q E h => ?_) (fun cdv A outer s H vs Q E hr h => ?_)
  . obtain ⟨B, bs, C, w, s, k, l, ga, g, H0, rfl, _⟩ := h
    rfl
  . obtain ⟨B, bs, C, w, sz, kc, l, ga, g, H0, rfl, hG, ap, hC, hb, hl, hsz, hw, k⟩ := h
    have hr1 : yp 1 _ := hr.mono (by decide)
    have hr2 : yp 2 _ := hr.mono (by decide)
    refine ⟨_, zd (zw (i := 3) zbJ.nd rfl (Or.inl rfl) (pm Gx Lv.of T.cC hr2 (yI zX (pv 2) (zM (by rfl) hF rF) (fun _ _ => rfl)) (za (pv 0) zf)))
      (zg (ye (zu wH (pv 3) zi (zD _)) (zg (yj (pm Gp Lv.of T.cV hr1 (pv 1) (za (pd Gk Lv.of hr (za (pv 0) (za (pv 3) (za (pv 2) zf)))) zf))))
        (zg (ye (zu wH (pv 3) zi (zD _))
          (zd (zw (i := 4) zbJ.nd rfl (Or.inl rfl) (pd Gv Lv.of hr (za (pv 0) (za (zt y8 (pv 3) zi) zf))))
          (zd (zw (i := 5) zbJ.nd rfl (Or.inl rfl) (pd Gv Lv.of hr (za (pv 0) (za (pm Gx Lv.of T.cC hr2 (yI zX (pv 2) (zM (by rfl) hD rD) (fun _ _ => rfl)) (za (pv 0) zf)) zf))))
          (zg (yj (pm Gr Lv.of T.cV hr2 (pv 1) (za (pv 4) (za (pd Gd Lv.of hr1 (za (pv 5) (za (zx (pv 1) rfl) zf))) zf)))))))
          (zg (yj (pm Gc Lv.of T.cV hr2 (pv 1) (za (zt y8 (pv 3) zi) zf)))))))), ?_⟩
    rw [zbQ] at k
    obtain ⟨a0, a1, a2, a3, a4, g0, c0, c1, c2, c3, c4, go⟩ := id hG
    obtain ⟨dx1, fs1, e1, e2⟩ := c0.meth
    refine ⟨_, rfl, ga, _, _, .ref a0, rfl, rfl, SqL.of g0, yP (j := 0) rfl rfl, a0, dx1, fs1, rfl, e1, e2, _, rfl, B, bs, a0, _, rfl, c0, hb, k.bind fun sy bs1 v1 H1 hm1 hb1 kp1 hv1 k1 => ?_⟩
    cases hv1
    have hsy := y9 hm1
    rw [go.g1] at hsy
    have hC1 := hC.kept hb kp1
    have hsl : l.length < sizeLine := Nat.lt_of_lt_of_le hl (Nat.le_trans hsz (by decide))
    refine ⟨_, rfl, _, _, rfl, rfl, _, rfl, yC (fun e => ?_) (fun e => ?_)⟩
    . have h256 : sy < 256 := by have := of_decide_eq_true e; omega
      rw [if_pos h256] at k1
      obtain ⟨dxp, fsp, e3, e4⟩ := hC1.meth (m := "put")
      refine ⟨_, rfl, C.p, dxp, fsp, rfl, e3, e4, _, rfl, _, rfl, _, rfl, B, bs1, sy, kc, ga, g, rfl, h256, hG.kept hb kp1, hb1, k1.bind fun p bs2 v2 H2 hm2 hb2 kp2 hv2 k2 => ?_⟩
      obtain ⟨rfl, hpx⟩ := hv2
      have hC2 := hC1.kept hb1 kp2
      refine ⟨C, w, sz, kc, l, p, rfl, hC2, hpx, hsl, fun H3 hC3 kp3 => ?_⟩
      exact k2.pure' (ap.bits hb2 kp3) (kp3.mono (fun x hx => List.mem_cons_of_mem _ hx)) ⟨rfl, hC3⟩
    . have h256 : ¬ sy < 256 := fun z => e (decide_eq_true (by omega))
      rw [if_neg h256] at k1
      refine ⟨_, rfl, _, _, rfl, rfl, _, rfl, yC (fun e5 => ?_) (fun e5 => ?_)⟩
      . have h280 : sy < 280 := by have := of_decide_eq_true e5; omega
        rw [if_pos h280] at k1
        have q1 : (sy : Int) - 256 = ((sy - 256 : Nat) : Int) := by omega
        refine ⟨_, rfl, _, rfl, _, _, rfl, rfl, ?_⟩
        dsimp only
        rw [q1]
        refine ⟨B, bs1, sy - 256, rfl, by omega, hb1, k1.bind fun n bs2 v2 H2 hm2 hb2 kp2 hv2 k2 => ?_⟩
        cases hv2
        have hn := zbS (by omega) hm2
        have kp12 := kp1.trans kp2
        obtain ⟨dx2, fs2, e6, e7⟩ := (c4.kept hb kp12).meth
        refine ⟨_, rfl, _, rfl, ga, _, _, .ref a4, rfl, rfl, SqL.of (kp12.lst hb g0), yP (j := 4) rfl rfl, a4, dx2, fs2, rfl, e6, e7, _, rfl, B, bs2, a4, _, rfl, c4.kept hb kp12, hb2, k2.bind fun ds bs3 v3 H3 hm3 hb3 kp3 hv3 k3 => ?_⟩
        cases hv3
        have hds := y9 hm3
        rw [go.d1] at hds
        refine ⟨B, bs3, ds, rfl, by omega, hb3, k3.bind fun dv bs4 v4 H4 hm4 hb4 kp4 hv4 k4 => ?_⟩
        cases hv4
        have hdv := zbS hds hm4
        have hdp := wR hm4
        have hC4 := ((hC1.kept hb1 kp2).kept hb2 kp3).kept hb3 kp4
        obtain ⟨dxp, fsp, e8, e9⟩ := hC4.meth (m := "repeat")
        obtain ⟨dxi, hin⟩ := hC4.ins
        obtain ⟨kt, kf⟩ := k4.need
        refine ⟨_, rfl, C.p, dxp, fsp, rfl, e8, e9, _, rfl, _, rfl, _, rfl, C.p, t.CV, dxi, _, _, rfl, hin, T.cV, T.vW, jY _ _ _ _ _, dv, w, rfl, hdp, hw,
          C, w, sz, kc, n, back w dv, l, rfl, hC4, zf7 w dv hdp, hsz, Nat.le_trans hn (by decide), zht hw hdv hdp, by omega, fun hc H5 hC5 kp5 => ?_, fun hc => ?_⟩
        . have kq := kt (by rw [decide_eq_true hc.1, decide_eq_true hc.2]; rfl)
          exact kq.pure' (ap.bits hb4 kp5) (kp5.mono (fun x hx => List.mem_cons_of_mem _ hx)) ⟨rfl, hC5⟩
        . refine kf ?_
          rw [Bool.and_eq_false_iff]
          by_cases h1 : back w dv <= l.length
          . exact .inr (decide_eq_false fun z => hc ⟨h1, z⟩)
          . exact .inl (decide_eq_false h1)
      . have h280 : ¬ sy < 280 := fun z => e5 (decide_eq_true (by omega))
        rw [if_neg h280] at k1
        have q1 : (sy : Int) - 280 = ((sy - 280 : Nat) : Int) := by omega
        have hkc : 0 < kc /\ sy - 280 < 2 ^ kc := by
          unfold zW at hsy
          by_cases h0 : kc = 0
          . rw [if_pos h0] at hsy; omega
          . rw [if_neg h0] at hsy
            generalize (2 : Nat) ^ kc = m at *
            omega
        obtain ⟨dxp, fsp, e8, e9⟩ := hC1.meth (m := "put_cached")
        refine ⟨_, rfl, C.p, dxp, fsp, rfl, e8, e9, _, rfl, _, _, rfl, rfl, ?_⟩
        dsimp only
        rw [q1]
        refine ⟨C, w, sz, kc, sy - 280, l, rfl, hC1, hkc.1, hkc.2, hsl, fun H3 hC3 kp3 => ?_⟩
        exact k1.pure' (ap.bits hb1 kp3) (kp3.mono (fun x hx => List.mem_cons_of_mem _ hx)) ⟨rfl, hC3⟩
def ka (H0 : Hp) (n : Nat) : List Px -> V -> Hp -> Prop := fun l v H => ∃ a, v = .ref a /\ H a = some (.lst (zm (zn l))) /\ l.length = n /\ (∀ p ∈ l, yq p) /\ H0 a = none
theorem ka.rebase {H0 H1 : Hp} {n : Nat} (d : ∀ x, H1 x = none -> H0 x = none) (l : List Px) (v : V) (H : Hp) (h : ka H1 n l v H) : ka H0 n l v H := by
  obtain ⟨a, h1, h2, h3, h4, h5⟩ := h
  exact ⟨a, h1, h2, h3, h4, d _ h5⟩
def xK (t : Ad) : Sp := fun vs H Q E => ∃ (B : Bi) (bs : List Bool) (C : Ca) (w h k : Nat) (gs : List Group) (wh : Nat -> Nat -> Nat) (G : Addr) (H0 : Hp), vs = [.ref B.p, .ref C.p, .ref G] /\ jP t H0 k G w h gs wh /\ zad t H0 H B C /\ zS t H C w (w * h) k [] /\ zo t H B bs /\
  0 < w /\ 0 < h /\ w * h <= 2 ^ 20 /\ Out t E B [C.l, C.c] H (ka H0 (w * h)) Q (zbf w h k gs wh bs)
theorem jM : zq ["bits", "canvas", "groups", "place", "group"] ["bits", "canvas", "groups"] (zj wj) := by trivial
def zbT (t : Ad) (E : XK) (B : Bi) (C : Ca) (H0 H : Hp) (Q : VK) (w h k : Nat) (gs : List Group) (wh : Nat -> Nat -> Nat) (G : Addr) (m : Nat) (σ : L2.St) (Hx : Hp) : Prop := ∃ (l : List Px) (bs : List Bool) (v3 v4 : Option V) (n : Nat), m = w * h - l.length /\ σ = [some (.ref B.p), some (.ref C.p), some (.ref G), v3, v4] /\
  zad t H0 Hx B C /\ zS t Hx C w (w * h) k l /\ zo t Hx B bs /\ l.length <= w * h /\ zy [B.p, C.l, C.c] H Hx /\ w * h - l.length < n /\ Out t E B [C.l, C.c] H (ka H0 (w * h)) Q (Sn15.elements w (w * h) k gs wh n l bs)
theorem zcr {f : Addr} {fd : FuncData} (F : Fun K "read_colours" "read_colours" wj f fd) (T : Tx K mg t) (Gg : zI P w K mg base 2 t.CG "group_at" ["self", "x", "y"] (zax t)) (Gs : zE P w K mg base 4 "read_step" ["bits", "canvas", "group"] (zff t)) :
    yg P w K mg base (CXe P w) 5 f fd ["bits", "canvas", "groups"] (xK t) := by
  refine F.okE jM (fun vs H Q E h => ?_) (fun cdv A outer s H vs Q E hr h => ?_)
  . obtain ⟨B, bs, C, w, h, k, gs, wh, G, H0, rfl, _⟩ := h
    rfl
  . obtain ⟨B, bs, C, w, h, kc, gs, wh, G, H0, rfl, hG0, ap, hC, hb, hw0, hh0, hwh, k⟩ := h
    have hr2 : yp 2 _ := hr.mono (by decide)
    refine ⟨_, zd (qB Lv.of.own (zu wH (zL zC (by rfl) T.len PySem.boot_len (za (zx (pv 1) rfl) zf)) (zx (pv 1) rfl) (zD _))
        (zd (zw (i := 3) jM.nd rfl (Or.inl rfl) (zL zC (by rfl) T.len PySem.boot_len (za (zx (pv 1) rfl) zf)))
        (zd (zw (i := 4) jM.nd rfl (Or.inl rfl) (pm Gg Lv.of T.cG hr2 (pv 2) (za (zt zeb (pv 3) (zx (pv 1) rfl)) (za (zt zdl (pv 3) (zx (pv 1) rfl)) zf))))
        (zg (yj (pd Gs Lv.of hr (za (pv 0) (za (pv 1) (za (pv 4) zf)))))))))
      (zg (zB (zx (pv 1) rfl))), ?_⟩
    have hwle : w <= 2 ^ 20 := Nat.le_trans (Nat.le_mul_of_pos_right w hh0) hwh
    have hhle : h <= 2 ^ 20 := Nat.le_trans (Nat.le_mul_of_pos_left h hw0) hwh
    refine ⟨zbT t E B C H0 H Q w h kc gs wh G, ⟨_, [], bs, none, none, w * h + 1, rfl, rfl, ap, hC, hb, Nat.zero_le _, zy.refl _ _, by simp, k⟩, ?_⟩
    rintro m σ Hx ⟨l, bs1, v3, v4, n, rfl, rfl, ap1, hC1, hb1, hl, kp1, hn, k1⟩
    obtain ⟨dx, hin⟩ := hC1.ins
    have hwl : (zm (zn l)).length = l.length := by rw [zk]; unfold zn; rw [List.length_map]
    obtain ⟨n', rfl⟩ : ∃ n', n = n' + 1 := ⟨n - 1, by omega⟩
    refine ⟨_, rfl, C.p, t.CV, dx, _, _, rfl, hin, T.cV, T.vC, yS _ _ _ _ _, C.l, _, rfl, .inl (SqL.of hC1.lst), _, rfl, C.p, t.CV, dx, _, _, rfl, hin, T.cV, T.vS, wC _ _ _ _ _, _, _, rfl, rfl, _, rfl, yC (fun e => ?_) (fun e => ?_)⟩
    . have hlt : l.length < w * h := by have := of_decide_eq_true e; rw [hwl] at this; omega
      refine ⟨fun σ' H' => ∃ m', m' < w * h - l.length /\ zbT t E B C H0 H Q w h kc gs wh G m' σ' H', fun _ _ h => h, ?_⟩
      obtain ⟨bs0, hb0⟩ := ap.b0
      have hG1 := hG0.kept hb0 ap1.kp
      obtain ⟨gdx, gla, gsv, ggas, gh1, _⟩ := hG1.ex
      refine ⟨_, rfl, C.p, t.CV, dx, _, _, rfl, hin, T.cV, T.vC, yS _ _ _ _ _, C.l, _, rfl, .inl (SqL.of hC1.lst), ?_⟩
      rw [hwl]
      have q1 : (l.length : Int) % (w : Int) = ((l.length % w : Nat) : Int) := by omega
      have q2 : (l.length : Int) / (w : Int) = ((l.length / w : Nat) : Int) := by rw [Int.natCast_ediv]
      refine ⟨_, rfl, G, gdx, _, rfl, gh1, zjH _ _ (by decide +kernel) (by decide +kernel), _, rfl, _, rfl, C.p, t.CV, dx, _, _, rfl, hin, T.cV, T.vW, jY _ _ _ _ _, _, _, rfl, rfl, (by show (0 : Int) < (w : Int); omega), _, rfl, _, rfl, C.p, t.CV, dx, _, _, rfl, hin, T.cV, T.vW, jY _ _ _ _ _, _, _, rfl, rfl, ⟨by show (0 : Int) < (w : Int); omega, by show (w : Int) < 1073741824; omega⟩, ?_⟩
      dsimp only
      rw [q1, q2]
      have hdiv : l.length / w < h := by rw [Nat.div_lt_iff_lt_mul hw0, Nat.mul_comm]; exact hlt
      refine ⟨G, kc, w, h, l.length % w, l.length / w, gs, wh, rfl, hG1, Nat.mod_lt _ hw0, hdiv, hwle, hhle, fun ga g hg hga => ?_⟩
      rw [v9 w (w * h) kc gs wh n' l g hlt hg] at k1
      refine ⟨_, rfl, _, rfl, _, rfl, B, bs1, C, w, w * h, kc, l, ga, g, H0, rfl, hga, ap1, hC1, hb1, hlt, Nat.le_trans hwh (by decide), hwle, (k1.shift kp1).bind' (fun x hx => hx) fun l' bs2 v H2 hm hb2 kp2 hv k2 => ?_⟩
      obtain ⟨rfl, hC2⟩ := hv
      obtain ⟨h1, h2⟩ := zgv hlt hm
      exact ⟨w * h - l'.length, by omega, l', bs2, _, _, n', rfl, rfl, ap1.next kp2, hC2, hb2, h2, kp1.trans kp2, by omega, k1.next hm⟩
    . have hge : w * h <= l.length := by
        have : ¬ ((zm (zn l)).length : Int) < ((w * h : Nat) : Int) := fun z => e (decide_eq_true z)
        rw [hwl] at this
        omega
      rw [wP w (w * h) kc gs wh n' l hge] at k1
      refine ⟨_, rfl, C.p, t.CV, dx, _, _, rfl, hin, T.cV, T.vC, yS _ _ _ _ _, ?_⟩
      exact k1.pure' hb1 kp1 ⟨C.l, rfl, hC1.lst, by omega, hC1.ok, ap1.nl⟩
end
end Lk
end
section
namespace Lk
open PySem PySem.Spec PyProof.Rows L2
open Sn15 (D bits bitsOf symbol Px Group up)
abbrev vT : Stmt := top 35
abbrev zef : Stmt := top 36
abbrev vY : Stmt := top 37
abbrev vI : Stmt := top 39
abbrev zeT : Stmt := top 40
def xq : List Nat -> D (List Sn15.Code)
  | [] => pure []
  | n :: r => Sn15.code n >>= fun c => xq r >>= fun cs => pure (c :: cs)
def yD (cs : List Sn15.Code) : Group := ⟨cs.getD 0 [], cs.getD 1 [], cs.getD 2 [], cs.getD 3 [], cs.getD 4 []⟩
theorem zaK (c : Nat) : Sn15.group c = (xq [280 + c, 256, 256, 256, 40] >>= fun cs => pure (yD cs)) := by
  unfold Sn15.group
  simp only [xq, zG, zl]
  rfl
def zV (c : Nat) : List Nat := [280 + c, 256, 256, 256, 40]
theorem zP.kept {H0 : Hp} {t : Ad} {H H' : Hp} {B : Bi} {bs : List Bool} {a : Addr} {c : Sn15.Code} (h : zP H0 t H a c) (b : zo t H B bs) (k : zy [B.p] H H') : zP H0 t H' a c := by
  obtain ⟨dx, wa, was, words, sole, ⟨h1, h2, h3, h4⟩, n⟩ := h
  exact ⟨dx, wa, was, words, sole, ⟨k.ins b h1 (by decide +kernel), k.lst b h2, h3.kept fun x l e => k.lst b e, h4⟩, n⟩
theorem zP.over {H0 : Hp} {t : Ad} {H : Hp} {a la : Addr} {c : Sn15.Code} {o u : HO} (h : zP H0 t H a c) (hl : H0 la = some u) : zP H0 t (upd H la o) a c := by
  obtain ⟨dx, wa, was, words, sole, ⟨h1, h2, h3, h4⟩, n1, n2, n3⟩ := h
  have ne : ∀ x, H0 x = none -> x ≠ la := fun x hx => (zc hl hx).symm
  refine ⟨dx, wa, was, words, sole, ⟨by rw [zh (ne _ n1)]; exact h1, by rw [zh (ne _ n2)]; exact h2, ⟨h3.len, fun j x e => ?_⟩, h4⟩, n1, n2, n3⟩
  obtain ⟨w1, e1, e2⟩ := h3.at_ j x e
  exact ⟨w1, e1, by rw [zh (ne _ (n3 x (List.mem_of_getElem? e)))]; exact e2⟩
theorem zk8 {α : Type} {l : List α} (h : l.length = 5) : ∃ a b c d e, l = [a, b, c, d, e] := by
  match l, h with
  | [a, b, c, d, e], _ => exact ⟨a, b, c, d, e, rfl⟩
structure zbh (H0 : Hp) (t : Ad) (H : Hp) (as : List Addr) (cs : List Sn15.Code) (ns : List Nat) : Prop where
  l1 : as.length = cs.length
  l2 : cs.map List.length = ns
  at_ : ∀ (j : Nat) (a : Addr), as[j]? = some a -> ∃ c, cs[j]? = some c /\ zP H0 t H a c
def ym (H0 : Hp) (t : Ad) (H : Hp) (k : Nat) (ga : Addr) (g : Group) : Prop := ∃ a0 a1 a2 a3 a4 : Addr, H ga = some (.lst [.ref a0, .ref a1, .ref a2, .ref a3, .ref a4]) /\ zP H0 t H a0 g.green /\ zP H0 t H a1 g.red /\ zP H0 t H a2 g.blue /\ zP H0 t H a3 g.alpha /\ zP H0 t H a4 g.distance /\ vj k g /\ H0 ga = none
theorem ym.toAt {H0 : Hp} {t : Ad} {H : Hp} {k : Nat} {ga : Addr} {g : Group} (h : ym H0 t H k ga g) : yK t H k ga g := by
  obtain ⟨a0, a1, a2, a3, a4, h0, h1, h2, h3, h4, h5, h6, _⟩ := h
  exact ⟨a0, a1, a2, a3, a4, h0, h1.toAt, h2.toAt, h3.toAt, h4.toAt, h5.toAt, h6⟩
theorem ym.rebase {H0 H1 : Hp} {t : Ad} {H : Hp} {k : Nat} {ga : Addr} {g : Group} (h : ym H1 t H k ga g) (d : ∀ x, H1 x = none -> H0 x = none) : ym H0 t H k ga g := by
  obtain ⟨a0, a1, a2, a3, a4, h0, h1, h2, h3, h4, h5, h6, h7⟩ := h
  exact ⟨a0, a1, a2, a3, a4, h0, h1.rebase d, h2.rebase d, h3.rebase d, h4.rebase d, h5.rebase d, h6, d _ h7⟩
theorem ym.kept {H0 : Hp} {t : Ad} {H H' : Hp} {k : Nat} {ga : Addr} {g : Group} {B : Bi} {bs : List Bool} (h : ym H0 t H k ga g) (b : zo t H B bs) (kp : zy [B.p] H H') : ym H0 t H' k ga g := by
  obtain ⟨a0, a1, a2, a3, a4, h0, h1, h2, h3, h4, h5, h6, h7⟩ := h
  exact ⟨a0, a1, a2, a3, a4, kp.lst b h0, h1.kept b kp, h2.kept b kp, h3.kept b kp, h4.kept b kp, h5.kept b kp, h6, h7⟩
theorem ym.over {H0 : Hp} {t : Ad} {H : Hp} {k : Nat} {ga la : Addr} {g : Group} {o u : HO} (h : ym H0 t H k ga g) (hl : H0 la = some u) : ym H0 t (upd H la o) k ga g := by
  obtain ⟨a0, a1, a2, a3, a4, h0, h1, h2, h3, h4, h5, h6, h7⟩ := h
  exact ⟨a0, a1, a2, a3, a4, by rw [zh (zc hl h7).symm]; exact h0, h1.over hl, h2.over hl, h3.over hl, h4.over hl, h5.over hl, h6, h7⟩
theorem zbh.toGroup {H0 : Hp} {t : Ad} {H : Hp} {ga : Addr} {as : List Addr} {cs : List Sn15.Code} {k : Nat} (h : zbh H0 t H as cs (zV (zW k))) (hg : H ga = some (.lst (as.map V.ref))) : yK t H k ga (yD cs) /\ ∀ H1 : Hp, H1 ga = none -> (∀ x, H0 x = none -> H1 x = none) -> ym H1 t H k ga (yD cs) := by
  obtain ⟨l1, l2, at_⟩ := h
  have h5 : cs.length = 5 := by have := congrArg List.length l2; simpa [zV] using this
  obtain ⟨c0, c1, c2, c3, c4, rfl⟩ := zk8 h5
  obtain ⟨a0, a1, a2, a3, a4, rfl⟩ := zk8 (l1.trans h5)
  . obtain ⟨_, q0, r0⟩ := at_ 0 a0 rfl
    obtain ⟨_, q1, r1⟩ := at_ 1 a1 rfl
    obtain ⟨_, q2, r2⟩ := at_ 2 a2 rfl
    obtain ⟨_, q3, r3⟩ := at_ 3 a3 rfl
    obtain ⟨_, q4, r4⟩ := at_ 4 a4 rfl
    cases q0; cases q1; cases q2; cases q3; cases q4
    simp only [zV, List.map_cons, List.map_nil, List.cons.injEq, and_true] at l2
    have ok : vj k (yD [c0, c1, c2, c3, c4]) := ⟨l2.1, l2.2.1, l2.2.2.1, l2.2.2.2.1, l2.2.2.2.2⟩
    exact ⟨⟨a0, a1, a2, a3, a4, hg, r0.toAt, r1.toAt, r2.toAt, r3.toAt, r4.toAt, ok⟩, fun H1 n d => ⟨a0, a1, a2, a3, a4, hg, r0.rebase d, r1.rebase d, r2.rebase d, r3.rebase d, r4.rebase d, ok, n⟩⟩
def qX (t : Ad) (H0 : Hp) (k : Nat) : Group -> V -> Hp -> Prop := fun g v H => ∃ ga, v = .ref ga /\ ym H0 t H k ga g
theorem zgg {k : Nat} (h : k <= 11) : zW k <= 2048 := by
  unfold zW
  split
  . omega
  . exact Nat.le_trans (Nat.pow_le_pow_right (by decide) h) (by decide)
section
variable {P : Program} {w : World} {K : PySem.W.Frag} {mg : Str -> Option Value} {base : Heap} {t : Ad}
def v0 (t : Ad) : Sp := fun vs H Q E => ∃ (B : Bi) (bs : List Bool) (k : Nat), vs = [.ref B.p, nat k] /\ k <= 11 /\ zo t H B bs /\ Out t E B [] H (qX t H k) Q (Sn15.group (zW k) bs)
theorem vg : zq ["bits", "depth", "cached", "codes", "size"] ["bits", "depth"] (zj zeT) := by trivial
def zgH (t : Ad) (E : XK) (B : Bi) (H H1 : Hp) (Q : VK) (k : Nat) (la ta : Addr) (i : Nat) (σ : L2.St) (Hx : Hp) : Prop := ∃ (as : List Addr) (cs : List Sn15.Code) (bs : List Bool) (v4 : Option V), σ = [some (.ref B.p), some (nat k), some (nat (zW k)), some (.ref la), v4] /\
  Hx la = some (.lst (as.map V.ref)) /\ Hx ta = some (.tup (zm (zV (zW k)))) /\ zbh H1 t Hx as cs ((zV (zW k)).take i) /\ zo t Hx B bs /\ zy [B.p] H Hx /\ (∀ x, Hx x = none -> H1 x = none) /\ Out t E B [] H (qX t H k) Q ((xq ((zV (zW k)).drop i) >>= fun r => pure (yD (cs ++ r))) bs)
theorem zfA {f : Addr} {fd : FuncData} (F : Fun K "read_group" "read_group" zeT f fd) (T : Tx K mg t) (Gc : zE P w K mg base 6 "read_code" ["bits", "size"] (zc8 t)) : yg P w K mg base (CXe P w) 7 f fd ["bits", "depth"] (v0 t) := by
  refine F.okE vg (fun vs H Q E h => ?_) (fun cdv A outer s H vs Q E hr h => ?_)
  . obtain ⟨B, bs, k, rfl, _⟩ := h
    rfl
  . obtain ⟨B, bs, kc, rfl, hk, hb, k⟩ := h
    refine ⟨_, zd (zw (i := 2) vg.nd rfl (Or.inl rfl) (vt (zu jk (pv 1) zi (zD _)) (zt xa zi (pv 1)) zi))
      (zd (zw (i := 3) vg.nd rfl (Or.inl rfl) (yh zf))
      (zd (jW Lv.of.own rfl (zd8 (zi9 (za (zt zT zi (pv 2)) (za zi (za zi (za zi (za zi zf))))))) (yz (i := 4) vg.nd rfl (Or.inl rfl))
        (zg (yj (qQ PySem.F.plainAttrs_list PySem.F.slot_list_append PySem.F.type_list_append yo (pv 3) (za (pd Gc Lv.of hr (za (pv 0) (za (pv 4) zf))) zf)))))
      (zg (zB (pv 3))))), ?_⟩
    rw [zaK] at k
    have hcs := zgg hk
    have q280 : (280 : Int) + ((zW kc : Nat) : Int) = ((280 + zW kc : Nat) : Int) := by omega
    refine ⟨_, rfl, _, _, rfl, rfl, _, rfl, yC (fun e => ?_) (fun e => ?_)⟩
    . have h0 : ¬ kc = 0 := by have := of_decide_eq_true e; omega
      have ec : (1 : Int) * 2 ^ ((kc : Nat) : Int).toNat = ((zW kc : Nat) : Int) := by
        unfold zW
        rw [if_neg h0, Int.toNat_natCast, two_pow_int, Int.one_mul]
      refine ⟨_, rfl, _, _, rfl, rfl, ⟨by omega, by omega, by decide⟩, ?_⟩
      dsimp -proj only
      rw [ec]
      refine ⟨Nat.zero_le _, fun la hla => ?_⟩
      refine ⟨_, rfl, _, _, rfl, rfl, ?_⟩
      dsimp -proj only
      rw [q280]
      refine ⟨(by show 5 <= sizeLine; decide), fun ta hta => ⟨ta, rfl, ⟨_, SqT.of zb⟩, ?_⟩⟩
      generalize hH1 : upd (upd H la (.lst [])) ta _ = H1
      have la1 : H1 la = some (.lst []) := by rw [<- hH1, zh (zc zb hta)]; exact zb
      have ta1 : H1 ta = some (.tup (zm (zV (zW kc)))) := by rw [<- hH1, zb]; rfl
      have sm : zQ H H1 := by rw [<- hH1]; exact zr (zr (zQ.refl _) hla) hta
      refine wg (K := K) (a := ta) (xs := zm (zV (zW kc))) (zgH t E B H H1 Q kc la ta) ⟨[], [], bs, none, rfl, la1, ta1, ⟨rfl, rfl, fun j a e => by simp at e⟩, hb.same sm, zy.same sm _, fun x h => h, k⟩ (fun i σ Hz _ ⟨_, _, _, _, _, _, ht, _⟩ => SqT.of ht) ?_ ?_
      . rintro i x σ Hz hx ⟨as, cs, bs1, v4, rfl, hla1, hta1, hcs1, hb1, kp1, dm, k1⟩
        obtain ⟨n, hn, rfl⟩ := yG hx
        have hil : i < (zV (zW kc)).length := (List.getElem?_eq_some_iff.mp hn).1
        have hge : (zV (zW kc))[i] = n := by rw [List.getElem?_eq_getElem hil] at hn; exact Option.some.inj hn
        have hn3 : n <= 3000 := by
          have hm := List.mem_of_getElem? hn
          simp only [zV, List.mem_cons, List.not_mem_nil, or_false] at hm
          omega
        rw [List.drop_eq_getElem_cons hil, hge] at k1
        have k2 : Out t E B [] H (qX t H kc) Q ((Sn15.code n >>= fun c => xq ((zV (zW kc)).drop (i + 1)) >>= fun r => pure (yD ((cs ++ [c]) ++ r))) bs1) := by
          have e : (xq (n :: (zV (zW kc)).drop (i + 1)) >>= fun r => (pure (yD (cs ++ r)) : D Group)) = (Sn15.code n >>= fun c => xq ((zV (zW kc)).drop (i + 1)) >>= fun r => pure (yD ((cs ++ [c]) ++ r))) := by
            simp only [xq, zG, zl, List.append_assoc, List.singleton_append]
          rw [<- e]; exact k1
        refine ⟨_, rfl, .inl ⟨rfl, _, SqL.of hla1⟩, _, rfl, _, rfl, B, bs1, n, rfl, hn3, hb1, (k2.shift kp1).bind fun c bs2 v H2 hm hb2 kp2 hv _ => ?_⟩
        obtain ⟨⟨ca, rfl, hcn⟩, hcl⟩ := hv
        have hla2 := kp2.lst hb1 hla1
        have hasl : as.length <= 5 := by
          have h1 := hcs1.l1
          have h2 := congrArg List.length hcs1.l2
          rw [List.length_map, List.length_take] at h2
          have h3 : (zV (zW kc)).length = 5 := rfl
          omega
        have ntp : ta ≠ B.p := by
          obtain ⟨dz, iz, z1, _⟩ := hb1
          exact yO hta1 z1 (by intro z; cases z)
        refine ⟨la, _, _, rfl, rfl, hla2, ?_, as ++ [ca], cs ++ [c], bs2, some (nat n), rfl, by rw [zb, List.map_append]; rfl, ?_, ⟨?_, ?_, fun j a e => ?_⟩, qE hb2 hb hla, qy (kp1.trans kp2) hla, fun x hx => ?_, k2.next hm⟩
        . rw [List.length_map]
          exact Nat.lt_of_le_of_lt hasl (by decide)
        . rw [zh (yO hta1 hla1 (by intro z; cases z))]
          exact kp2 _ _ hta1 (by simpa using ntp)
        . rw [List.length_append, List.length_append, hcs1.l1]; rfl
        . rw [List.map_append, hcs1.l2, List.take_succ_eq_append_getElem hil, hge, <- hcl]; rfl
        . by_cases hj : j < as.length
          . rw [List.getElem?_append_left hj] at e
            obtain ⟨c', e1, e2⟩ := hcs1.at_ j a e
            refine ⟨c', ?_, (e2.kept hb1 kp2).over la1⟩
            rw [List.getElem?_append_left (by rw [<- hcs1.l1]; exact hj)]
            exact e1
          . rw [List.getElem?_append_right (by omega)] at e
            have hj0 : j - as.length = 0 := by
              cases q : j - as.length with
              | zero => rfl
              | succ m => rw [q] at e; simp at e
            rw [hj0] at e
            have ea : ca = a := Option.some.inj e
            subst ea
            refine ⟨c, ?_, (hcn.rebase dm).over la1⟩
            rw [List.getElem?_append_right (by rw [<- hcs1.l1]; omega), <- hcs1.l1, hj0]
            rfl
        . by_cases hxl : x = la
          . rw [hxl, zb] at hx; cases hx
          . rw [zh hxl] at hx
            exact dm x (yn kp2 hb2 x hx)
      . rintro σ Hz ⟨as, cs, bs1, v4, rfl, hla1, hta1, hcs1, hb1, kp1, dm, k1⟩
        rw [zk] at hcs1 k1
        rw [List.take_length] at hcs1
        rw [List.drop_length] at k1
        have k2 : Out t E B [] H (qX t H kc) Q ((pure (yD (cs ++ [])) : D Group) bs1) := k1
        rw [List.append_nil] at k2
        exact ⟨_, rfl, k2.pure' hb1 kp1 ⟨la, rfl, (hcs1.toGroup hla1).2 H hla (fun x hx => sm.free hx)⟩⟩
    . have h0 : kc = 0 := by
        have : ¬ (0 : Int) < (kc : Int) := fun z => e (decide_eq_true z)
        omega
      have ec : (0 : Int) = ((zW kc : Nat) : Int) := by
        unfold zW
        rw [if_pos h0]; rfl
      show zeU 2 (.int 0) _ _ _
      rw [ec]
      refine ⟨Nat.zero_le _, fun la hla => ?_⟩
      refine ⟨_, rfl, _, _, rfl, rfl, ?_⟩
      dsimp -proj only
      rw [q280]
      refine ⟨(by show 5 <= sizeLine; decide), fun ta hta => ⟨ta, rfl, ⟨_, SqT.of zb⟩, ?_⟩⟩
      generalize hH1 : upd (upd H la (.lst [])) ta _ = H1
      have la1 : H1 la = some (.lst []) := by rw [<- hH1, zh (zc zb hta)]; exact zb
      have ta1 : H1 ta = some (.tup (zm (zV (zW kc)))) := by rw [<- hH1, zb]; rfl
      have sm : zQ H H1 := by rw [<- hH1]; exact zr (zr (zQ.refl _) hla) hta
      refine wg (K := K) (a := ta) (xs := zm (zV (zW kc))) (zgH t E B H H1 Q kc la ta) ⟨[], [], bs, none, rfl, la1, ta1, ⟨rfl, rfl, fun j a e => by simp at e⟩, hb.same sm, zy.same sm _, fun x h => h, k⟩ (fun i σ Hz _ ⟨_, _, _, _, _, _, ht, _⟩ => SqT.of ht) ?_ ?_
      . rintro i x σ Hz hx ⟨as, cs, bs1, v4, rfl, hla1, hta1, hcs1, hb1, kp1, dm, k1⟩
        obtain ⟨n, hn, rfl⟩ := yG hx
        have hil : i < (zV (zW kc)).length := (List.getElem?_eq_some_iff.mp hn).1
        have hge : (zV (zW kc))[i] = n := by rw [List.getElem?_eq_getElem hil] at hn; exact Option.some.inj hn
        have hn3 : n <= 3000 := by
          have hm := List.mem_of_getElem? hn
          simp only [zV, List.mem_cons, List.not_mem_nil, or_false] at hm
          omega
        rw [List.drop_eq_getElem_cons hil, hge] at k1
        have k2 : Out t E B [] H (qX t H kc) Q ((Sn15.code n >>= fun c => xq ((zV (zW kc)).drop (i + 1)) >>= fun r => pure (yD ((cs ++ [c]) ++ r))) bs1) := by
          have e : (xq (n :: (zV (zW kc)).drop (i + 1)) >>= fun r => (pure (yD (cs ++ r)) : D Group)) = (Sn15.code n >>= fun c => xq ((zV (zW kc)).drop (i + 1)) >>= fun r => pure (yD ((cs ++ [c]) ++ r))) := by
            simp only [xq, zG, zl, List.append_assoc, List.singleton_append]
          rw [<- e]; exact k1
        refine ⟨_, rfl, .inl ⟨rfl, _, SqL.of hla1⟩, _, rfl, _, rfl, B, bs1, n, rfl, hn3, hb1, (k2.shift kp1).bind fun c bs2 v H2 hm hb2 kp2 hv _ => ?_⟩
        obtain ⟨⟨ca, rfl, hcn⟩, hcl⟩ := hv
        have hla2 := kp2.lst hb1 hla1
        have hasl : as.length <= 5 := by
          have h1 := hcs1.l1
          have h2 := congrArg List.length hcs1.l2
          rw [List.length_map, List.length_take] at h2
          have h3 : (zV (zW kc)).length = 5 := rfl
          omega
        have ntp : ta ≠ B.p := by
          obtain ⟨dz, iz, z1, _⟩ := hb1
          exact yO hta1 z1 (by intro z; cases z)
        refine ⟨la, _, _, rfl, rfl, hla2, ?_, as ++ [ca], cs ++ [c], bs2, some (nat n), rfl, by rw [zb, List.map_append]; rfl, ?_, ⟨?_, ?_, fun j a e => ?_⟩, qE hb2 hb hla, qy (kp1.trans kp2) hla, fun x hx => ?_, k2.next hm⟩
        . rw [List.length_map]
          exact Nat.lt_of_le_of_lt hasl (by decide)
        . rw [zh (yO hta1 hla1 (by intro z; cases z))]
          exact kp2 _ _ hta1 (by simpa using ntp)
        . rw [List.length_append, List.length_append, hcs1.l1]; rfl
        . rw [List.map_append, hcs1.l2, List.take_succ_eq_append_getElem hil, hge, <- hcl]; rfl
        . by_cases hj : j < as.length
          . rw [List.getElem?_append_left hj] at e
            obtain ⟨c', e1, e2⟩ := hcs1.at_ j a e
            refine ⟨c', ?_, (e2.kept hb1 kp2).over la1⟩
            rw [List.getElem?_append_left (by rw [<- hcs1.l1]; exact hj)]
            exact e1
          . rw [List.getElem?_append_right (by omega)] at e
            have hj0 : j - as.length = 0 := by
              cases q : j - as.length with
              | zero => rfl
              | succ m => rw [q] at e; simp at e
            rw [hj0] at e
            have ea : ca = a := Option.some.inj e
            subst ea
            refine ⟨c, ?_, (hcn.rebase dm).over la1⟩
            rw [List.getElem?_append_right (by rw [<- hcs1.l1]; omega), <- hcs1.l1, hj0]
            rfl
        . by_cases hxl : x = la
          . rw [hxl, zb] at hx; cases hx
          . rw [zh hxl] at hx
            exact dm x (yn kp2 hb2 x hx)
      . rintro σ Hz ⟨as, cs, bs1, v4, rfl, hla1, hta1, hcs1, hb1, kp1, dm, k1⟩
        rw [zk] at hcs1 k1
        rw [List.take_length] at hcs1
        rw [List.drop_length] at k1
        have k2 : Out t E B [] H (qX t H kc) Q ((pure (yD (cs ++ [])) : D Group) bs1) := k1
        rw [List.append_nil] at k2
        exact ⟨_, rfl, k2.pure' hb1 kp1 ⟨la, rfl, (hcs1.toGroup hla1).2 H hla (fun x hx => sm.free hx)⟩⟩
def vy (t : Ad) : Sp := fun vs H Q E => ∃ (B : Bi) (bs : List Bool) (w h : Nat), vs = [.ref B.p, nat w, nat h] /\ 0 < w /\ 0 < h /\ w * h <= 2 ^ 20 /\ zo t H B bs /\ Out t E B [] H (ka H (w * h)) Q (qx w h bs)
theorem zaP : zq ["bits", "width", "height", "depth", "groups"] ["bits", "width", "height"] (zj zef) := by trivial
theorem w9 {k : Nat} {bs bs' : List Bool} (h : qZ bs = some (k, bs')) : k <= 11 := by
  unfold qZ at h
  obtain ⟨u, bs1, _, h⟩ := bind_some h
  split at h
  . obtain ⟨q, bs2, _, h⟩ := bind_some h
    obtain ⟨_, bs3, hn, h⟩ := bind_some h
    cases h
    exact (of_decide_eq_true (xD hn).1).2
  . cases h; decide
theorem ji {H : Hp} {E : XK} {Q : VK} {B : Bi} {bs : List Bool} {w h k : Nat} {gs : List Group} {wh : Nat -> Nat -> Nat} {G p dx : Addr} (hG : jP t H k G w h gs wh) (hb : zo t H B bs) (hw : 0 < w) (hh : 0 < h) (hwh : w * h <= 2 ^ 20) (hk : k <= 11)
    (hp : H p = none) (hdx : H dx = none) (hne : dx ≠ p) (kk : Out t E B [] H (ka H (w * h)) Q (zbf w h k gs wh bs)) {H' : Hp} {C : Ca} (eC : C.p = p) (hC : zS t H' C w (w * h) k []) (kp : zy [p] (upd (upd H dx (.own p)) p (.ins t.CV dx [])) H') (nl : (upd (upd H dx (.own p)) p (.ins t.CV dx [])) C.l = none) (nc : (upd (upd H dx (.own p)) p (.ins t.CV dx [])) C.c = none) :
    xK t [.ref B.p, .ref p, .ref G] H' Q E := by
  have sm : zQ H H' := zQ.made hp hdx fun b o e ne => kp b o e (by simpa using ne)
  have free : ∀ x, (upd (upd H dx (.own p)) p (.ins t.CV dx [])) x = none -> H x = none := fun x hx => by
    by_cases h1 : x = p
    . rw [h1]; exact hp
    . rw [zh h1] at hx
      by_cases h2 : x = dx
      . rw [h2]; exact hdx
      . rw [zh h2] at hx; exact hx
  refine ⟨B, bs, C, w, h, k, gs, wh, G, H, by rw [eC], hG, ⟨zy.same sm _, ⟨bs, hb⟩, free _ nl, free _ nc⟩, hC, hb.same sm, hw, hh, hwh, ?_⟩
  cases hm : zbf w h k gs wh bs with
  | none => rw [hm] at kk; exact kk
  | some x =>
    rw [hm] at kk
    refine fun v H2 b2 k2 r => kk v H2 b2 (fun b o e n => k2 b o (sm b o e) ?_) r
    simp only [List.mem_cons, List.not_mem_nil, or_false] at n ⊢
    exact fun z => z.elim n fun z => z.elim (fun z => zc e (free _ nl) z) (fun z => zc e (free _ nc) z)
theorem zfT {f : Addr} {fd : FuncData} (F : Fun K "read_plain_picture" "read_plain_picture" zef f fd) (T : Tx K mg t) (Gd : zE P w K mg base 3 "read_cache_depth" ["bits"] (vx t)) (Gg : zE P w K mg base 7 "read_group" ["bits", "depth"] (v0 t))
    (GG : yd P w K mg base 1 t.CG "Groups" ["self", "squares", "groups"] (vX t)) (GV : yd P w K mg base 1 t.CV "Canvas" ["self", "width", "height", "depth"] (wc t)) (Gc : zE P w K mg base 5 "read_colours" ["bits", "canvas", "groups"] (xK t)) :
    yg P w K mg base (CXe P w) 8 f fd ["bits", "width", "height"] (vy t) := by
  refine F.okE zaP (fun vs H Q E h => ?_) (fun cdv A outer s H vs Q E hr h => ?_)
  . obtain ⟨B, bs, w, h, rfl, _⟩ := h
    rfl
  . obtain ⟨B, bs, w, h, rfl, hw, hh, hwh, hb, k⟩ := h
    have hr2 : yp 2 _ := hr.mono (by decide)
    have hr3 : yp 3 _ := hr.mono (by decide)
    have hr5 : yp 5 _ := hr.mono (by decide)
    refine ⟨_, zd (zw (i := 3) zaP.nd rfl (Or.inl rfl) (pd Gd Lv.of hr3 (za (pv 0) zf)))
      (zd (zw (i := 4) zaP.nd rfl (Or.inl rfl) (pmk GG Lv.of hr2 (za zb9 (za (yh (za (pd Gg Lv.of hr (za (pv 0) (za (pv 3) zf))) zf)) zf))))
      (zg (zB (pd Gc Lv.of hr5 (za (pv 0) (za (pmk GV Lv.of hr2 (za (pv 1) (za (pv 2) (za (pv 3) zf)))) (za (pv 4) zf))))))), ?_⟩
    unfold qx at k
    refine ⟨_, rfl, B, bs, rfl, hb, k.bind fun kc bs1 v1 H1 hm1 hb1 kp1 hv1 k1 => ?_⟩
    cases hv1
    have hk := w9 hm1
    refine ⟨_, rfl, _, rfl, B, bs1, kc, rfl, hk, hb1, k1.bind fun g bs2 v2 H2 hm2 hb2 kp2 hv2 k2 => ?_⟩
    obtain ⟨ga, rfl, hg⟩ := hv2
    refine ⟨(by show 1 <= sizeLine; decide), fun la hla => ?_⟩
    intro p dx hp hdx hne
    refine ⟨p, dx, la, .non, rfl, zb, fun H3 e3 kp3 => ⟨rfl, ?_⟩⟩
    have sm3 : zQ H2 H3 := (zr (zQ.refl _) hla).trans (zQ.made hp hdx fun b o e ne => kp3 b o e (by simpa using ne))
    have la3 : H3 la = some (.lst [.ref ga]) := (zQ.made hp hdx fun b o e ne => kp3 b o e (by simpa using ne)) _ _ zb
    have hG : jP t H3 kc p w h [g] (fun _ _ => 0) := ⟨dx, la, .non, [ga], e3, la3, rfl, fun j ga' e => by
      cases j with
      | zero =>
        have : ga = ga' := Option.some.inj e
        subst this
        exact ⟨g, rfl, hg.toAt.same sm3⟩
      | succ j => simp at e, .inl ⟨rfl, rfl, by simp⟩⟩
    have hwle : w <= 2 ^ 20 := Nat.le_trans (Nat.le_mul_of_pos_right w hh) hwh
    refine ⟨_, rfl, _, rfl, _, rfl, _, rfl, ?_⟩
    intro p4 dx4 hp4 hdx4 hne4
    refine ⟨p4, dx4, w, h, kc, rfl, zb, hwle, hk, fun H5 C eC hC5 kp5 nl5 nc5 => ⟨rfl, _, rfl, ?_⟩⟩
    exact ji hG (hb2.same sm3) hw hh hwh hk hp4 hdx4 hne4 ((k2.shift (zy.same sm3 _)).imp (ka.rebase fun x hx => yn kp1 hb1 x (yn kp2 hb2 x (sm3.free hx)))) eC hC5 kp5 nl5 nc5
end
end Lk
end
section
namespace Lk
open PySem PySem.Spec PyProof.Rows L2
open Sn15 (D bits bitsOf symbol Px Group up)
theorem wF {n z : Nat} (h : 0 < z) (hn : 0 < n) : 0 < up n z := by
  have := j5 (x := 0) h hn
  rw [Nat.zero_div] at this
  exact this
theorem wA {w h z : Nat} (hz : 0 < z) {m : Nat} (hm : w * h <= m) : up w z * up h z <= m := Nat.le_trans (Nat.mul_le_mul (zfR hz) (zfR hz)) hm
def zla (t : Ad) (H0 : Hp) (w h : Nat) : Nat × List Px -> V -> Hp -> Prop := fun m v H => ∃ sa cl, v = .ref sa /\ zdE t H sa cl m.1 (up w (2 ^ m.1)) m.2 /\ m.1 <= 9 /\ m.2.length = up w (2 ^ m.1) * up h (2 ^ m.1) /\ H0 sa = none /\ H0 cl = none
theorem xM : ∀ (l : List Nat) (a b : Nat), a <= b -> (∀ x ∈ l, x <= b) -> l.foldl max a <= b
  | [], a, b, h, _ => h
  | x :: r, a, b, h, hx => xM r (max a x) b (by have := hx x List.mem_cons_self; omega) fun y hy => hx y (List.mem_cons_of_mem _ hy)
theorem xL : ∀ (l : List Nat) (a : Nat), a <= l.foldl max a /\ ∀ x ∈ l, x <= l.foldl max a
  | [], a => ⟨Nat.le_refl _, fun x hx => by cases hx⟩
  | y :: r, a => by
    obtain ⟨h1, h2⟩ := xL r (max a y)
    refine ⟨Nat.le_trans (Nat.le_max_left a y) h1, fun x hx => ?_⟩
    rcases List.mem_cons.mp hx with e | e
    . rw [e]; exact Nat.le_trans (Nat.le_max_right a y) h1
    . exact h2 x e
theorem zjl {l : List Nat} {M : Int} (h1 : M ∈ l.map fun (n : Nat) => (n : Int)) (h2 : ∀ x ∈ l.map (fun (n : Nat) => (n : Int)), x <= M) : M = ((l.foldl max 0 : Nat) : Int) := by
  obtain ⟨m, hm, rfl⟩ := List.mem_map.mp h1
  have a := (xL l 0).2 m hm
  have b := xM l 0 m (Nat.zero_le _) fun x hx => by
    have := h2 (x : Int) (List.mem_map.mpr ⟨x, hx, rfl⟩)
    omega
  omega
theorem pdn {X : Cx} {k : Nat} {x : Str} {ps : List Str} {sp : Sp} {p pos : Pos} {e : Expr} {es : List Expr} {ts : TA} (G : zE X.prog X.w X.K X.mg X.base k x ps sp) (hr : yp k X.A) (ha : PA X (e :: es) ts) (hg : Gl X x := by rfl) (hdb : (x == ("__debug__" : Str)) = false := by decide)
    (he : starEach (e :: es) X.env = (false, eval e X.env) :: starEach es X.env := by rfl) (hpl : (backTo pos (starEach es X.env)).any (·.1) = false := by rfl) : PE X (.Call (.Name x p) (e :: es) [] pos) (zgj sp [] (fun _ _ _ => False) ts) := by
  obtain ⟨f, fd, F, hm, hk, hb⟩ := G.ex
  exact zbm F hr hg hm hk hb .nil (fun _ _ _ _ _ _ _ h => by obtain ⟨_, _, _, _, _, _, hE, _⟩ := h; exact hE.elim) ha hdb he hpl
section
variable {P : Program} {w : World} {K : PySem.W.Frag} {mg : Str -> Option Value} {base : Heap} {t : Ad}
def xJ (t : Ad) : Sp := fun vs H Q E => ∃ (B : Bi) (bs : List Bool) (w h : Nat), vs = [.ref B.p, nat w, nat h] /\ 0 < w /\ 0 < h /\ w * h <= 2 ^ 20 /\ zo t H B bs /\ Out t E B [] H (zla t H w h) Q (yF w h bs)
theorem qi : zq ["bits", "width", "height", "shift", "across", "colours"] ["bits", "width", "height"] (zj vT) := by trivial
theorem zcD {f : Addr} {fd : FuncData} (F : Fun K "read_squares" "read_squares" vT f fd) (T : Tx K mg t) (Gn : zI P w K mg base 2 t.CB "number" ["self", "width"] (yw t)) (Gu : zE P w K mg base 1 "divided_up" ["number", "shift"] vA) (Gp : zE P w K mg base 8 "read_plain_picture" ["bits", "width", "height"] (vy t))
    (GS : yd P w K mg base 1 t.CS "Squares" ["self", "shift", "across", "colours"] (zaE t)) : yg P w K mg base (CXe P w) 9 f fd ["bits", "width", "height"] (xJ t) := by
  refine F.okE qi (fun vs H Q E h => ?_) (fun cdv A outer s H vs Q E hr h => ?_)
  . obtain ⟨B, bs, w, h, rfl, _⟩ := h
    rfl
  . obtain ⟨B, bs, w, h, rfl, hw, hh, hwh, hb, k⟩ := h
    have hr1 : yp 1 _ := hr.mono (by decide)
    have hr2 : yp 2 _ := hr.mono (by decide)
    refine ⟨_, zd (zw (i := 3) qi.nd rfl (Or.inl rfl) (zt zT (pm Gn Lv.of T.cB hr2 (pv 0) (za zi zf)) zi))
      (zd (zw (i := 4) qi.nd rfl (Or.inl rfl) (pd Gu Lv.of hr1 (za (pv 1) (za (pv 3) zf))))
      (zd (zw (i := 5) qi.nd rfl (Or.inl rfl) (pd Gp Lv.of hr (za (pv 0) (za (pv 4) (za (pd Gu Lv.of hr1 (za (pv 2) (za (pv 3) zf))) zf)))))
      (zg (zB (pmk GS Lv.of hr2 (za (pv 3) (za (pv 4) (za (pv 5) zf)))))))), ?_⟩
    unfold yF at k
    obtain ⟨dx, fs, e1, e2⟩ := hb.meth (m := "number")
    refine ⟨_, rfl, B.p, dx, fs, rfl, e1, e2, B, bs, 3, rfl, by decide, hb, k.bind fun q bs1 v1 H1 hm1 hb1 kp1 hv1 k1 => ?_⟩
    cases hv1
    have hq : q < 8 := ya hm1
    have eq2 : (q : Int) + 2 = ((q + 2 : Nat) : Int) := by omega
    refine ⟨_, _, rfl, rfl, ?_⟩
    dsimp -proj only
    rw [eq2]
    have hzp : 0 < (2 : Nat) ^ (q + 2) := Nat.pow_pos (by decide)
    refine ⟨_, rfl, _, rfl, w, q + 2, rfl, by omega, _, rfl, _, rfl, _, rfl, _, rfl, h, q + 2, rfl, by omega, B, bs1, up w (2 ^ (q + 2)), up h (2 ^ (q + 2)), rfl, wF hzp hw, wF hzp hh, wA hzp hwh, hb1, k1.bind fun l bs2 v2 H2 hm2 hb2 kp2 hv2 k2 => ?_⟩
    obtain ⟨cl, rfl, hcl, hll, hok, ncl⟩ := hv2
    refine ⟨_, rfl, _, rfl, _, rfl, ?_⟩
    intro p dxp hp hdxp hne
    refine ⟨p, dxp, cl, q + 2, up w (2 ^ (q + 2)), rfl, zb, fun H3 e3 kp3 => ⟨rfl, ?_⟩⟩
    have sm : zQ H2 H3 := zQ.made hp hdxp fun b o e ne => kp3 b o e (by simpa using ne)
    exact k2.pure' (hb2.same sm) (zy.same sm _) ⟨p, cl, rfl, ⟨⟨dxp, e3⟩, sm _ _ hcl, hok⟩, by show q + 2 <= 9; omega, hll, yn kp1 hb1 _ (yn kp2 hb2 _ hp), yn kp1 hb1 _ ncl⟩
def zet (t : Ad) (k w h : Nat) : List Group × (Nat -> Nat -> Nat) -> V -> Hp -> Prop := fun m v H => ∃ G, v = .ref G /\ jP t H k G w h m.1 m.2
def vc (t : Ad) : Sp := fun vs H Q E => ∃ (B : Bi) (bs : List Bool) (w h k : Nat), vs = [.ref B.p, nat w, nat h, nat k] /\ 0 < w /\ 0 < h /\ w * h <= 2 ^ 20 /\ k <= 11 /\ zo t H B bs /\ Out t E B [] H (zet t k w h) Q (vB w h k bs)
abbrev zdr : List Str := ["bits", "width", "height", "depth", "squares", "greatest", "groups", "colour"]
theorem xX : zq zdr ["bits", "width", "height", "depth"] (zj vI) := by trivial
theorem zaO (c n : Nat) : Sn15.groups c (n + 1) = (Sn15.group c >>= fun g => Sn15.groups c n >>= fun r => pure (g :: r)) := rfl
def zeF (t : Ad) (E : XK) (B : Bi) (H H3 : Hp) (Q : VK) (kc w h N : Nat) (wh : Nat -> Nat -> Nat) (sa la : Addr) (m : Nat) (σ : L2.St) (Hx : Hp) : Prop := ∃ (gas : List Addr) (gs : List Group) (bs : List Bool) (v7 : Option V), m = N - gs.length /\
  σ = [some (.ref B.p), some (nat w), some (nat h), some (nat kc), some (.ref sa), some (.int ((N : Int) - 1)), some (.ref la), v7] /\ gas.length = gs.length /\ gs.length <= N /\ Hx la = some (.lst (gas.map V.ref)) /\ (∀ (j : Nat) (ga : Addr), gas[j]? = some ga -> ∃ g, gs[j]? = some g /\ ym H3 t Hx kc ga g) /\
  zo t Hx B bs /\ zy [B.p] H Hx /\ (∀ x, Hx x = none -> H3 x = none) /\ Out t E B [] H (zet t kc w h) Q ((Sn15.groups (zW kc) (N - gs.length) >>= fun r => pure (gs ++ r, wh)) bs)
theorem zdX {f : Addr} {fd : FuncData} (F : Fun K "read_groups" "read_groups" vI f fd) (T : Tx K mg t) (Gb : zI P w K mg base 1 t.CB "bit" ["self"] (j0 t)) (Gg : zE P w K mg base 7 "read_group" ["bits", "depth"] (v0 t)) (GG : yd P w K mg base 1 t.CG "Groups" ["self", "squares", "groups"] (vX t))
    (Gs : zE P w K mg base 9 "read_squares" ["bits", "width", "height"] (xJ t)) (Gn : zE P w K mg base 1 "group_number" ["colour"] wn) : yg P w K mg base (CXe P w) 10 f fd ["bits", "width", "height", "depth"] (vc t) := by
  refine F.okE xX (fun vs H Q E h => ?_) (fun cdv A outer s H vs Q E hr h => ?_)
  . obtain ⟨B, bs, w, h, k, rfl, _⟩ := h
    rfl
  . obtain ⟨B, bs, w, h, kc, rfl, hw, hh, hwh, hk, hb, k⟩ := h
    have hr1 : yp 1 _ := hr.mono (by decide)
    have hr2 : yp 2 _ := hr.mono (by decide)
    have hr7 : yp 7 _ := hr.mono (by decide)
    refine ⟨_, zd (ye (zu xt (pm0 Gb Lv.of T.cB hr1 (pv 0)) zi (zD _)) (zg (zB (pmk GG Lv.of hr2 (za zb9 (za (yh (za (pd Gg Lv.of hr7 (za (pv 0) (za (pv 3) zf))) zf)) zf))))) zH)
      (zd (zw (i := 4) xX.nd rfl (Or.inl rfl) (pd Gs Lv.of hr (za (pv 0) (za (pv 1) (za (pv 2) zf)))))
      (zd (zw (i := 5) xX.nd rfl (Or.inl rfl) (zL (zai rfl) (by rfl) T.max PyProof.Rows.boot_max (za (zhP (own := [("colour", 7)]) rfl xX.nd (zbr (zx (pv 4) rfl)) (by show ke zdr (zj vI) _ _; exact qC (by decide +kernel))
          (fun _ _ _ _ _ => by exact yz (i := 7) xX.nd (by rfl) (Or.inl (by rfl)) (Or.inr (by rfl))) (fun _ _ _ _ _ => jF) (fun _ _ _ _ _ => by exact pdn Gn hr1 (za (pv 7) zf))) zf)))
      (zd (zw (i := 6) xX.nd rfl (Or.inl rfl) (yh zf))
      (zd (qB Lv.of.own (zu zfi (zL zC (by rfl) T.len PySem.boot_len (za (pv 6) zf)) (pv 5) (zD _))
        (zg (yj (qQ PySem.F.plainAttrs_list PySem.F.slot_list_append PySem.F.type_list_append yo (pv 6) (za (pd Gg Lv.of hr7 (za (pv 0) (za (pv 3) zf))) zf)))))
      (zg (zB (pmk GG Lv.of hr2 (za (pv 4) (za (pv 6) zf))))))))), ?_⟩
    unfold vB at k
    obtain ⟨dx, fs, e1, e2⟩ := hb.meth (m := "bit")
    refine ⟨_, rfl, B.p, dx, fs, rfl, e1, e2, B, bs, rfl, hb, k.bind fun u bs1 v1 H1 hm1 hb1 kp1 hv1 k1 => ?_⟩
    cases hv1
    have hu : u < 2 := xU hm1
    refine ⟨rfl, _, rfl, yC (fun e => ?_) (fun e => ?_)⟩
    . have e' : ¬ u = 1 := by have := V.int.inj (of_decide_eq_true e); omega
      rw [if_neg e'] at k1
      refine ⟨_, rfl, _, rfl, B, bs1, kc, rfl, hk, hb1, k1.bind fun g bs2 v2 H2 hm2 hb2 kp2 hv2 k2 => ?_⟩
      obtain ⟨ga, rfl, hg⟩ := hv2
      refine ⟨(by show 1 <= sizeLine; decide), fun la hla => ?_⟩
      intro p dxp hp hdxp hne
      refine ⟨p, dxp, la, .non, rfl, zb, fun H3 e3 kp3 => ⟨rfl, ?_⟩⟩
      have smm := zQ.made hp hdxp fun b o e ne => kp3 b o e (by simpa using ne)
      have sm3 : zQ H2 H3 := (zr (zQ.refl _) hla).trans smm
      have la3 : H3 la = some (.lst [.ref ga]) := smm _ _ zb
      refine k2.pure' (hb2.same sm3) (zy.same sm3 _) ⟨p, rfl, ⟨dxp, la, .non, [ga], e3, la3, rfl, fun j ga' e => ?_, .inl ⟨rfl, rfl, by simp⟩⟩⟩
      cases j with
      | zero =>
        have : ga = ga' := Option.some.inj e
        subst this
        exact ⟨g, rfl, hg.toAt.same sm3⟩
      | succ j => simp at e
    . have e' : u = 1 := by
        have : ¬ u = 0 := fun z => e (by rw [z]; exact decide_eq_true rfl)
        omega
      rw [if_pos e'] at k1
      refine ⟨_, rfl, _, rfl, _, rfl, B, bs1, w, h, rfl, hw, hh, hwh, hb1, k1.bind fun sq bs2 v2 H2 hm2 hb2 kp2 hv2 k2 => ?_⟩
      obtain ⟨z, l⟩ := sq
      obtain ⟨sa, cl, rfl, hS, hz9, hll, _, _⟩ := hv2
      dsimp only at hS hz9 hll k2
      obtain ⟨sdx, hsin⟩ := hS.ins
      have hzp : 0 < (2 : Nat) ^ z := Nat.pow_pos (by decide)
      have hlpos : 0 < l.length := by rw [hll]; exact Nat.mul_pos (wF hzp hw) (wF hzp hh)
      have hlle : l.length <= 2 ^ 20 := by rw [hll]; exact wA hzp hwh
      have hwl : (zm (zn l)).length = l.length := by rw [zk]; unfold zn; rw [List.length_map]
      refine ⟨_, rfl, sa, t.CS, sdx, _, _, rfl, hsin, T.cS, T.sC, zhq _ _ _, cl, rfl, ⟨_, SqL.of hS.lst⟩, fun Dl hDl => zid (K := K) (a := cl) (xs := zm (zn l)) (fun i Hx => zQ H2 Hx /\ Hx Dl = some (.lst (zm ((l.take i).map yJ)))) ⟨zr (zQ.refl _) hDl, zb⟩ (fun i Hx _ h => SqL.of (h.1 _ _ hS.lst)) ?_ ?_⟩
      . rintro i x Hx hx ⟨sx, dxx⟩
        obtain ⟨n, hn, rfl⟩ := yG hx
        unfold zn at hn
        rw [List.getElem?_map] at hn
        cases hp : l[i]? with
        | none => rw [hp] at hn; cases hn
        | some p =>
          rw [hp] at hn
          have en : p.word = n := Option.some.inj hn
          subst en
          have hil : i < l.length := (List.getElem?_eq_some_iff.mp hp).1
          refine ⟨rfl, wT ⟨_, rfl, p, rfl, hS.ok p (List.mem_of_getElem? hp), _, dxx, ?_, yH sx hDl, ?_⟩⟩
          . rw [zk, List.length_map, List.length_take]
            exact Nat.lt_of_le_of_lt (Nat.le_trans (Nat.min_le_right _ _) hlle) (by decide)
          . have hg : l[i] = p := by rw [List.getElem?_eq_getElem hil] at hp; exact Option.some.inj hp
            rw [zb, List.take_succ_eq_append_getElem hil, List.map_append, yt, hg]; rfl
      . rintro Hx ⟨sx, dxx⟩
        rw [hwl, List.take_length] at dxx
        refine ⟨Dl, (l.map yJ).map fun (n : Nat) => (n : Int), rfl, SqL.of (by rw [<- kO]; exact dxx), by rw [List.length_map, List.length_map]; exact hlpos, fun M hM hMx => ?_⟩
        have hMe := zjl hM hMx
        generalize hN : (l.map yJ).foldl max 0 = N0 at hMe k2
        subst hMe
        refine ⟨Nat.zero_le _, fun la hla => ?_⟩
        have smx : zQ H2 (upd Hx la (.lst [])) := zr sx hla
        have la2 : H2 la = none := sx.free hla
        generalize hH3 : upd Hx la (.lst []) = H3
        rw [hH3] at smx
        have la3 : H3 la = some (.lst []) := by rw [<- hH3]; exact zb
        have qN : ((N0 : Nat) : Int) = ((N0 + 1 : Nat) : Int) - 1 := by omega
        rw [qN]
        refine ⟨zeF t E B H2 H3 Q kc w h (N0 + 1) (yx w z l) sa la, ⟨_, [], [], bs2, none, rfl, rfl, rfl, Nat.zero_le _, la3, fun j ga e => by simp at e, hb2.same smx, zy.same smx _, fun x h => h, ?_⟩, ?_⟩
        . have e5 : (Sn15.groups (zW kc) (N0 + 1) >>= fun r => (pure (([] : List Group) ++ r, yx w z l) : D (List Group × (Nat -> Nat -> Nat)))) = (Sn15.groups (zW kc) (N0 + 1) >>= fun r => pure (r, yx w z l)) := rfl
          show Out t E B [] H2 (zet t kc w h) Q ((Sn15.groups (zW kc) (N0 + 1) >>= fun r => (pure (([] : List Group) ++ r, yx w z l) : D (List Group × (Nat -> Nat -> Nat)))) bs2)
          rw [e5]
          exact k2
        . rintro m σ Hy ⟨gas, gs, bs3, v7, rfl, rfl, hgl, hgN, hly, hgr, hb3, kp3, dm, k3⟩
          refine ⟨_, rfl, la, _, rfl, .inl (SqL.of hly), _, rfl, _, _, rfl, rfl, _, rfl, yC (fun e6 => ?_) (fun e6 => ?_)⟩
          . have hlt : gs.length < N0 + 1 := by have := of_decide_eq_true e6; rw [List.length_map, hgl] at this; omega
            refine ⟨fun σ' H' => ∃ m', m' < N0 + 1 - gs.length /\ zeF t E B H2 H3 Q kc w h (N0 + 1) (yx w z l) sa la m' σ' H', fun _ _ h => h, ?_⟩
            have k4 : Out t E B [] H2 (zet t kc w h) Q ((Sn15.group (zW kc) >>= fun g => Sn15.groups (zW kc) (N0 + 1 - (gs.length + 1)) >>= fun r => pure ((gs ++ [g]) ++ r, yx w z l)) bs3) := by
              have e7 : (Sn15.groups (zW kc) (N0 + 1 - gs.length) >>= fun r => (pure (gs ++ r, yx w z l) : D (List Group × (Nat -> Nat -> Nat)))) = (Sn15.group (zW kc) >>= fun g => Sn15.groups (zW kc) (N0 + 1 - (gs.length + 1)) >>= fun r => pure ((gs ++ [g]) ++ r, yx w z l)) := by
                have e8 : N0 + 1 - gs.length = (N0 + 1 - (gs.length + 1)) + 1 := by omega
                rw [e8, zaO]
                simp only [zG, zl, List.append_assoc, List.singleton_append]
              rw [<- e7]; exact k3
            refine ⟨_, rfl, .inl ⟨rfl, _, SqL.of hly⟩, _, rfl, _, rfl, B, bs3, kc, rfl, hk, hb3, (k4.shift kp3).bind fun g bs4 v4 H4 hm4 hb4 kp4 hv4 _ => ?_⟩
            obtain ⟨ga, rfl, hgn⟩ := hv4
            have hly4 := kp4.lst hb3 hly
            refine ⟨la, _, _, rfl, rfl, hly4, ?_, N0 + 1 - (gs ++ [g]).length, ?_, gas ++ [ga], gs ++ [g], bs4, v7, rfl, rfl, by rw [List.length_append, List.length_append, hgl]; rfl, by rw [List.length_append]; simp; omega, by rw [zb, List.map_append]; rfl, fun j a ej => ?_, qE hb4 hb2 la2, qy (kp3.trans kp4) la2, fun x hx => ?_, ?_⟩
            . rw [List.length_map, hgl]
              have hNle : N0 <= 65535 := by
                rw [<- hN]
                refine xM _ 0 _ (Nat.zero_le _) fun x hx => ?_
                obtain ⟨p, hp, rfl⟩ := List.mem_map.mp hx
                obtain ⟨_, q2, q3, _⟩ := hS.ok p hp
                unfold yJ
                omega
              exact Nat.lt_of_le_of_lt (by omega : gs.length <= 65536) (by decide)
            . rw [List.length_append]; simp; omega
            . by_cases hj : j < gas.length
              . rw [List.getElem?_append_left hj] at ej
                obtain ⟨g', e9, e10⟩ := hgr j a ej
                refine ⟨g', ?_, (e10.kept hb3 kp4).over la3⟩
                rw [List.getElem?_append_left (by rw [<- hgl]; exact hj)]
                exact e9
              . rw [List.getElem?_append_right (by omega)] at ej
                have hj0 : j - gas.length = 0 := by
                  cases q : j - gas.length with
                  | zero => rfl
                  | succ m => rw [q] at ej; simp at ej
                rw [hj0] at ej
                have ea : ga = a := Option.some.inj ej
                subst ea
                refine ⟨g, ?_, (hgn.rebase dm).over la3⟩
                rw [List.getElem?_append_right (by rw [<- hgl]; omega), <- hgl, hj0]
                rfl
            . by_cases hxl : x = la
              . rw [hxl, zb] at hx; cases hx
              . rw [zh hxl] at hx
                exact dm x (yn kp4 hb4 x hx)
            . rw [List.length_append]
              exact k4.next hm4
          . have hge : gs.length = N0 + 1 := by
              have : ¬ ((gas.map V.ref).length : Int) <= ((N0 + 1 : Nat) : Int) - 1 := fun z => e6 (decide_eq_true z)
              rw [List.length_map, hgl] at this
              omega
            have k4 : Out t E B [] H2 (zet t kc w h) Q ((pure (gs, yx w z l) : D (List Group × (Nat -> Nat -> Nat))) bs3) := by
              have e7 : (Sn15.groups (zW kc) (N0 + 1 - gs.length) >>= fun r => (pure (gs ++ r, yx w z l) : D (List Group × (Nat -> Nat -> Nat)))) = pure (gs, yx w z l) := by
                rw [hge, Nat.sub_self]
                show (pure [] >>= _) = _
                rw [zl, List.append_nil]
              rw [<- e7]; exact k3
            refine ⟨_, rfl, _, rfl, ?_⟩
            intro p dxp hp hdxp hne
            refine ⟨p, dxp, la, .ref sa, rfl, zb, fun H5 e5 kp5 => ⟨rfl, ?_⟩⟩
            have smm := zQ.made hp hdxp fun b o e ne => kp5 b o e (by simpa using ne)
            refine k4.pure' (hb3.same smm) (kp3.trans (zy.same smm _)) ⟨p, rfl, ⟨dxp, la, .ref sa, gas, e5, smm _ _ hly, hgl, fun j ga ej => ?_, .inr ⟨sa, cl, z, l, rfl, (hS.kept hb2 kp3).same smm, rfl, by omega, hll, fun p hp => ?_⟩⟩⟩
            . obtain ⟨g', e9, e10⟩ := hgr j ga ej
              exact ⟨g', e9, e10.toAt.same smm⟩
            . rw [hge, <- hN]
              have := (xL (l.map yJ) 0).2 (yJ p) (List.mem_map.mpr ⟨p, hp, rfl⟩)
              omega
def jQ (t : Ad) : Sp := fun vs H Q E => ∃ (B : Bi) (bs : List Bool) (w h : Nat), vs = [.ref B.p, nat w, nat h] /\ 0 < w /\ 0 < h /\ w * h <= 2 ^ 20 /\ zo t H B bs /\ Out t E B [] H (ka H (w * h)) Q (zcy w h bs)
theorem jI : zq ["bits", "width", "height", "depth", "groups"] ["bits", "width", "height"] (zj vY) := by trivial
theorem zcs {f : Addr} {fd : FuncData} (F : Fun K "read_grouped_picture" "read_grouped_picture" vY f fd) (T : Tx K mg t) (Gd : zE P w K mg base 3 "read_cache_depth" ["bits"] (vx t)) (Gg : zE P w K mg base 10 "read_groups" ["bits", "width", "height", "depth"] (vc t))
    (GV : yd P w K mg base 1 t.CV "Canvas" ["self", "width", "height", "depth"] (wc t)) (Gc : zE P w K mg base 5 "read_colours" ["bits", "canvas", "groups"] (xK t)) : yg P w K mg base (CXe P w) 11 f fd ["bits", "width", "height"] (jQ t) := by
  refine F.okE jI (fun vs H Q E h => ?_) (fun cdv A outer s H vs Q E hr h => ?_)
  . obtain ⟨B, bs, w, h, rfl, _⟩ := h
    rfl
  . obtain ⟨B, bs, w, h, rfl, hw, hh, hwh, hb, k⟩ := h
    have hr2 : yp 2 _ := hr.mono (by decide)
    have hr3 : yp 3 _ := hr.mono (by decide)
    have hr5 : yp 5 _ := hr.mono (by decide)
    refine ⟨_, zd (zw (i := 3) jI.nd rfl (Or.inl rfl) (pd Gd Lv.of hr3 (za (pv 0) zf)))
      (zd (zw (i := 4) jI.nd rfl (Or.inl rfl) (pd Gg Lv.of hr (za (pv 0) (za (pv 1) (za (pv 2) (za (pv 3) zf))))))
      (zg (zB (pd Gc Lv.of hr5 (za (pv 0) (za (pmk GV Lv.of hr2 (za (pv 1) (za (pv 2) (za (pv 3) zf)))) (za (pv 4) zf))))))), ?_⟩
    unfold zcy at k
    refine ⟨_, rfl, B, bs, rfl, hb, k.bind fun kc bs1 v1 H1 hm1 hb1 kp1 hv1 k1 => ?_⟩
    cases hv1
    have hk := w9 hm1
    refine ⟨_, rfl, _, rfl, _, rfl, _, rfl, B, bs1, w, h, kc, rfl, hw, hh, hwh, hk, hb1, k1.bind fun gg bs2 v2 H2 hm2 hb2 kp2 hv2 k2 => ?_⟩
    obtain ⟨G, rfl, hG⟩ := hv2
    have hwle : w <= 2 ^ 20 := Nat.le_trans (Nat.le_mul_of_pos_right w hh) hwh
    refine ⟨_, rfl, _, rfl, _, rfl, _, rfl, ?_⟩
    intro p4 dx4 hp4 hdx4 hne4
    refine ⟨p4, dx4, w, h, kc, rfl, zb, hwle, hk, fun H5 C eC hC5 kp5 nl5 nc5 => ⟨rfl, _, rfl, ?_⟩⟩
    exact ji hG hb2 hw hh hwh hk hp4 hdx4 hne4 (k2.imp (ka.rebase fun x hx => yn kp1 hb1 x (yn kp2 hb2 x hx))) eC hC5 kp5 nl5 nc5
end
end Lk
end
section
namespace Lk
open PySem PySem.Spec PyProof.Rows L2
open Sn15 (D bits bitsOf symbol Px Group up need packedBits Trans add sums)
abbrev zfd : Stmt := top 53
abbrev zek : Stmt := z0 (top 58) 0
abbrev zdM : Stmt := z0 (top 55) 0
abbrev zea : Stmt := z0 (top 60) 0
abbrev zde : Stmt := z0 (top 60) 1
abbrev jO : Stmt := top 61
abbrev ziG : Stmt := top 62
abbrev zdS : Stmt := top 71
abbrev zdu : Stmt := top 72
structure Tx2 (K : PySem.W.Frag) (mg : Str -> Option Value) (t : Ad) : Prop where
  kPRED : ∃ u, mg "PREDICTIONS" = some u /\ yc (.int 0) u
  kCOL : ∃ u, mg "COLOURS" = some u /\ yc (.int 1) u
  kGRE : ∃ u, mg "GREENS" = some u /\ yc (.int 2) u
  kTAB : ∃ u, mg "TABLE" = some u /\ yc (.int 3) u
  kMODE : ∃ u, mg "GREATEST_MODE" = some u /\ yc (.int 13) u
  kSIG : ∃ u, mg "SIGNATURE" = some u /\ yc (.int 47) u
  kNSF : ∃ u, mg "NO_SUCH_FILE" = some u /\ yc (.int (-3)) u
  kTOO : ∃ u, mg "TOO_LARGE" = some u /\ yc (.int (-4)) u
  kLAR : ∃ u, mg "LARGEST" = some u /\ yc (.int 1048576) u
  kM1 : ∃ u, mg "ALPHA_AND_GREEN" = some u /\ yc (.int 4278255360) u
  kM2 : ∃ u, mg "RED_AND_BLUE" = some u /\ yc (.int 16711935) u
  cP : Cls K t.CP
  pW : zR K t.CP "width"
  pS : zR K t.CP "squares"
  cK : Cls K t.CK
  kW : zR K t.CK "width"
  kS : zR K t.CK "squares"
  cE : Cls K t.CE
  gE : mg "Greens" = some (.ref t.CE)
  mE : PySem.W.makesIn K t.CE = true
  iE : PySem.W.findIn K (.ref t.CE) "__init__" = some (some (.builtin "object.__init__"))
  pE : PySem.W.keepIn K (.ref t.CE) = true
  cD : Cls K t.CD
  dW : zR K t.CD "width"
  dS : zR K t.CD "shift"
  dC : zR K t.CD "colours"
  cF : Cls K t.CF
  fW : zR K t.CF "width"
  fH : zR K t.CF "height"
  fK : zR K t.CF "kinds"
  fS : zR K t.CF "steps"
  cH : Cls K t.CH
  hW : zR K t.CH "width"
  hH : zR K t.CH "height"
  hA : zR K t.CH "alphas_count"
  cA : Cls K t.CA
  aH : zR K t.CA "head"
  aT : zR K t.CA "transforms"
  aC : zR K t.CA "colours"
def fresh (H0 H : Hp) : Hp := fun x => match H0 x with
  | none => H x
  | some _ => none
theorem yu {H0 H : Hp} {x : Addr} {o : HO} (h0 : H0 x = none) (h : H x = some o) : fresh H0 H x = some o := by unfold fresh; rw [h0]; exact h
theorem zae (H0 H : Hp) : zQ (fresh H0 H) H := fun x o e => by
  cases h0 : H0 x with
  | none => unfold fresh at e; rw [h0] at e; exact e
  | some u => unfold fresh at e; rw [h0] at e; cases e
theorem yQ {H0 H H' : Hp} {ps : List Addr} (k : zy ps H H') (hp : ∀ x ∈ ps, H0 x ≠ none) : zQ (fresh H0 H) (fresh H0 H') := fun x o e => by
  cases h0 : H0 x with
  | some u => unfold fresh at e; rw [h0] at e; cases e
  | none => exact yu h0 (k x o (zae H0 H x o e) fun z => hp x z h0)
theorem qO {H0 H H' : Hp} (s : zQ H H') : zQ (fresh H0 H) (fresh H0 H') := yQ (zy.same s []) (by simp)
theorem zbg {H H0 : Hp} {a : Addr} {o : HO} (d : ∀ x, H x = none -> H0 x = none) : ∀ x, upd H a o x = none -> H0 x = none := fun x h => by
  by_cases e : x = a
  . rw [e, zb] at h; cases h
  . rw [zh e] at h; exact d x h
theorem qz (l : List Px) : (zn l).length = l.length := by unfold zn; rw [List.length_map]
theorem zkS (l : List Px) : (zm (zn l)).length = l.length := by rw [zk, qz]
theorem zjD {l : List Px} {i : Nat} {p : Px} (h : l[i]? = some p) : (zm (zn l))[i]? = some (nat p.word) := yf (by unfold zn; rw [List.getElem?_map, h]; rfl)
theorem zaq {l : List Px} {i : Nat} {x : V} (h : (zm (zn l))[i]? = some x) : ∃ (p : Px) (hi : i < l.length), l[i] = p /\ x = nat p.word := by
  obtain ⟨n, hn, rfl⟩ := yG h
  unfold zn at hn
  rw [List.getElem?_map] at hn
  cases hp : l[i]? with
  | none => rw [hp] at hn; cases hn
  | some p =>
    rw [hp] at hn
    have en : p.word = n := Option.some.inj hn
    subst en
    obtain ⟨hi, e⟩ := List.getElem?_eq_some_iff.mp hp
    exact ⟨p, hi, e, rfl⟩
theorem zcR (l : List Px) (p : Px) : zm (zn l) ++ [nat p.word] = zm (zn (l ++ [p])) := by unfold zn; rw [List.map_append, yt]; rfl
def prF (w : Nat) (sa : Addr) : List (Str × V) := [("width", nat w), ("squares", .ref sa)]
theorem zlD (w : Nat) (sa : Addr) : (prF w sa).lookup ("width" : Str) = some (nat w) := zN
theorem zlg (w : Nat) (sa : Addr) : (prF w sa).lookup ("squares" : Str) = some (.ref sa) := (zp (by decide +kernel)).trans zN
theorem zkZ (w : Nat) (sa : Addr) {m : Str} (h1 : (m == ("width" : Str)) = false) (h2 : (m == ("squares" : Str)) = false) : (prF w sa).lookup m = none := (zp h1).trans ((zp h2).trans rfl)
def tbF (w z : Nat) (cl : Addr) : List (Str × V) := [("width", nat w), ("shift", nat z), ("colours", .ref cl)]
theorem zkh (w z : Nat) (cl : Addr) : (tbF w z cl).lookup ("width" : Str) = some (nat w) := zN
theorem zkG (w z : Nat) (cl : Addr) : (tbF w z cl).lookup ("shift" : Str) = some (nat z) := (zp (by decide +kernel)).trans zN
theorem zlK (w z : Nat) (cl : Addr) : (tbF w z cl).lookup ("colours" : Str) = some (.ref cl) := (zp (by decide +kernel)).trans ((zp (by decide +kernel)).trans zN)
theorem zjX (w z : Nat) (cl : Addr) {m : Str} (h1 : (m == ("width" : Str)) = false) (h2 : (m == ("shift" : Str)) = false) (h3 : (m == ("colours" : Str)) = false) : (tbF w z cl).lookup m = none := (zp h1).trans ((zp h2).trans ((zp h3).trans rfl))
def zkf (c : List Px) : List Nat := zn c ++ List.replicate (256 - c.length) 0
def xb (t : Ad) (H : Hp) (a : Addr) (w h : Nat) : Trans -> Prop
  | .predict k m => ∃ dx sa cl, H a = some (.ins t.CP dx (prF w sa)) /\ zdE t H sa cl k (up w (2 ^ k)) m /\ k <= 9 /\ m.length = up w (2 ^ k) * up h (2 ^ k) /\ xF m = true
  | .cross k m => ∃ dx sa cl, H a = some (.ins t.CK dx (prF w sa)) /\ zdE t H sa cl k (up w (2 ^ k)) m /\ k <= 9 /\ m.length = up w (2 ^ k) * up h (2 ^ k)
  | .green => ∃ dx, H a = some (.ins t.CE dx [])
  | .table c => ∃ dx cl, H a = some (.ins t.CD dx (tbF w (packedBits c.length) cl)) /\ H cl = some (.lst (zm (zkf c))) /\ (∀ p ∈ c, yq p) /\ 0 < c.length /\ c.length <= 256
theorem xb.same {t : Ad} {H H' : Hp} {a : Addr} {w h : Nat} {tr : Trans} (g : xb t H a w h tr) (s : zQ H H') : xb t H' a w h tr := by
  cases tr with
  | predict k m => obtain ⟨dx, sa, cl, h1, h2, r⟩ := g; exact ⟨dx, sa, cl, s _ _ h1, h2.same s, r⟩
  | cross k m => obtain ⟨dx, sa, cl, h1, h2, r⟩ := g; exact ⟨dx, sa, cl, s _ _ h1, h2.same s, r⟩
  | green => obtain ⟨dx, h1⟩ := g; exact ⟨dx, s _ _ h1⟩
  | table c => obtain ⟨dx, cl, h1, h2, r⟩ := g; exact ⟨dx, cl, s _ _ h1, s _ _ h2, r⟩
theorem xb.kept {t : Ad} {H H' : Hp} {a : Addr} {w h : Nat} {tr : Trans} {B : Bi} {bs : List Bool} (g : xb t H a w h tr) (b : zo t H B bs) (k : zy [B.p] H H') : xb t H' a w h tr := by
  cases tr with
  | predict z m => obtain ⟨dx, sa, cl, h1, h2, r⟩ := g; exact ⟨dx, sa, cl, k.ins b h1 (by decide +kernel), h2.kept b k, r⟩
  | cross z m => obtain ⟨dx, sa, cl, h1, h2, r⟩ := g; exact ⟨dx, sa, cl, k.ins b h1 (by decide +kernel), h2.kept b k, r⟩
  | green =>
    obtain ⟨dx, h1⟩ := g
    refine ⟨dx, k _ _ h1 fun z => ?_⟩
    obtain ⟨bdx, i, b1, _⟩ := b
    rw [List.mem_singleton.mp z, b1] at h1
    injection h1 with h2
    injection h2 with _ _ h3
    cases h3
  | table c => obtain ⟨dx, cl, h1, h2, r⟩ := g; exact ⟨dx, cl, k.ins b h1 (by decide +kernel), k.lst b h2, r⟩
structure yk (t : Ad) (H : Hp) (w h : Nat) (as : List Addr) (ts : List Trans) : Prop where
  len : as.length = ts.length
  get : ∀ (j : Nat) (a : Addr), as[j]? = some a -> ∃ tr, ts[j]? = some tr /\ xb t H a (kT w (ts.take j)) h tr
theorem yk.same {t : Ad} {H H' : Hp} {w h : Nat} {as : List Addr} {ts : List Trans} (g : yk t H w h as ts) (s : zQ H H') : yk t H' w h as ts :=
  ⟨g.len, fun j a e => let ⟨tr, e1, e2⟩ := g.get j a e; ⟨tr, e1, e2.same s⟩⟩
theorem yk.kept {t : Ad} {H H' : Hp} {w h : Nat} {as : List Addr} {ts : List Trans} {B : Bi} {bs : List Bool} (g : yk t H w h as ts) (b : zo t H B bs) (k : zy [B.p] H H') : yk t H' w h as ts :=
  ⟨g.len, fun j a e => let ⟨tr, e1, e2⟩ := g.get j a e; ⟨tr, e1, e2.kept b k⟩⟩
theorem yk.snoc {t : Ad} {H : Hp} {w h : Nat} {as : List Addr} {ts : List Trans} {a : Addr} {tr : Trans} (g : yk t H w h as ts) (st : xb t H a (kT w ts) h tr) : yk t H w h (as ++ [a]) (ts ++ [tr]) := by
  refine ⟨by rw [List.length_append, List.length_append, g.len]; rfl, fun j b e => ?_⟩
  by_cases hj : j < as.length
  . rw [List.getElem?_append_left hj] at e
    obtain ⟨x, e1, e2⟩ := g.get j b e
    have hj2 : j < ts.length := by rw [<- g.len]; exact hj
    refine ⟨x, by rw [List.getElem?_append_left hj2]; exact e1, ?_⟩
    rw [List.take_append_of_le_length (by omega)]
    exact e2
  . rw [List.getElem?_append_right (by omega)] at e
    have hj0 : j - as.length = 0 := by
      cases q : j - as.length with
      | zero => rfl
      | succ m => rw [q] at e; simp at e
    rw [hj0] at e
    have ea : a = b := Option.some.inj e
    subst ea
    have hjt : j = ts.length := by rw [<- g.len]; omega
    subst hjt
    refine ⟨tr, by simp, ?_⟩
    rw [List.take_left]
    exact st
theorem xV (a b : Nat) : Builtin.bitAnd (a : Int) (b : Int) = ((a &&& b : Nat) : Int) := by
  have h1 : (0 : Int) <= (a : Int) := by omega
  have h2 : (0 : Int) <= (b : Int) := by omega
  unfold Builtin.bitAnd
  rw [decide_eq_true h1, decide_eq_true h2]
  rfl
theorem zeZ {p q : Px} (hp : yq p) (hq : yq q) : Builtin.bitOr (Builtin.bitAnd (Builtin.bitAnd ((p.word : Nat) : Int) 4278255360 + Builtin.bitAnd ((q.word : Nat) : Int) 4278255360) 4278255360) (Builtin.bitAnd (Builtin.bitAnd ((p.word : Nat) : Int) 16711935 + Builtin.bitAnd ((q.word : Nat) : Int) 16711935) 16711935) = (((add p q).word : Nat) : Int) := by
  have e1 : (4278255360 : Int) = ((M1 : Nat) : Int) := rfl
  have e2 : (16711935 : Int) = ((M2 : Nat) : Int) := rfl
  rw [e1, e2, xV, xV, xV, xV, <- Int.natCast_add, <- Int.natCast_add, xV, xV, za6, zcv hp hq]
theorem wq {p : Px} (h : yq p) : Builtin.bitAnd (((p.word : Nat) : Int) / 2 ^ (8 : Int).toNat) 255 = ((p.g : Nat) : Int) := by
  have e : ((p.word : Nat) : Int) / 2 ^ (8 : Int).toNat = ((p.word / 256 : Nat) : Int) := by
    show ((p.word : Nat) : Int) / 256 = _
    omega
  obtain ⟨h1, h2, h3, h4⟩ := h
  rw [e, bitAnd_m8]
  unfold Px.word
  omega
theorem zdx (n : Nat) : packedBits n <= 3 := by unfold packedBits; split <;> (try split) <;> (try split) <;> omega
section
variable {P : Program} {w : World} {K : PySem.W.Frag} {mg : Str -> Option Value} {base : Heap} {t : Ad}
def zaw : Sp := fun vs H Q _ => ∃ p q : Px, vs = [nat p.word, nat q.word] /\ yq p /\ yq q /\ Q (nat (add p q).word) H
theorem zaR : zq ["one", "other", "high", "low"] ["one", "other"] (zj zfd) := by trivial
theorem zgt {f : Addr} {fd : FuncData} (F : Fun K "added" "added" zfd f fd) (T2 : Tx2 K mg t) : yg P w K mg base (CXe P w) 1 f fd ["one", "other"] zaw := by
  obtain ⟨u1, g1, r1⟩ := T2.kM1
  obtain ⟨u2, g2, r2⟩ := T2.kM2
  refine F.okE zaR (fun vs H Q E h => ?_) (fun cdv A outer s H vs Q E hr h => ?_)
  . obtain ⟨p, q, rfl, _⟩ := h
    rfl
  . obtain ⟨p, q, rfl, hp, hq, k⟩ := h
    refine ⟨_, zd (zw (i := 2) zaR.nd rfl (Or.inl rfl) (zt zT (zt xI (pv 0) (zM (by rfl) g1 r1)) (zt xI (pv 1) (zM (by rfl) g1 r1))))
      (zd (zw (i := 3) zaR.nd rfl (Or.inl rfl) (zt zT (zt xI (pv 0) (zM (by rfl) g2 r2)) (zt xI (pv 1) (zM (by rfl) g2 r2))))
      (zg (zB (zt zaT (zt xI (pv 2) (zM (by rfl) g1 r1)) (zt xI (pv 3) (zM (by rfl) g2 r2)))))), ?_⟩
    refine ⟨_, rfl, _, _, rfl, rfl, _, rfl, _, _, rfl, rfl, _, _, rfl, rfl, ?_⟩
    refine ⟨_, rfl, _, _, rfl, rfl, _, rfl, _, _, rfl, rfl, _, _, rfl, rfl, ?_⟩
    refine ⟨_, rfl, _, _, rfl, rfl, _, rfl, _, _, rfl, rfl, _, _, rfl, rfl, ?_⟩
    show Q (.int (Builtin.bitOr (Builtin.bitAnd (Builtin.bitAnd ((p.word : Nat) : Int) 4278255360 + Builtin.bitAnd ((q.word : Nat) : Int) 4278255360) 4278255360) (Builtin.bitAnd (Builtin.bitAnd ((p.word : Nat) : Int) 16711935 + Builtin.bitAnd ((q.word : Nat) : Int) 16711935) 16711935))) H
    rw [zeZ hp hq]
    exact k
def xQ (C : Addr) : Sp := fun vs H Q _ => ∃ (p dx sa : Addr) (w : Nat), vs = [.ref p, nat w, .ref sa] /\ H p = some (.ins C dx []) /\ ∀ H', H' p = some (.ins C dx (prF w sa)) -> zy [p] H H' -> Q .non H'
theorem zhW : zq ["self", "width", "squares"] ["self", "width", "squares"] (zj zek) := by trivial
theorem zgf {f : Addr} {fd : FuncData} (F : Fun K "__init__" "Predictions.__init__" zek f fd) (T2 : Tx2 K mg t) : yg P w K mg base (CXe P w) 1 f fd ["self", "width", "squares"] (xQ t.CP) := by
  refine F.okE zhW (fun vs H Q E h => ?_) (fun cdv A outer s H vs Q E hr h => ?_)
  . obtain ⟨p, dx, sa, w, rfl, _⟩ := h
    rfl
  . obtain ⟨p, dx, sa, w, rfl, hp, k⟩ := h
    refine ⟨_, zd (zU (pv 0) (pv 1) rfl) (zg (zU (pv 0) (pv 2) rfl)), ?_⟩
    refine ⟨_, rfl, _, rfl, p, t.CP, dx, _, rfl, hp, T2.cP, T2.pW, (by show 0 < 1000; decide), ?_⟩
    refine ⟨_, rfl, _, rfl, p, t.CP, dx, _, rfl, zb, T2.cP, T2.pS, (by show 1 < 1000; decide), ?_⟩
    refine k _ ?_ ((zy.put (by simp)).trans (zy.put (by simp)))
    rw [zb]
    rfl
theorem ziE : zq ["self", "width", "squares"] ["self", "width", "squares"] (zj zdM) := by trivial
theorem zfu {f : Addr} {fd : FuncData} (F : Fun K "__init__" "Colours.__init__" zdM f fd) (T2 : Tx2 K mg t) : yg P w K mg base (CXe P w) 1 f fd ["self", "width", "squares"] (xQ t.CK) := by
  refine F.okE ziE (fun vs H Q E h => ?_) (fun cdv A outer s H vs Q E hr h => ?_)
  . obtain ⟨p, dx, sa, w, rfl, _⟩ := h
    rfl
  . obtain ⟨p, dx, sa, w, rfl, hp, k⟩ := h
    refine ⟨_, zd (zU (pv 0) (pv 1) rfl) (zg (zU (pv 0) (pv 2) rfl)), ?_⟩
    refine ⟨_, rfl, _, rfl, p, t.CK, dx, _, rfl, hp, T2.cK, T2.kW, (by show 0 < 1000; decide), ?_⟩
    refine ⟨_, rfl, _, rfl, p, t.CK, dx, _, rfl, zb, T2.cK, T2.kS, (by show 1 < 1000; decide), ?_⟩
    refine k _ ?_ ((zy.put (by simp)).trans (zy.put (by simp)))
    rw [zb]
    rfl
def zaD (t : Ad) : Sp := fun vs H Q _ => ∃ (p dx la : Addr) (w z : Nat) (l : List Nat), vs = [.ref p, nat w, nat z, .ref la] /\ H p = some (.ins t.CD dx []) /\ H la = some (.lst (zm l)) /\ l.length <= 256 /\
  ∀ H' cl, H' p = some (.ins t.CD dx (tbF w z cl)) -> H' cl = some (.lst (zm (l ++ List.replicate (256 - l.length) 0))) -> zy [p] H H' -> H cl = none -> Q .non H'
theorem zhr : zq ["self", "width", "shift", "colours"] ["self", "width", "shift", "colours"] (zj zea) := by trivial
theorem zgs {f : Addr} {fd : FuncData} (F : Fun K "__init__" "Table.__init__" zea f fd) (T : Tx K mg t) (T2 : Tx2 K mg t) : yg P w K mg base (CXe P w) 1 f fd ["self", "width", "shift", "colours"] (zaD t) := by
  refine F.okE zhr (fun vs H Q E h => ?_) (fun cdv A outer s H vs Q E hr h => ?_)
  . obtain ⟨p, dx, la, w, z, l, rfl, _⟩ := h
    rfl
  . obtain ⟨p, dx, la, w, z, l, rfl, hp, hla, hl, k⟩ := h
    have npl : la ≠ p := yO hla hp (by intro z; cases z)
    refine ⟨_, zd (zU (pv 0) (pv 1) rfl) (zd (zU (pv 0) (pv 2) rfl)
      (zg (zU (pv 0) (zt ziW (pv 3) (zt km (yh (za zi zf)) (zt y8 zi (zL zC (by rfl) T.len PySem.boot_len (za (pv 3) zf))))) rfl))), ?_⟩
    refine ⟨_, rfl, _, rfl, p, t.CD, dx, _, rfl, hp, T2.cD, T2.dW, (by show 0 < 1000; decide), ?_⟩
    refine ⟨_, rfl, _, rfl, p, t.CD, dx, _, rfl, zb, T2.cD, T2.dS, (by show 1 < 1000; decide), ?_⟩
    generalize hH2 : upd (upd H p _) p _ = H2
    have p2 : H2 p = some (.ins t.CD dx [("width", nat w), ("shift", nat z)]) := by rw [<- hH2, zb]; rfl
    have l2 : H2 la = some (.lst (zm l)) := by rw [<- hH2, zh npl, zh npl]; exact hla
    have k2 : zy [p] H H2 := by rw [<- hH2]; exact (zy.put (by simp)).trans (zy.put (by simp))
    have en : ((256 : Int) - ((zm l).length : Int)).toNat = 256 - l.length := by rw [zk]; omega
    refine ⟨_, rfl, (by show 1 <= sizeLine; decide), fun x hx => ⟨_, rfl, la, _, rfl, .inl (SqL.of (by rw [zh (zc l2 hx)]; exact l2)), _, _, rfl, rfl, x, _, _, rfl, rfl, zb, ?_, ?_, ?_, fun y hy => ⟨la, y, zm l, _, rfl, rfl, ?_, zb, ?_, fun cl hcl => ⟨_, rfl, p, t.CD, dx, [("width", nat w), ("shift", nat z)], rfl, ?_, T2.cD, T2.dC, (by show 2 < 1000; decide), ?_⟩⟩⟩⟩
    . rw [zk]; omega
    . rw [zk]; omega
    . rw [en]
      show 1 * (256 - l.length) <= 2 ^ 24
      omega
    . rw [zh (zc (o := _) (by rw [zh (zc l2 hx)]; exact l2) hy), zh (zc l2 hx)]; exact l2
    . rw [en, vL, zk, zk, List.length_replicate]
      show l.length + (256 - l.length) <= 2 ^ 24
      omega
    . have p3 : upd H2 x (.lst [V.int 0]) p = some (.ins t.CD dx [("width", nat w), ("shift", nat z)]) := by rw [zh (zc p2 hx)]; exact p2
      have p4 : upd (upd H2 x (.lst [V.int 0])) y (.lst (List.replicate ((256 : Int) - ((zm l).length : Int)).toNat [V.int 0]).flatten) p = some (.ins t.CD dx [("width", nat w), ("shift", nat z)]) := by rw [zh (zc p3 hy)]; exact p3
      rw [zh (zc p4 hcl)]
      exact p4
    . have p3 : upd H2 x (.lst [V.int 0]) p = some (.ins t.CD dx [("width", nat w), ("shift", nat z)]) := by rw [zh (zc p2 hx)]; exact p2
      have p4 : upd (upd H2 x (.lst [V.int 0])) y (.lst (List.replicate ((256 : Int) - ((zm l).length : Int)).toNat [V.int 0]).flatten) p = some (.ins t.CD dx [("width", nat w), ("shift", nat z)]) := by rw [zh (zc p3 hy)]; exact p3
      have npc : p ≠ cl := zc p4 hcl
      have kx : zy [p] H (upd (upd H2 x (.lst [V.int 0])) y (.lst (List.replicate ((256 : Int) - ((zm l).length : Int)).toNat [V.int 0]).flatten)) := (k2.trans (zy.new hx)).trans (zy.new hy)
      refine k _ cl ?_ ?_ ((kx.trans (zy.new hcl)).trans (zy.put (by simp))) (kx.free hcl (by simp; exact npc.symm))
      . rw [zb]; rfl
      . rw [zh npc.symm, zb, en, vL, yt]
def zby (t : Ad) : Sp := fun vs H Q _ => ∃ (p dx cl : Addr) (w z : Nat), vs = [.ref p] /\ H p = some (.ins t.CD dx (tbF w z cl)) /\ z <= 100 /\ Q (nat (up w (2 ^ z))) H
theorem ziu : zq ["self"] ["self"] (zj zde) := by trivial
theorem zgz {f : Addr} {fd : FuncData} (F : Fun K "packed_width" "Table.packed_width" zde f fd) (T2 : Tx2 K mg t) (Gu : zE P w K mg base 1 "divided_up" ["number", "shift"] vA) : yg P w K mg base (CXe P w) 2 f fd ["self"] (zby t) := by
  refine F.okE ziu (fun vs H Q E h => ?_) (fun cdv A outer s H vs Q E hr h => ?_)
  . obtain ⟨p, dx, cl, w, z, rfl, _⟩ := h
    rfl
  . obtain ⟨p, dx, cl, w, z, rfl, hp, hz, k⟩ := h
    refine ⟨_, zg (zB (pd Gu Lv.of hr (za (zx (pv 0) rfl) (za (zx (pv 0) rfl) zf)))), ?_⟩
    exact ⟨_, rfl, p, t.CD, dx, _, _, rfl, hp, T2.cD, T2.dW, zkh _ _ _, _, rfl, p, t.CD, dx, _, _, rfl, hp, T2.cD, T2.dS, zkG _ _ _, w, z, rfl, hz, k⟩
def qH : Sp := fun vs H Q _ => ∃ n : Nat, vs = [nat n] /\ Q (nat (packedBits n)) H
theorem zcG : zq ["size"] ["size"] (zj jO) := by trivial
theorem zbs {f : Addr} {fd : FuncData} (F : Fun K "shift_for" "shift_for" jO f fd) : yg P w K mg base (CXe P w) 1 f fd ["size"] qH := by
  refine F.okE zcG (fun vs H Q E h => ?_) (fun cdv A outer s H vs Q E hr h => ?_)
  . obtain ⟨n, rfl, _⟩ := h
    rfl
  . obtain ⟨n, rfl, k⟩ := h
    refine ⟨_, zd (ye (zu zfi (pv 0) zi (zD _)) (zg (zB zi)) zH)
      (zd (ye (zu zfi (pv 0) zi (zD _)) (zg (zB zi)) zH)
      (zd (ye (zu zfi (pv 0) zi (zD _)) (zg (zB zi)) zH)
      (zg (zB zi)))), ?_⟩
    have fin : ∀ z : Nat, packedBits n = z -> Q (nat z) H := fun z hz => by
      rw [hz] at k
      exact k
    refine ⟨_, rfl, _, _, rfl, rfl, _, rfl, yC (fun e => ?_) (fun e => ?_)⟩
    . have e' : (n : Int) <= 2 := of_decide_eq_true e
      exact fin 3 (by unfold packedBits; rw [if_pos (by omega)])
    . have e' : ¬ (n : Int) <= 2 := fun z => e (decide_eq_true z)
      refine ⟨_, rfl, _, _, rfl, rfl, _, rfl, yC (fun f => ?_) (fun f => ?_)⟩
      . have f' : (n : Int) <= 4 := of_decide_eq_true f
        exact fin 2 (by unfold packedBits; rw [if_neg (by omega), if_pos (by omega)])
      . have f' : ¬ (n : Int) <= 4 := fun z => f (decide_eq_true z)
        refine ⟨_, rfl, _, _, rfl, rfl, _, rfl, yC (fun g => ?_) (fun g => ?_)⟩
        . have g' : (n : Int) <= 16 := of_decide_eq_true g
          exact fin 1 (by unfold packedBits; rw [if_neg (by omega), if_neg (by omega), if_pos (by omega)])
        . have g' : ¬ (n : Int) <= 16 := fun z => g (decide_eq_true z)
          exact fin 0 (by unfold packedBits; rw [if_neg (by omega), if_neg (by omega), if_neg (by omega)])
def zd9 : Sp := fun vs H Q _ => ∃ (a : Addr) (l : List Px), vs = [.ref a] /\ H a = some (.lst (zm (zn l))) /\ (∀ p ∈ l, yq p) /\ l.length <= 2 ^ 20 /\
  ∀ la H', zQ H H' -> H la = none -> H' la = some (.lst (zm (zn (sums ⟨0, 0, 0, 0⟩ l)))) -> Q (.ref la) H'
theorem zaf : zq ["colours", "sums", "before", "colour"] ["colours"] (zj ziG) := by trivial
theorem zhh {f : Addr} {fd : FuncData} (F : Fun K "running_sums" "running_sums" ziG f fd) (Ga : zE P w K mg base 1 "added" ["one", "other"] zaw) : yg P w K mg base (CXe P w) 2 f fd ["colours"] zd9 := by
  refine F.okE zaf (fun vs H Q E h => ?_) (fun cdv A outer s H vs Q E hr h => ?_)
  . obtain ⟨a, l, rfl, _⟩ := h
    rfl
  . obtain ⟨a, l, rfl, ha, hok, hlen, k⟩ := h
    refine ⟨_, zd (zw (i := 1) zaf.nd rfl (Or.inl rfl) (yh zf))
      (zd (zw (i := 2) zaf.nd rfl (Or.inl rfl) zi)
      (zd (jW Lv.of.own rfl (zbr (pv 0)) (yz (i := 3) zaf.nd rfl (Or.inl rfl))
        (zd (zw (i := 2) zaf.nd rfl (Or.inl rfl) (pd Ga Lv.of hr (za (pv 2) (za (pv 3) zf))))
        (zg (yj (qQ PySem.F.plainAttrs_list PySem.F.slot_list_append PySem.F.type_list_append yo (pv 1) (za (pv 2) zf))))))
      (zg (zB (pv 1))))), ?_⟩
    refine ⟨Nat.zero_le _, fun la hla => ?_⟩
    have sm0 : zQ H (upd H la (.lst [])) := zr (zQ.refl _) hla
    have e0 : nat (wD ⟨0, 0, 0, 0⟩ (l.take 0)).word = V.int 0 := by rw [List.take_zero]; rfl
    refine ⟨_, rfl, a, rfl, ⟨_, SqL.of (sm0 _ _ ha)⟩, zbU (K := K) (a := a) (xs := zm (zn l))
      (fun i σ Hx => ∃ v3, σ = [some (.ref a), some (.ref la), some (nat (wD ⟨0, 0, 0, 0⟩ (l.take i)).word), v3] /\ zQ H Hx /\ Hx la = some (.lst (zm (zn (sums ⟨0, 0, 0, 0⟩ (l.take i))))))
      ⟨none, by rw [e0]; rfl, sm0, by rw [zb]; rfl⟩ (fun i σ Hx _ h => by obtain ⟨v3, _, s1, _⟩ := h; exact SqL.of (s1 _ _ ha)) ?_ ?_⟩
    . rintro i x σ Hx hx ⟨v3, rfl, s1, hl1⟩
      obtain ⟨p, hi, hp, rfl⟩ := zaq hx
      have hpok : yq p := hok p (by rw [<- hp]; exact List.getElem_mem hi)
      have hsok : yq (wD ⟨0, 0, 0, 0⟩ (l.take i)) := zbO _ _ zdc
      refine ⟨_, rfl, _, rfl, _, p, rfl, hsok, hpok, ?_⟩
      refine ⟨_, rfl, .inl ⟨rfl, _, SqL.of hl1⟩, _, rfl, la, _, _, rfl, rfl, hl1, ?_, ?_⟩
      . rw [zkS, jp, List.length_take]
        exact Nat.lt_of_le_of_lt (Nat.le_trans (Nat.min_le_right _ _) hlen) (by decide)
      . have e1 : l.take (i + 1) = l.take i ++ [p] := by rw [List.take_succ_eq_append_getElem hi, hp]
        refine ⟨some (nat p.word), ?_, yH s1 hla, ?_⟩
        . rw [e1, zck] <;> rfl
        . rw [zb, e1, wp, zcR]
    . rintro σ Hx ⟨v3, rfl, s1, hl1⟩
      rw [zkS, List.take_length] at hl1
      exact ⟨_, rfl, k la Hx s1 hla hl1⟩
def zkI (t : Ad) (H0 : Hp) (w h : Nat) : Nat × List Px -> V -> Hp -> Prop := fun m v H => zla t H0 w h m v H /\ xF m.2 = true
def zbq (t : Ad) : Sp := fun vs H Q E => ∃ (B : Bi) (bs : List Bool) (w h : Nat), vs = [.ref B.p, nat w, nat h] /\ 0 < w /\ 0 < h /\ w * h <= 2 ^ 20 /\ zo t H B bs /\ Out t E B [] H (zkI t H w h) Q (zbX w h bs)
theorem zaY : zq ["bits", "width", "height", "squares", "colour"] ["bits", "width", "height"] (zj zdS) := by trivial
theorem zfJ {f : Addr} {fd : FuncData} (F : Fun K "read_modes" "read_modes" zdS f fd) (T : Tx K mg t) (T2 : Tx2 K mg t) (Gs : zE P w K mg base 9 "read_squares" ["bits", "width", "height"] (xJ t)) : yg P w K mg base (CXe P w) 10 f fd ["bits", "width", "height"] (zbq t) := by
  obtain ⟨uM, hM, rM⟩ := T2.kMODE
  refine F.okE zaY (fun vs H Q E h => ?_) (fun cdv A outer s H vs Q E hr h => ?_)
  . obtain ⟨B, bs, w, h, rfl, _⟩ := h
    rfl
  . obtain ⟨B, bs, w, h, rfl, hw, hh, hwh, hb, k⟩ := h
    refine ⟨_, zd (zw (i := 3) zaY.nd rfl (Or.inl rfl) (pd Gs Lv.of hr (za (pv 0) (za (pv 1) (za (pv 2) zf)))))
      (zd (jW Lv.of.own rfl (zbr (zx (pv 3) rfl)) (yz (i := 4) zaY.nd rfl (Or.inl rfl))
        (zg (ye (zu jk (zt xI (zt qY (pv 4) zi) zi) (zM (by rfl) hM rM) (zD _)) (zg (zY Lv.of (by rfl) T.gN T.xN)) zH)))
      (zg (zB (pv 3)))), ?_⟩
    unfold zbX at k
    refine ⟨_, rfl, _, rfl, _, rfl, B, bs, w, h, rfl, hw, hh, hwh, hb, k.bind fun sq bs1 v1 H1 hm1 hb1 kp1 hv1 k1 => ?_⟩
    obtain ⟨z, l⟩ := sq
    obtain ⟨sa, cl, rfl, hS, hz9, hll, nsa, ncl⟩ := hv1
    dsimp only at hS hz9 hll k1
    obtain ⟨sdx, hsin⟩ := hS.ins
    refine ⟨_, rfl, sa, t.CS, sdx, _, _, rfl, hsin, T.cS, T.sC, zhq _ _ _, cl, rfl, ⟨_, SqL.of hS.lst⟩, zbU (K := K) (a := cl) (xs := zm (zn l))
      (fun i σ Hx => Hx = H1 /\ ∃ v4, σ = [some (.ref B.p), some (nat w), some (nat h), some (.ref sa), v4] /\ ∀ p ∈ l.take i, p.g < 14) ⟨rfl, none, rfl, by simp⟩ (fun i σ Hx _ h => by rw [h.1]; exact SqL.of hS.lst) ?_ ?_⟩
    . rintro i x σ Hx hx ⟨rfl, v4, rfl, hall⟩
      obtain ⟨p, hil, hg, rfl⟩ := zaq hx
      have hpm : p ∈ l := by rw [<- hg]; exact List.getElem_mem hil
      have hok := hS.ok p hpm
      refine ⟨_, rfl, _, _, rfl, rfl, (by show (0 : Int) <= 8; decide), _, _, rfl, rfl, _, _, rfl, rfl, _, rfl, yC (fun e => ?_) (fun e => ?_)⟩
      . have e' : (13 : Int) < Builtin.bitAnd (((p.word : Nat) : Int) / 2 ^ (8 : Int).toNat) 255 := of_decide_eq_true e
        rw [wq hok] at e'
        have hbad : xF l = false := by
          unfold xF
          rw [List.all_eq_false]
          exact ⟨p, hpm, by simp; omega⟩
        exact k1.need.2 hbad _
      . have e' : ¬ (13 : Int) < Builtin.bitAnd (((p.word : Nat) : Int) / 2 ^ (8 : Int).toNat) 255 := fun z => e (decide_eq_true z)
        rw [wq hok] at e'
        refine ⟨rfl, _, rfl, fun q hq => ?_⟩
        rw [List.take_succ_eq_append_getElem hil, hg] at hq
        rcases List.mem_append.mp hq with hq | hq
        . exact hall q hq
        . rw [List.mem_singleton.mp hq]; omega
    . rintro σ Hx ⟨rfl, v4, rfl, hall⟩
      rw [zkS, List.take_length] at hall
      have hgood : xF l = true := by
        unfold xF
        rw [List.all_eq_true]
        exact fun p hp => decide_eq_true (hall p hp)
      refine ⟨_, rfl, ?_⟩
      exact (k1.need.1 hgood).pure hb1 ⟨⟨sa, cl, rfl, hS, hz9, hll, nsa, ncl⟩, hgood⟩
def zkJ (t : Ad) (H0 : Hp) (w : Nat) : Nat × List Px -> V -> Hp -> Prop := fun z v H' => ∃ a dx cl, v = .ref a /\ H' a = some (.ins t.CD dx (tbF w (packedBits z.2.length) cl)) /\ H' cl = some (.lst (zm (zkf z.2))) /\ (∀ p ∈ z.2, yq p) /\ 0 < z.2.length /\ z.2.length <= 256 /\ z.1 = z.2.length /\ H0 a = none /\ H0 cl = none
def zaL (t : Ad) : Sp := fun vs H Q E => ∃ (B : Bi) (bs : List Bool) (w : Nat), vs = [.ref B.p, nat w] /\ zo t H B bs /\ Out t E B [] H (zkJ t H w) Q (zb2 bs)
theorem zbw : zq ["bits", "width", "size", "differences"] ["bits", "width"] (zj zdu) := by trivial
theorem zgd {f : Addr} {fd : FuncData} (F : Fun K "read_table" "read_table" zdu f fd) (T : Tx K mg t) (Gn : zI P w K mg base 2 t.CB "number" ["self", "width"] (yw t)) (Gp : zE P w K mg base 8 "read_plain_picture" ["bits", "width", "height"] (vy t))
    (Gf : zE P w K mg base 1 "shift_for" ["size"] qH) (Gs : zE P w K mg base 2 "running_sums" ["colours"] zd9) (GD : yd P w K mg base 1 t.CD "Table" ["self", "width", "shift", "colours"] (zaD t)) : yg P w K mg base (CXe P w) 9 f fd ["bits", "width"] (zaL t) := by
  refine F.okE zbw (fun vs H Q E h => ?_) (fun cdv A outer s H vs Q E hr h => ?_)
  . obtain ⟨B, bs, w, rfl, _⟩ := h
    rfl
  . obtain ⟨B, bs, w, rfl, hb, k⟩ := h
    have hr1 : yp 1 _ := hr.mono (by decide)
    have hr2 : yp 2 _ := hr.mono (by decide)
    refine ⟨_, zd (zw (i := 2) zbw.nd rfl (Or.inl rfl) (zt zT (pm Gn Lv.of T.cB hr2 (pv 0) (za zi zf)) zi))
      (zd (zw (i := 3) zbw.nd rfl (Or.inl rfl) (pd Gp Lv.of hr (za (pv 0) (za (pv 2) (za zi zf)))))
      (zg (zB (pmk GD Lv.of hr2 (za (pv 1) (za (pd Gf Lv.of hr1 (za (pv 2) zf)) (za (pd Gs Lv.of hr2 (za (pv 3) zf)) zf))))))), ?_⟩
    unfold zb2 at k
    obtain ⟨dx, fs, e1, e2⟩ := hb.meth (m := "number")
    refine ⟨_, rfl, B.p, dx, fs, rfl, e1, e2, B, bs, 8, rfl, by decide, hb, k.bind fun q bs1 v1 H1 hm1 hb1 kp1 hv1 k1 => ?_⟩
    cases hv1
    have hq : q < 256 := ya hm1
    have eq2 : (q : Int) + 1 = ((q + 1 : Nat) : Int) := by omega
    refine ⟨_, _, rfl, rfl, ?_⟩
    dsimp -proj only
    rw [eq2]
    refine ⟨_, rfl, _, rfl, B, bs1, q + 1, 1, rfl, by omega, by omega, by omega, hb1, k1.bind fun l bs2 v2 H2 hm2 hb2 kp2 hv2 k2 => ?_⟩
    obtain ⟨la, rfl, hla, hll, hok, nla⟩ := hv2
    have hlq : l.length = q + 1 := by rw [hll]; omega
    refine ⟨_, rfl, _, rfl, q + 1, rfl, _, rfl, la, l, rfl, hla, hok, by rw [hlq]; omega, fun sa H3 s3 nsa hsa => ?_⟩
    intro p dxp hp hdxp hne
    have hss : (zn (sums ⟨0, 0, 0, 0⟩ l)).length = q + 1 := by rw [qz, jp, hlq]
    have nsp : sa ≠ p := zc hsa hp
    have nsd : sa ≠ dxp := zc hsa hdxp
    refine ⟨p, dxp, sa, w, packedBits (q + 1), zn (sums ⟨0, 0, 0, 0⟩ l), rfl, zb, by rw [zh nsp, zh nsd]; exact hsa, by rw [hss]; omega, fun H4 cl e4 c4 kp4 ncl => ⟨rfl, ?_⟩⟩
    have sm : zQ H3 H4 := zQ.made hp hdxp fun b o e ne => kp4 b o e (by simpa using ne)
    have s24 := s3.trans sm
    have ncl3 : H3 cl = none := by
      by_cases h1 : cl = p
      . rw [h1]; exact hp
      . rw [zh h1] at ncl
        by_cases h2 : cl = dxp
        . rw [h2]; exact hdxp
        . rw [zh h2] at ncl; exact ncl
    have down : ∀ x, H3 x = none -> H x = none := fun x hx => yn kp1 hb1 x (yn kp2 hb2 x (s3.free hx))
    have hz : (sums ⟨0, 0, 0, 0⟩ l).length = q + 1 := by rw [jp, hlq]
    refine k2.pure' (hb2.same s24) (zy.same s24 _) ⟨p, dxp, cl, rfl, ?_, ?_, zeV _ _, ?_, ?_, ?_, down _ hp, down _ ncl3⟩
    . show H4 p = some (.ins t.CD dxp (tbF w (packedBits (sums ⟨0, 0, 0, 0⟩ l).length) cl))
      rw [hz]; exact e4
    . show H4 cl = some (.lst (zm (zkf (sums ⟨0, 0, 0, 0⟩ l))))
      unfold zkf
      rw [hz, <- hss]; exact c4
    . show 0 < (sums ⟨0, 0, 0, 0⟩ l).length
      omega
    . show (sums ⟨0, 0, 0, 0⟩ l).length <= 256
      omega
    . exact hz.symm
end
end Lk
end
section
namespace Lk
open PySem PySem.Spec PyProof.Rows L2
open Sn15 (D bits bitsOf symbol Px Group up need packedBits Trans add sums)
abbrev zer : Stmt := z0 (top 69) 0
abbrev ziz : Stmt := z0 (top 69) 1
abbrev za3 : Stmt := top 70
theorem j6 : ∀ (n : Nat) (l : List Nat), l.Nodup -> (∀ x ∈ l, x < n) -> l.length <= n
  | 0, l, _, h => by
    cases l with
    | nil => exact Nat.le_refl _
    | cons a r => have := h a List.mem_cons_self; omega
  | n + 1, l, hn, h => by
    by_cases hm : n ∈ l
    . have h1 := j6 n (l.erase n) (hn.erase n) fun x hx => by
        obtain ⟨ne, hx⟩ := (hn.mem_erase_iff).mp hx
        have := h x hx
        omega
      rw [List.length_erase_of_mem hm] at h1
      omega
    . have := j6 n l hn fun x hx => by
        have := h x hx
        have : x ≠ n := fun z => hm (z ▸ hx)
        omega
      omega
theorem wm (kd : Nat) : ∀ l : List Nat, inV (nat kd) (zm l) = l.contains kd
  | [] => rfl
  | a :: r => by
    show (((a : Int) == (kd : Int)) || inV (nat kd) (zm r)) = _
    rw [wm kd r, List.contains_cons]
    congr 1
    by_cases h : a = kd
    . subst h; simp
    . have h2 : ¬ (a : Int) = (kd : Int) := by omega
      have h3 : ¬ kd = a := fun z => h z.symm
      rw [beq_eq_false_iff_ne.mpr h2, beq_eq_false_iff_ne.mpr h3]
theorem xp (l : List Nat) (k : Nat) : l.reverse.contains k = l.contains k := by
  rw [Bool.eq_iff_iff, List.contains_iff_mem, List.contains_iff_mem, List.mem_reverse]
theorem zdT {w : Nat} {tr : Trans} (h : 0 < w) : 0 < za1 w tr /\ za1 w tr <= w := by
  cases tr with
  | table c =>
    have hp : 0 < (2 : Nat) ^ packedBits c.length := Nat.pow_pos (by decide)
    exact ⟨wF hp h, zfR hp⟩
  | _ => exact ⟨h, Nat.le_refl _⟩
structure Fa where
  p : Addr
  k : Addr
  s : Addr
def trF (w h : Nat) (k s : Addr) : List (Str × V) := [("width", nat w), ("height", nat h), ("kinds", .ref k), ("steps", .ref s)]
theorem zcL (w h : Nat) (k s : Addr) : (trF w h k s).lookup ("width" : Str) = some (nat w) := zN
theorem zjT (w h : Nat) (k s : Addr) : (trF w h k s).lookup ("height" : Str) = some (nat h) := (zp (by decide +kernel)).trans zN
theorem zjI (w h : Nat) (k s : Addr) : (trF w h k s).lookup ("kinds" : Str) = some (.ref k) := (zp (by decide +kernel)).trans ((zp (by decide +kernel)).trans zN)
theorem zfH (w h : Nat) (k s : Addr) : (trF w h k s).lookup ("steps" : Str) = some (.ref s) := (zp (by decide +kernel)).trans ((zp (by decide +kernel)).trans ((zp (by decide +kernel)).trans zN))
theorem zje (w h : Nat) (k s : Addr) {m : Str} (h1 : (m == ("width" : Str)) = false) (h2 : (m == ("height" : Str)) = false) (h3 : (m == ("kinds" : Str)) = false) (h4 : (m == ("steps" : Str)) = false) : (trF w h k s).lookup m = none :=
  (zp h1).trans ((zp h2).trans ((zp h3).trans ((zp h4).trans rfl)))
structure FAt (t : Ad) (H : Hp) (F : Fa) (w h : Nat) (had : List Nat) (as : List Addr) : Prop where
  ins : ∃ dx, H F.p = some (.ins t.CF dx (trF w h F.k F.s))
  kin : H F.k = some (.lst (zm had))
  stp : H F.s = some (.lst (as.map V.ref))
theorem FAt.same {t : Ad} {H H' : Hp} {F : Fa} {w h : Nat} {had : List Nat} {as : List Addr} (g : FAt t H F w h had as) (s : zQ H H') : FAt t H' F w h had as := by
  obtain ⟨dx, e⟩ := g.ins
  exact ⟨⟨dx, s _ _ e⟩, s _ _ g.kin, s _ _ g.stp⟩
theorem FAt.kept {t : Ad} {H H' : Hp} {F : Fa} {w h : Nat} {had : List Nat} {as : List Addr} {B : Bi} {bs : List Bool} (g : FAt t H F w h had as) (b : zo t H B bs) (k : zy [B.p] H H') : FAt t H' F w h had as := by
  obtain ⟨dx, e⟩ := g.ins
  exact ⟨⟨dx, k.ins b e (by decide +kernel)⟩, k.lst b g.kin, k.lst b g.stp⟩
structure ziF (H0 : Hp) (B : Bi) (F : Fa) : Prop where
  bp : H0 B.p ≠ none
  fp : H0 F.p ≠ none
  fk : H0 F.k ≠ none
  fs : H0 F.s ≠ none
  ks : F.k ≠ F.s
  ko : F.k ≠ B.o
  so : F.s ≠ B.o
theorem FAt.neK {t : Ad} {H : Hp} {F : Fa} {w h : Nat} {had : List Nat} {as : List Addr} (g : FAt t H F w h had as) : F.p ≠ F.k := by
  obtain ⟨dx, e⟩ := g.ins
  exact yO e g.kin (by intro z; cases z)
theorem FAt.neS {t : Ad} {H : Hp} {F : Fa} {w h : Nat} {had : List Nat} {as : List Addr} (g : FAt t H F w h had as) : F.p ≠ F.s := by
  obtain ⟨dx, e⟩ := g.ins
  exact yO e g.stp (by intro z; cases z)
theorem zcd {t : Ad} {H : Hp} {B : Bi} {bs : List Bool} {la : Addr} {l l' : List V} (hb : zo t H B bs) (h : H la = some (.lst l)) (hne : la ≠ B.o) : zo t (upd H la (.lst l')) B bs := by
  obtain ⟨dx, i, e1, e2, r⟩ := hb
  exact ⟨dx, i, by rw [zh (yO e1 h (by intro z; cases z))]; exact e1, by rw [zh hne.symm]; exact e2, r⟩
theorem zkd {t : Ad} {H0 H : Hp} {B : Bi} {bs : List Bool} {F : Fa} {w w0 h : Nat} {had : List Nat} {as : List Addr} {ts : List Trans} {a : Addr} {tr : Trans} (hb : zo t H B bs) (FA : FAt t H F w h had as) (Bd : ziF H0 B F) (dm : ∀ x, H x = none -> H0 x = none)
    (sts : yk t (fresh H0 H) w0 h as ts) (st : xb t (fresh H0 H) a (kT w0 ts) h tr) : zo t (upd H F.s (.lst (as.map V.ref ++ [.ref a]))) B bs /\ FAt t (upd H F.s (.lst (as.map V.ref ++ [.ref a]))) F w h had (as ++ [a]) /\
      yk t (fresh H0 (upd H F.s (.lst (as.map V.ref ++ [.ref a])))) w0 h (as ++ [a]) (ts ++ [tr]) /\ (∀ x, upd H F.s (.lst (as.map V.ref ++ [.ref a])) x = none -> H0 x = none) /\ zy (B.p :: [F.p, F.k, F.s]) H (upd H F.s (.lst (as.map V.ref ++ [.ref a]))) := by
  have sm : zQ (fresh H0 H) (fresh H0 (upd H F.s (.lst (as.map V.ref ++ [.ref a])))) := yQ (ps := [F.s]) (zy.put (by simp)) fun x hx => by rw [List.mem_singleton.mp hx]; exact Bd.fs
  obtain ⟨dx, e⟩ := FA.ins
  refine ⟨zcd hb FA.stp Bd.so, ⟨⟨dx, by rw [zh FA.neS]; exact e⟩, by rw [zh Bd.ks]; exact FA.kin, by rw [zb, List.map_append]; rfl⟩, (sts.same sm).snoc (st.same sm), zbg dm, zy.put (by simp)⟩
section
variable {P : Program} {w : World} {K : PySem.W.Frag} {mg : Str -> Option Value} {base : Heap} {t : Ad}
def zaS (t : Ad) : Sp := fun vs H Q _ => ∃ (p dx : Addr) (w h : Nat), vs = [.ref p, nat w, nat h] /\ H p = some (.ins t.CF dx []) /\
  ∀ H' F, F.p = p -> FAt t H' F w h [] [] -> F.k ≠ F.s -> H F.k = none -> H F.s = none -> zy [p] H H' -> Q .non H'
theorem zhQ : zq ["self", "width", "height"] ["self", "width", "height"] (zj zer) := by trivial
theorem zfU {f : Addr} {fd : FuncData} (F : Fun K "__init__" "Transforms.__init__" zer f fd) (T2 : Tx2 K mg t) : yg P w K mg base (CXe P w) 1 f fd ["self", "width", "height"] (zaS t) := by
  refine F.okE zhQ (fun vs H Q E h => ?_) (fun cdv A outer s H vs Q E hr h => ?_)
  . obtain ⟨p, dx, w, h, rfl, _⟩ := h
    rfl
  . obtain ⟨p, dx, w, h, rfl, hp, k⟩ := h
    refine ⟨_, zd (zU (pv 0) (pv 1) rfl) (zd (zU (pv 0) (pv 2) rfl) (zd (zU (pv 0) (yh zf) rfl) (zg (zU (pv 0) (yh zf) rfl)))), ?_⟩
    refine ⟨_, rfl, _, rfl, p, t.CF, dx, _, rfl, hp, T2.cF, T2.fW, (by show 0 < 1000; decide), ?_⟩
    refine ⟨_, rfl, _, rfl, p, t.CF, dx, _, rfl, zb, T2.cF, T2.fH, (by show 1 < 1000; decide), ?_⟩
    generalize hH2 : upd (upd H p _) p _ = H2
    have p2 : H2 p = some (.ins t.CF dx [("width", nat w), ("height", nat h)]) := by rw [<- hH2, zb]; rfl
    have k2 : zy [p] H H2 := by rw [<- hH2]; exact (zy.put (by simp)).trans (zy.put (by simp))
    refine ⟨Nat.zero_le _, fun l hl => ⟨_, rfl, p, t.CF, dx, _, rfl, (by rw [zh (zc p2 hl)]; exact p2), T2.cF, T2.fK, (by show 2 < 1000; decide), ?_⟩⟩
    have npl : p ≠ l := zc p2 hl
    have nHl : H l = none := k2.free hl (by simp; exact npl.symm)
    generalize hH3 : upd (upd H2 l _) p _ = H3
    have p3 : H3 p = some (.ins t.CF dx [("width", nat w), ("height", nat h), ("kinds", .ref l)]) := by rw [<- hH3, zb]; rfl
    have l3 : H3 l = some (.lst []) := by rw [<- hH3, zh npl.symm]; exact zb
    have k3 : zy [p] H H3 := by rw [<- hH3]; exact (k2.trans (zy.new hl)).trans (zy.put (by simp))
    refine ⟨Nat.zero_le _, fun c hc => ⟨_, rfl, p, t.CF, dx, _, rfl, (by rw [zh (zc p3 hc)]; exact p3), T2.cF, T2.fS, (by show 3 < 1000; decide), ?_⟩⟩
    have npc : p ≠ c := zc p3 hc
    have nlc : l ≠ c := zc l3 hc
    have nHc : H c = none := k3.free hc (by simp; exact npc.symm)
    refine k _ ⟨p, l, c⟩ rfl ⟨⟨dx, by rw [zb]; rfl⟩, by rw [zh npl.symm, zh nlc]; exact l3, by rw [zh npc.symm]; exact zb⟩ nlc nHl nHc ((k3.trans (zy.new hc)).trans (zy.put (by simp)))
def zjw (t : Ad) (F : Fa) (H0 : Hp) (w0 w h : Nat) (had : List Nat) (as : List Addr) (ts : List Trans) (kd : Nat) : Trans × Nat -> V -> Hp -> Prop := fun z v H' => v = .non /\ ∃ a, FAt t H' F z.2 h (had ++ [kd]) (as ++ [a]) /\ yk t (fresh H0 H') w0 h (as ++ [a]) (ts ++ [z.1]) /\ qR z.1 /\ z.2 = za1 w z.1 /\ ∀ x, H' x = none -> H0 x = none
def zel (t : Ad) : Sp := fun vs H Q E => ∃ (B : Bi) (bs : List Bool) (kd : Nat) (F : Fa) (w0 w h : Nat) (had : List Nat) (as : List Addr) (ts : List Trans) (H0 : Hp), vs = [.ref F.p, .ref B.p, nat kd] /\ kd < 4 /\ 0 < w /\ 0 < h /\ w * h <= 2 ^ 20 /\ had.length <= 4 /\ as.length <= 4 /\ w = kT w0 ts /\
  zo t H B bs /\ FAt t H F w h had as /\ ziF H0 B F /\ (∀ x, H x = none -> H0 x = none) /\ yk t (fresh H0 H) w0 h as ts /\ Out t E B [F.p, F.k, F.s] H (zjw t F H0 w0 w h had as ts kd) Q ((need (!had.contains kd) >>= fun _ => zcz kd w h) bs)
theorem zgP : zq ["self", "bits", "kind", "table"] ["self", "bits", "kind"] (zj ziz) := by trivial
theorem zhf (w w' h : Nat) (k s : Addr) : jo "width" (nat w') (trF w h k s) = trF w' h k s := by
  unfold trF
  rw [zes]
theorem zh5 {f : Addr} {fd : FuncData} (F : Fun K "take" "Transforms.take" ziz f fd) (T : Tx K mg t) (T2 : Tx2 K mg t) (Gm : zE P w K mg base 10 "read_modes" ["bits", "width", "height"] (zbq t)) (Gs : zE P w K mg base 9 "read_squares" ["bits", "width", "height"] (xJ t))
    (Gt : zE P w K mg base 9 "read_table" ["bits", "width"] (zaL t)) (Gw : zI P w K mg base 2 t.CD "packed_width" ["self"] (zby t)) (GP : yd P w K mg base 1 t.CP "Predictions" ["self", "width", "squares"] (xQ t.CP)) (GK : yd P w K mg base 1 t.CK "Colours" ["self", "width", "squares"] (xQ t.CK)) :
    yg P w K mg base (CXe P w) 11 f fd ["self", "bits", "kind"] (zel t) := by
  obtain ⟨u0, g0, r0⟩ := T2.kPRED
  obtain ⟨u1, g1, r1⟩ := T2.kCOL
  obtain ⟨u2, g2, r2⟩ := T2.kGRE
  obtain ⟨u3, g3, r3⟩ := T2.kTAB
  refine F.okE zgP (fun vs H Q E h => ?_) (fun cdv A outer s H vs Q E hr h => ?_)
  . obtain ⟨B, bs, kd, Fa, w0, w, h, had, as, ts, H0, rfl, _⟩ := h
    rfl
  . obtain ⟨B, bs, kd, Fa, w0, w, h, had, as, ts, H0, rfl, hk4, hw, hh, hwh, hhl, hal, hwe, hb, FA, Bd, dm, sts, k⟩ := h
    have hr2 : yp 2 _ := hr.mono (by decide)
    have hr9 : yp 9 _ := hr.mono (by decide)
    refine ⟨_, zd (ye (zu zeO (pv 2) (zx (pv 0) rfl) (by with_unfolding_all rfl)) (zg (zY Lv.of (by rfl) T.gN T.xN)) zH)
      (zd (yj (qQ PySem.F.plainAttrs_list PySem.F.slot_list_append PySem.F.type_list_append yo (zx (pv 0) rfl) (za (pv 2) zf)))
      (zg (ye (zu xt (pv 2) (zM (by rfl) g0 r0) (zD _))
        (zg (yj (qQ PySem.F.plainAttrs_list PySem.F.slot_list_append PySem.F.type_list_append yo (zx (pv 0) rfl) (za (pmk GP Lv.of hr2 (za (zx (pv 0) rfl) (za (pd Gm Lv.of hr (za (pv 1) (za (zx (pv 0) rfl) (za (zx (pv 0) rfl) zf)))) zf))) zf))))
        (zg (ye (zu xt (pv 2) (zM (by rfl) g1 r1) (zD _))
          (zg (yj (qQ PySem.F.plainAttrs_list PySem.F.slot_list_append PySem.F.type_list_append yo (zx (pv 0) rfl) (za (pmk GK Lv.of hr2 (za (zx (pv 0) rfl) (za (pd Gs Lv.of hr9 (za (pv 1) (za (zx (pv 0) rfl) (za (zx (pv 0) rfl) zf)))) zf))) zf))))
          (zg (ye (zu xt (pv 2) (zM (by rfl) g2 r2) (zD _))
            (zg (yj (qQ PySem.F.plainAttrs_list PySem.F.slot_list_append PySem.F.type_list_append yo (zx (pv 0) rfl) (za (zhe T2.mE T2.iE T2.pE (by rfl) T2.gE) zf))))
            (zg (ye (zu xt (pv 2) (zM (by rfl) g3 r3) (zD _))
              (zd (zw (i := 3) zgP.nd rfl (Or.inl rfl) (pd Gt Lv.of hr9 (za (pv 1) (za (zx (pv 0) rfl) zf))))
              (zd (yj (qQ PySem.F.plainAttrs_list PySem.F.slot_list_append PySem.F.type_list_append yo (zx (pv 0) rfl) (za (pv 3) zf)))
              (zg (zU (pv 0) (pm0 Gw Lv.of T2.cD hr2 (pv 3)) rfl))))
              zH))))))))), ?_⟩
    obtain ⟨dx, hin⟩ := FA.ins
    refine ⟨_, rfl, _, rfl, Fa.p, t.CF, dx, _, _, rfl, hin, T2.cF, T2.fK, zjI _ _ _ _, Fa.k, _, rfl, .inl (SqL.of FA.kin), rfl, kR _, _, rfl, yC (fun g => ?_) (fun g => ?_)⟩
    . have g' : had.contains kd = true := by
        have g2 : inV (nat kd) (zm had) = true := g
        rw [wm] at g2
        exact g2
      exact k.need.2 (by rw [g']; rfl) _
    . have g' : had.contains kd = false := by
        have g2 : ¬ inV (nat kd) (zm had) = true := g
        rw [wm] at g2
        exact Bool.eq_false_iff.mpr g2
      have k0 := k.need.1 (by rw [g']; rfl)
      refine ⟨_, rfl, Fa.p, t.CF, dx, _, _, rfl, hin, T2.cF, T2.fK, zjI _ _ _ _, .inl ⟨rfl, _, SqL.of FA.kin⟩, _, rfl, Fa.k, _, _, rfl, rfl, FA.kin, ?_, ?_⟩
      . rw [zk]
        exact Nat.lt_of_le_of_lt hhl (by decide)
      . have eA : zm had ++ [nat kd] = zm (had ++ [kd]) := by rw [yt]; rfl
        rw [eA]
        generalize hHa : upd H Fa.k (.lst (zm (had ++ [kd]))) = Ha
        have hbA : zo t Ha B bs := by rw [<- hHa]; exact zcd hb FA.kin Bd.ko
        have FA1 : FAt t Ha Fa w h (had ++ [kd]) as := by
          rw [<- hHa]
          exact ⟨⟨dx, by rw [zh FA.neK]; exact hin⟩, zb, by rw [zh Bd.ks.symm]; exact FA.stp⟩
        have kpA : zy (B.p :: [Fa.p, Fa.k, Fa.s]) H Ha := by rw [<- hHa]; exact zy.put (by simp)
        have stA : yk t (fresh H0 Ha) w0 h as ts := by
          rw [<- hHa]
          exact sts.same (yQ (ps := [Fa.k]) (zy.put (by simp)) fun x hx => by rw [List.mem_singleton.mp hx]; exact Bd.fk)
        have dmA : ∀ x, Ha x = none -> H0 x = none := by rw [<- hHa]; exact zbg dm
        have kA := k0.shift kpA
        clear k0 k kpA sts dm FA hb hin dx
        obtain ⟨dx, hin⟩ := FA1.ins
        have hlen4 : (as.map V.ref).length < sizeLine := by rw [List.length_map]; exact Nat.lt_of_le_of_lt hal (by decide)
        have bOnly : ∀ {Hx Hy : Hp}, zy [B.p] Hx Hy -> zQ (fresh H0 Hx) (fresh H0 Hy) := fun kp => yQ kp fun x hx => by rw [List.mem_singleton.mp hx]; exact Bd.bp
        unfold zcz at kA
        refine ⟨_, rfl, rfl, _, rfl, yC (fun e => ?_) (fun e => ?_)⟩
        . have e' : kd = 0 := by have := V.int.inj (of_decide_eq_true e); omega
          rw [if_pos e'] at kA
          refine ⟨_, rfl, Fa.p, t.CF, dx, _, _, rfl, hin, T2.cF, T2.fS, zfH _ _ _ _, .inl ⟨rfl, _, SqL.of FA1.stp⟩, _, rfl, Fa.p, t.CF, dx, _, _, rfl, hin, T2.cF, T2.fW, zcL _ _ _ _, _, rfl, _, rfl, Fa.p, t.CF, dx, _, _, rfl, hin, T2.cF, T2.fW, zcL _ _ _ _, _, rfl, Fa.p, t.CF, dx, _, _, rfl, hin, T2.cF, T2.fH, zjT _ _ _ _,
            B, bs, w, h, rfl, hw, hh, hwh, hbA, kA.bind fun m bs2 v2 H2 hm2 hb2 kp2 hv2 k2 => ?_⟩
          obtain ⟨⟨sa, cl, rfl, hS, hz9, hll, nsa, ncl⟩, hmo⟩ := hv2
          intro p dxp hp hdxp hne
          refine ⟨p, dxp, sa, w, rfl, zb, fun H3 e3 kp3 => ⟨rfl, ?_⟩⟩
          have sm : zQ H2 H3 := zQ.made hp hdxp fun b o e ne => kp3 b o e (by simpa using ne)
          have FA3 := (FA1.kept hbA kp2).same sm
          have dA2 : ∀ x, H2 x = none -> H0 x = none := fun x hx => dmA x (yn kp2 hb2 x hx)
          have st3 : xb t (fresh H0 H3) p (kT w0 ts) h (.predict m.1 m.2) := by
            rw [<- hwe]
            obtain ⟨sdx, hsin⟩ := hS.ins
            exact ⟨dxp, sa, cl, yu (dA2 _ hp) e3, ⟨⟨sdx, yu (dmA _ nsa) (sm _ _ hsin)⟩, yu (dmA _ ncl) (sm _ _ hS.lst), hS.ok⟩, hz9, hll, hmo⟩
          obtain ⟨q1, q2, q3, q4, q5⟩ := zkd (hb2.same sm) FA3 Bd (fun x hx => dA2 x (sm.free hx)) ((stA.same (bOnly kp2)).same (qO sm)) st3
          exact ⟨Fa.s, _, _, rfl, rfl, FA3.stp, hlen4, k2.pure' q1 ((zy.same sm _).trans q5) ⟨rfl, p, q2, q3, trivial, rfl, q4⟩⟩
        . have e' : ¬ kd = 0 := fun z => e (decide_eq_true (by rw [z]; rfl))
          rw [if_neg e'] at kA
          refine ⟨_, rfl, rfl, _, rfl, yC (fun f => ?_) (fun f => ?_)⟩
          . have f' : kd = 1 := by have := V.int.inj (of_decide_eq_true f); omega
            rw [if_pos f'] at kA
            refine ⟨_, rfl, Fa.p, t.CF, dx, _, _, rfl, hin, T2.cF, T2.fS, zfH _ _ _ _, .inl ⟨rfl, _, SqL.of FA1.stp⟩, _, rfl, Fa.p, t.CF, dx, _, _, rfl, hin, T2.cF, T2.fW, zcL _ _ _ _, _, rfl, _, rfl, Fa.p, t.CF, dx, _, _, rfl, hin, T2.cF, T2.fW, zcL _ _ _ _, _, rfl, Fa.p, t.CF, dx, _, _, rfl, hin, T2.cF, T2.fH, zjT _ _ _ _,
              B, bs, w, h, rfl, hw, hh, hwh, hbA, kA.bind fun m bs2 v2 H2 hm2 hb2 kp2 hv2 k2 => ?_⟩
            obtain ⟨sa, cl, rfl, hS, hz9, hll, nsa, ncl⟩ := hv2
            intro p dxp hp hdxp hne
            refine ⟨p, dxp, sa, w, rfl, zb, fun H3 e3 kp3 => ⟨rfl, ?_⟩⟩
            have sm : zQ H2 H3 := zQ.made hp hdxp fun b o e ne => kp3 b o e (by simpa using ne)
            have FA3 := (FA1.kept hbA kp2).same sm
            have dA2 : ∀ x, H2 x = none -> H0 x = none := fun x hx => dmA x (yn kp2 hb2 x hx)
            have st3 : xb t (fresh H0 H3) p (kT w0 ts) h (.cross m.1 m.2) := by
              rw [<- hwe]
              obtain ⟨sdx, hsin⟩ := hS.ins
              exact ⟨dxp, sa, cl, yu (dA2 _ hp) e3, ⟨⟨sdx, yu (dmA _ nsa) (sm _ _ hsin)⟩, yu (dmA _ ncl) (sm _ _ hS.lst), hS.ok⟩, hz9, hll⟩
            obtain ⟨q1, q2, q3, q4, q5⟩ := zkd (hb2.same sm) FA3 Bd (fun x hx => dA2 x (sm.free hx)) ((stA.same (bOnly kp2)).same (qO sm)) st3
            exact ⟨Fa.s, _, _, rfl, rfl, FA3.stp, hlen4, k2.pure' q1 ((zy.same sm _).trans q5) ⟨rfl, p, q2, q3, trivial, rfl, q4⟩⟩
          . have f' : ¬ kd = 1 := fun z => f (decide_eq_true (by rw [z]; rfl))
            rw [if_neg f'] at kA
            refine ⟨_, rfl, rfl, _, rfl, yC (fun g => ?_) (fun g => ?_)⟩
            . have g' : kd = 2 := by have := V.int.inj (of_decide_eq_true g); omega
              rw [if_pos g'] at kA
              refine ⟨_, rfl, Fa.p, t.CF, dx, _, _, rfl, hin, T2.cF, T2.fS, zfH _ _ _ _, .inl ⟨rfl, _, SqL.of FA1.stp⟩, ?_⟩
              intro p dxp hp hdxp hne
              have sm : zQ Ha (upd (upd Ha dxp (.own p)) p (.ins t.CE dxp [])) := zQ.made hp hdxp fun b o e ne => e
              have FA3 := FA1.same sm
              have st3 : xb t (fresh H0 (upd (upd Ha dxp (.own p)) p (.ins t.CE dxp []))) p (kT w0 ts) h .green := ⟨dxp, yu (dmA _ hp) zb⟩
              obtain ⟨q1, q2, q3, q4, q5⟩ := zkd (hbA.same sm) FA3 Bd (fun x hx => dmA x (sm.free hx)) (stA.same (qO sm)) st3
              exact ⟨Fa.s, _, _, rfl, rfl, FA3.stp, hlen4, kA.pure' q1 ((zy.same sm _).trans q5) ⟨rfl, p, q2, q3, trivial, rfl, q4⟩⟩
            . have g' : ¬ kd = 2 := fun z => g (decide_eq_true (by rw [z]; rfl))
              rw [if_neg g'] at kA
              refine ⟨_, rfl, rfl, _, rfl, yC (fun j => ?_) (fun j => ?_)⟩
              . refine ⟨_, rfl, _, rfl, Fa.p, t.CF, dx, _, _, rfl, hin, T2.cF, T2.fW, zcL _ _ _ _, B, bs, w, rfl, hbA, kA.bind fun z bs2 v2 H2 hm2 hb2 kp2 hv2 k2 => ?_⟩
                obtain ⟨a, adx, cl, rfl, ha, hcl, hzok, hz0, hz256, hz1, na, ncl⟩ := hv2
                have FA3 := FA1.kept hbA kp2
                obtain ⟨dx3, hin3⟩ := FA3.ins
                have dA2 : ∀ x, H2 x = none -> H0 x = none := fun x hx => dmA x (yn kp2 hb2 x hx)
                have st3 : xb t (fresh H0 H2) a (kT w0 ts) h (.table z.2) := by
                  rw [<- hwe]
                  exact ⟨adx, cl, yu (dmA _ na) ha, yu (dmA _ ncl) hcl, hzok, hz0, hz256⟩
                obtain ⟨q1, q2, q3, q4, q5⟩ := zkd hb2 FA3 Bd dA2 (stA.same (bOnly kp2)) st3
                refine ⟨_, rfl, Fa.p, t.CF, dx3, _, _, rfl, hin3, T2.cF, T2.fS, zfH _ _ _ _, .inl ⟨rfl, _, SqL.of FA3.stp⟩, _, rfl, Fa.s, _, _, rfl, rfl, FA3.stp, hlen4, ?_⟩
                have nas : a ≠ Fa.s := yO ha FA3.stp (by intro z; cases z)
                have ha4 : upd H2 Fa.s (.lst (as.map V.ref ++ [.ref a])) a = some (.ins t.CD adx (tbF w (packedBits z.2.length) cl)) := by rw [zh nas]; exact ha
                generalize upd H2 Fa.s (.lst (as.map V.ref ++ [.ref a])) = H4 at q1 q2 q3 q4 q5 ha4
                obtain ⟨dx4, hin4⟩ := q2.ins
                refine ⟨_, rfl, a, adx, _, rfl, ha4, zjX _ _ _ (by decide +kernel) (by decide +kernel) (by decide +kernel), a, adx, cl, w, packedBits z.2.length, rfl, ha4, Nat.le_trans (zdx _) (by decide), _, rfl, Fa.p, t.CF, dx4, _, rfl, hin4, T2.cF, T2.fW, (by show 4 < 1000; decide), ?_⟩
                rw [zhf]
                have sm5 : zQ (fresh H0 H4) (fresh H0 (upd H4 Fa.p (.ins t.CF dx4 (trF (up w (2 ^ packedBits z.2.length)) h Fa.k Fa.s)))) := yQ (ps := [Fa.p]) (zy.put (by simp)) fun x hx => by rw [List.mem_singleton.mp hx]; exact Bd.fp
                have hb5 : zo t (upd H4 Fa.p (.ins t.CF dx4 (trF (up w (2 ^ packedBits z.2.length)) h Fa.k Fa.s))) B bs2 := by
                  obtain ⟨bdx, i, b1, b2, r⟩ := q1
                  refine ⟨bdx, i, ?_, ?_, r⟩
                  . rw [zh (yO b1 hin4 (by intro z; unfold jG trF at z; injection z with _ _ z3; injection z3 with z4; injection z4 with z5; exact absurd z5 (by decide +kernel)))]; exact b1
                  . rw [zh (yO b2 hin4 (by intro z; cases z))]; exact b2
                refine k2.pure' hb5 (q5.trans (zy.put (by simp))) ⟨rfl, a, ⟨⟨dx4, ?_⟩, ?_, ?_⟩, q3.same sm5, hzok, ?_, zbg q4⟩
                . show upd H4 Fa.p _ Fa.p = some (.ins t.CF dx4 (trF (up w (2 ^ packedBits z.1)) h Fa.k Fa.s))
                  rw [zb, hz1]
                . rw [zh q2.neK.symm]; exact q2.kin
                . rw [zh q2.neS.symm]; exact q2.stp
                . show up w (2 ^ packedBits z.1) = up w (2 ^ packedBits z.2.length)
                  rw [hz1]
              . have j' : ¬ kd = 3 := fun z => j (decide_eq_true (by rw [z]; rfl))
                omega
def zh6 (t : Ad) (w h : Nat) : List Trans × Nat -> V -> Hp -> Prop := fun r v H' => ∃ F had as, v = .ref F.p /\ FAt t H' F r.2 h had as /\ yk t H' w h as r.1 /\ (∀ z ∈ r.1, qR z) /\ r.2 = kT w r.1 /\ 0 < r.2 /\ r.2 <= w
def vQ (t : Ad) : Sp := fun vs H Q E => ∃ (B : Bi) (bs : List Bool) (w h : Nat), vs = [.ref B.p, nat w, nat h] /\ 0 < w /\ 0 < h /\ w * h <= 2 ^ 20 /\ zo t H B bs /\ Out t E B [] H (zh6 t w h) Q (xA h 5 [] w bs)
theorem zbM : zq ["bits", "width", "height", "transforms"] ["bits", "width", "height"] (zj za3) := by trivial
def zgQ (t : Ad) (E : XK) (B : Bi) (H H0 : Hp) (Q : VK) (w h : Nat) (F : Fa) (n : Nat) (σ : L2.St) (Hx : Hp) : Prop := ∃ (had : List Nat) (as : List Addr) (ts : List Trans) (bs : List Bool) (w' : Nat),
  σ = [some (.ref B.p), some (nat w), some (nat h), some (.ref F.p)] /\ had.length + n = 5 /\ had.Nodup /\ (∀ x ∈ had, x < 4) /\ as.length = had.length /\ FAt t Hx F w' h had.reverse as /\ yk t (fresh H0 Hx) w h as ts /\ (∀ z ∈ ts, qR z) /\ w' = kT w ts /\ (∀ x, Hx x = none -> H0 x = none) /\
  zo t Hx B bs /\ zy [B.p] H Hx /\ 0 < w' /\ w' <= w /\ Out t E B [] H (zh6 t w h) Q (jJ h n had w' ts bs)
theorem ze1 {f : Addr} {fd : FuncData} (F : Fun K "read_transforms" "read_transforms" za3 f fd) (T : Tx K mg t) (T2 : Tx2 K mg t) (Gb : zI P w K mg base 1 t.CB "bit" ["self"] (j0 t)) (Gn : zI P w K mg base 2 t.CB "number" ["self", "width"] (yw t))
    (Gt : zI P w K mg base 11 t.CF "take" ["self", "bits", "kind"] (zel t)) (GF : yd P w K mg base 1 t.CF "Transforms" ["self", "width", "height"] (zaS t)) : yg P w K mg base (CXe P w) 12 f fd ["bits", "width", "height"] (vQ t) := by
  refine F.okE zbM (fun vs H Q E h => ?_) (fun cdv A outer s H vs Q E hr h => ?_)
  . obtain ⟨B, bs, w, h, rfl, _⟩ := h
    rfl
  . obtain ⟨B, bs, w, h, rfl, hw, hh, hwh, hb, k⟩ := h
    have hr1 : yp 1 _ := hr.mono (by decide)
    have hr2 : yp 2 _ := hr.mono (by decide)
    refine ⟨_, zd (zw (i := 3) zbM.nd rfl (Or.inl rfl) (pmk GF Lv.of hr2 (za (pv 1) (za (pv 2) zf))))
      (zd (qB Lv.of.own (zu xt (pm0 Gb Lv.of T.cB hr1 (pv 0)) zi (zD _))
        (zg (yj (pm Gt Lv.of T2.cF hr (pv 3) (za (pv 0) (za (pm Gn Lv.of T.cB hr2 (pv 0) (za zi zf)) zf))))))
      (zg (zB (pv 3)))), ?_⟩
    refine ⟨_, rfl, _, rfl, ?_⟩
    intro p dxp hp hdxp hne
    refine ⟨p, dxp, w, h, rfl, zb, fun H0 Fa eF FA ks nk ns kp0 => ⟨rfl, ?_⟩⟩
    have sm0 : zQ H H0 := zQ.made hp hdxp fun b o e ne => kp0 b o e (by simpa using ne)
    have hb0 := hb.same sm0
    have down : ∀ x, (upd (upd H dxp (.own p)) p (.ins t.CF dxp [])) x = none -> H x = none := fun x hx => by
      by_cases h1 : x = p
      . rw [h1]; exact hp
      . rw [zh h1] at hx
        by_cases h2 : x = dxp
        . rw [h2]; exact hdxp
        . rw [zh h2] at hx; exact hx
    have nHk := down _ nk
    have nHs := down _ ns
    obtain ⟨fdx, fin⟩ := FA.ins
    have nHp : H Fa.p = none := by rw [eF]; exact hp
    have Bd : ziF H0 B Fa := by
      obtain ⟨bdx, i, b1, b2, _⟩ := hb
      refine ⟨by rw [sm0 _ _ b1]; simp, by rw [fin]; simp, by rw [FA.kin]; simp, by rw [FA.stp]; simp, ks, (zc b2 nHk).symm, (zc b2 nHs).symm⟩
    rw [<- zcP] at k
    refine ⟨zgQ t E B H H0 Q w h Fa, ⟨5, [], [], [], bs, w, by rw [eF]; rfl, rfl, List.nodup_nil, by simp, rfl, FA, ⟨rfl, fun j a e => by simp at e⟩, by simp, rfl, fun x hx => hx, hb0, zy.same sm0 _, hw, Nat.le_refl _, k⟩, ?_⟩
    rintro n σ Hy ⟨had, as, ts, bs1, w1, rfl, hlen, hnd, h4, hal, FA1, st1, tok1, hwe, dm1, hb1, kp1, hw1, hww, k1⟩
    have hle := j6 4 had hnd h4
    obtain ⟨m, rfl⟩ : ∃ m, n = m + 1 := ⟨n - 1, by omega⟩
    rw [zbo] at k1
    obtain ⟨dx, fs, e1, e2⟩ := hb1.meth (m := "bit")
    refine ⟨_, rfl, B.p, dx, fs, rfl, e1, e2, B, bs1, rfl, hb1, (k1.shift kp1).bind fun u bs2 v2 H2 hm2 hb2 kp2 hv2 k2 => ?_⟩
    cases hv2
    have bOnly : ∀ {Hx Hy : Hp}, zy [B.p] Hx Hy -> zQ (fresh H0 Hx) (fresh H0 Hy) := fun kp => yQ kp fun x hx => by rw [List.mem_singleton.mp hx]; exact Bd.bp
    have FA2 := FA1.kept hb1 kp2
    refine ⟨rfl, _, rfl, yC (fun e => ?_) (fun e => ?_)⟩
    . have e' : u = 1 := by have := V.int.inj (of_decide_eq_true e); omega
      rw [if_pos e'] at k2
      have k2o := k1.next hm2
      rw [if_pos e'] at k2o
      refine ⟨fun σ' H' => ∃ m', m' < m + 1 /\ zgQ t E B H H0 Q w h Fa m' σ' H', fun _ _ h => h, ?_⟩
      obtain ⟨fdx2, fin2⟩ := FA2.ins
      obtain ⟨dx3, fs3, e3, e4⟩ := hb2.meth (m := "number")
      refine ⟨_, rfl, Fa.p, fdx2, _, rfl, fin2, zje _ _ _ _ (by decide +kernel) (by decide +kernel) (by decide +kernel) (by decide +kernel), _, rfl, _, rfl, B.p, dx3, fs3, rfl, e3, e4, B, bs2, 2, rfl, by decide, hb2, k2.bind fun kd bs3 v3 H3 hm3 hb3 kp3 hv3 k3 => ?_⟩
      cases hv3
      have hk4 : kd < 4 := ya hm3
      have k3o := k2o.next hm3
      have FA3 := FA2.kept hb2 kp3
      have kp03 : zy [B.p] H H3 := (kp1.trans kp2).trans kp3
      refine ⟨B, bs3, kd, Fa, w, w1, h, had.reverse, as, ts, H0, rfl, hk4, hw1, hh, Nat.le_trans (Nat.mul_le_mul_right _ hww) hwh, by rw [List.length_reverse]; exact hle, by rw [hal]; exact hle, hwe, hb3, FA3, Bd, fun x hx => dm1 x (yn kp2 hb2 x (yn kp3 hb3 x hx)), (st1.same (bOnly kp2)).same (bOnly kp3), ?_⟩
      have k4 : Out t E B [] H (zh6 t w h) Q (((need (!had.reverse.contains kd) >>= fun _ => zcz kd w1 h) >>= fun z => jJ h m (kd :: had) z.2 (ts ++ [z.1])) bs3) := by
        rw [xp, zG]
        exact k3o
      cases hm4 : (need (!had.reverse.contains kd) >>= fun _ => zcz kd w1 h) bs3 with
      | none =>
        rw [zF, hm4] at k4
        exact k4
      | some zz =>
        obtain ⟨z, bs4⟩ := zz
        intro v4 H4 hb4 kp4 hv4
        obtain ⟨rfl, a, FA4, st4, tok4, hz2, dm4⟩ := hv4
        have hnew : had.contains kd = false := by
          obtain ⟨u1, b1, hn, _⟩ := bind_some hm4
          have := (xD hn).1
          rw [xp] at this
          simpa using this
        obtain ⟨p1, p2⟩ := zdT (tr := z.1) hw1
        refine ⟨m, Nat.lt_succ_self _, kd :: had, as ++ [a], ts ++ [z.1], bs4, z.2, rfl, by rw [List.length_cons]; omega, List.nodup_cons.mpr ⟨fun z => ?_, hnd⟩, ?_, by rw [List.length_append, hal]; rfl, by rw [List.reverse_cons]; exact FA4, st4, ?_, by rw [jX, <- hwe]; exact hz2, dm4, hb4, ?_, by rw [hz2]; exact p1, by rw [hz2]; exact Nat.le_trans p2 hww, k4.next hm4⟩
        . rw [List.contains_iff_mem.mpr z] at hnew; cases hnew
        . intro x hx
          rcases List.mem_cons.mp hx with e | e
          . rw [e]; exact hk4
          . exact h4 x e
        . intro y hy
          rcases List.mem_append.mp hy with hy | hy
          . exact tok1 y hy
          . rw [List.mem_singleton.mp hy]; exact tok4
        . intro b o eb nb
          refine kp4 b o (kp03 b o eb nb) ?_
          simp only [List.mem_cons, List.not_mem_nil, or_false] at nb ⊢
          rintro (z | z | z | z)
          . exact nb z
          . exact zc eb nHp z
          . exact zc eb nHk z
          . exact zc eb nHs z
    . have e' : ¬ u = 1 := fun z => e (decide_eq_true (by rw [z]; rfl))
      have k2o := k1.next hm2
      rw [if_neg e'] at k2o
      refine ⟨_, rfl, ?_⟩
      exact k2o.pure' hb2 (kp1.trans kp2) ⟨Fa, had.reverse, as, rfl, FA2, (st1.same (bOnly kp2)).same (zae _ _), tok1, hwe, hw1, hww⟩
end
end Lk
end
section
namespace Lk
open PySem PySem.Spec PyProof.Rows L2
open Sn15 (D bits bitsOf symbol Px Group up need packedBits four)
abbrev jr : Stmt := top 46
abbrev zbk : Stmt := top 47
abbrev zfb : Stmt := top 48
abbrev zdg : Stmt := top 49
theorem za7 {K : PySem.W.Frag} {H : Hp} : ∀ l : List Nat, zau K H (zm l) ((l.map fun (n : Nat) => (n : Int)).map PyData.int)
  | [] => .nil
  | n :: r => .cons (.int _) (za7 r)
theorem zbV : ∀ {l m : List Nat}, (l.map fun (n : Nat) => (n : Int)) = (m.map fun (n : Nat) => (n : Int)) -> l = m
  | [], [], _ => rfl
  | [], _ :: _, h => by cases h
  | _ :: _, [], h => by cases h
  | a :: r, b :: t, h => by
    rw [List.map_cons, List.map_cons] at h
    obtain ⟨h1, h2⟩ := List.cons.inj h
    rw [zbV h2]
    congr 1
    omega
theorem zgl (l m : List Nat) : PyData.eqv (.list ((l.map fun (n : Nat) => (n : Int)).map PyData.int)) (.list ((m.map fun (n : Nat) => (n : Int)).map PyData.int)) = decide (l = m) := by
  show PyData.eqvAll _ _ = _
  rw [PySem.W.ked_eqvAll]
  by_cases h : l = m
  . subst h; simp
  . rw [decide_eq_false h, decide_eq_false (fun z => h (zbV z))]
theorem j4 : ∀ l : List Int, PyData.canLayAll0 (l.map PyData.int) = true
  | [] => rfl
  | a :: r => by rw [List.map_cons, PyData.canLayAll0, j4 r]; rfl
theorem ku : ∀ l : List Int, PyData.depthAll (l.map PyData.int) <= 1
  | [] => Nat.zero_le _
  | a :: r => by
    have h1 : PyData.depth (.int a) <= 1 := by rw [PyData.depth] <;> simp
    have h2 := ku r
    rw [List.map_cons, PyData.depthAll]
    omega
theorem jS (l : List Int) : SeqAt.shaped (.list (l.map PyData.int)) = true := by
  unfold SeqAt.shaped
  rw [PyData.canLay0, j4, PyData.depth, decide_eq_true (by have := ku l; omega)]
  rfl
theorem zbe {n d p : Nat} (h : p <= n) : HT.sIx n d (some (p : Int)) = p := by
  show (if (p : Int) < 0 then ((p : Int) + (n : Int)).toNat else min (p : Int).toNat n) = p
  rw [if_neg (by omega)]
  omega
theorem zb1 {b : List Nat} {p q : Nat} (h : p <= q) (hq : q <= b.length) : zc5 (zm b) (some (p : Int)) (some (q : Int)) = zm ((b.drop p).take (q - p)) := by
  unfold zc5
  rw [zk, zbe (p := p) (by omega), zbe (p := q) hq]
  unfold zm
  rw [List.map_take, List.map_drop]
theorem zfj {c0 c1 c2 c3 : Nat} (h0 : c0 < 256) (h1 : c1 < 256) (h2 : c2 < 256) (h3 : c3 < 256) :
    Builtin.bitOr (Builtin.bitOr (Builtin.bitOr (c0 : Int) ((c1 : Int) * 2 ^ (8 : Int).toNat)) ((c2 : Int) * 2 ^ (16 : Int).toNat)) ((c3 : Int) * 2 ^ (24 : Int).toNat) = ((c0 + 256 * (c1 + 256 * (c2 + 256 * c3)) : Nat) : Int) := by
  have e1 : (c1 : Int) * 2 ^ (8 : Int).toNat = ((c1 * 2 ^ 8 : Nat) : Int) := by show (c1 : Int) * 2 ^ 8 = ((c1 * 2 ^ 8 : Nat) : Int); omega
  have e2 : (c2 : Int) * 2 ^ (16 : Int).toNat = ((c2 * 2 ^ 16 : Nat) : Int) := by show (c2 : Int) * 2 ^ 16 = ((c2 * 2 ^ 16 : Nat) : Int); omega
  have e3 : (c3 : Int) * 2 ^ (24 : Int).toNat = ((c3 * 2 ^ 24 : Nat) : Int) := by show (c3 : Int) * 2 ^ 24 = ((c3 * 2 ^ 24 : Nat) : Int); omega
  rw [e1, e2, e3, vf (by omega), vf (by omega), vf (by omega)]
  omega
theorem zg2 {X : Cx} {op : BoolOp} {a : Expr} {pos : Pos} {t : TE} (h : PE X a t) : PE X (.BoolOp op [a] pos) t := fun pins s σ H Q I hw => BoolOp_one (h pins s σ H Q I hw)
section
variable {P : Program} {w : World} {K : PySem.W.Frag} {mg : Str -> Option Value} {base : Heap} {t : Ad}
def jT (K : PySem.W.Frag) : Sp := fun vs H Q _ => ∃ (d : Addr) (b : List Nat) (p : Nat) (x : Str), vs = [.ref d, nat p, .str x] /\ SqL K H d (zm b) /\ p + x.cps.size <= b.length /\ x.cps.size <= 1000 /\
  ∀ H', zQ H H' -> Q (.bl (decide ((b.drop p).take x.cps.size = x.cps.toList))) H'
abbrev zbR : List Str := ["data", "place", "letters", "letter"]
theorem jL : zq zbR ["data", "place", "letters"] (zj jr) := by trivial
theorem zcK {f : Addr} {fd : FuncData} (F : Fun K "letters_stand" "letters_stand" jr f fd) (T : Tx K mg t) : yg P w K mg base (CXe P w) 1 f fd ["data", "place", "letters"] (jT K) := by
  refine F.okE jL (fun vs H Q E h => ?_) (fun cdv A outer s H vs Q E hr h => ?_)
  . obtain ⟨d, b, p, x, rfl, _⟩ := h
    rfl
  . obtain ⟨d, b, p, x, rfl, hS, hpx, hx, k⟩ := h
    refine ⟨_, zg (zB (zdJ (zjL hr.units) (vb zeJ (pv 0) (jC (pv 1)) (jC (zt zT (pv 1) (zL wt (by rfl) T.len PySem.boot_len (za (pv 2) zf)))))
      (zhP (own := [("letter", 3)]) rfl jL.nd (zj1 (pv 2)) (by show ke zbR (zj jr) _ _; exact qC (by decide +kernel))
        (fun _ _ _ _ _ => by exact yz (i := 3) jL.nd (by rfl) (Or.inl (by rfl)) (Or.inr (by rfl))) (fun _ _ _ _ _ => jF) (fun _ _ _ _ _ => by exact zL zfn (by rfl) T.ord PyProof.Rows.boot_ord (za (pv 3) zf))) (zD _))), ?_⟩
    refine ⟨_, rfl, _, rfl, _, rfl, _, rfl, _, rfl, x, rfl, Nat.le_trans hx (by decide), _, _, rfl, rfl, _, rfl, d, zm b, rfl, hS, fun p1 hp1 => ⟨_, rfl, x, rfl, fun Dl hDl => zjy (z := x)
      (fun i Hx => zQ (upd H p1 (.lst (zc5 (zm b) (some (p : Int)) (some ((p : Int) + (x.length : Int)))))) Hx /\ Hx Dl = some (.lst (zm (x.cps.toList.take i)))) ⟨zr (zQ.refl _) hDl, zb⟩ ?_ ?_⟩⟩
    . rintro i c Hx hc ⟨sx, dxx⟩
      have hc' : x.cps.toList[i]? = some c := by rw [Array.getElem?_toList]; exact hc
      have hil : i < x.cps.toList.length := (List.getElem?_eq_some_iff.mp hc').1
      have hg : x.cps.toList[i] = c := by rw [List.getElem?_eq_getElem hil] at hc'; exact Option.some.inj hc'
      refine ⟨rfl, wT ⟨_, rfl, ⟨#[c]⟩, rfl, rfl, _, dxx, ?_, yH sx hDl, ?_⟩⟩
      . rw [zk, List.length_take]
        rw [Array.length_toList] at hil ⊢
        exact Nat.lt_of_le_of_lt (show min i x.cps.size <= 1000 by omega) (by decide)
      . rw [zb, List.take_succ_eq_append_getElem hil, yt, hg]; rfl
    . rintro Hx ⟨sx, dxx⟩
      have ex : x.length = x.cps.size := rfl
      have ec : zc5 (zm b) (some (p : Int)) (some ((p : Int) + (x.length : Int))) = zm ((b.drop p).take x.cps.size) := by
        have := zb1 (b := b) (p := p) (q := p + x.cps.size) (by omega) hpx
        rw [ex]
        rw [show ((p + x.cps.size : Nat) : Int) = (p : Int) + (x.cps.size : Int) by omega, show p + x.cps.size - p = x.cps.size by omega] at this
        exact this
      rw [<- Array.length_toList, List.take_length] at dxx
      have h1 : Hx p1 = some (.lst (zm ((b.drop p).take x.cps.size))) := by rw [<- ec]; exact sx _ _ zb
      refine ⟨_, _, .lst (SqL.of h1) (za7 _), .lst (SqL.of dxx) (za7 _), jS _, jS _, ?_⟩
      rw [zgl]
      exact k _ ((zr (zQ.refl _) hp1).trans sx)
def vi (K : PySem.W.Frag) : Sp := fun vs H Q _ => ∃ (d : Addr) (b : List Nat) (p : Nat), vs = [.ref d, nat p] /\ SqL K H d (zm b) /\ (∀ c ∈ b, c < 256) /\ p + 3 < b.length /\ Q (nat (four b p)) H
theorem zfD : zq ["data", "place"] ["data", "place"] (zj zbk) := by trivial
theorem zd4 {f : Addr} {fd : FuncData} (F : Fun K "size_at" "size_at" zbk f fd) : yg P w K mg base (CXe P w) 1 f fd ["data", "place"] (vi K) := by
  refine F.okE zfD (fun vs H Q E h => ?_) (fun cdv A outer s H vs Q E hr h => ?_)
  . obtain ⟨d, b, p, rfl, _⟩ := h
    rfl
  . obtain ⟨d, b, p, rfl, hS, hb, hp, k⟩ := h
    have g : ∀ j, j < b.length -> ∃ c, b[j]? = some c /\ c < 256 /\ b.getD j 0 = c := fun j hj => ⟨b[j], List.getElem?_eq_getElem hj, hb _ (List.getElem_mem hj), by rw [List.getD_eq_getElem?_getD, List.getElem?_eq_getElem hj]; rfl⟩
    obtain ⟨c0, g0, l0, f0⟩ := g p (by omega)
    obtain ⟨c1, g1, l1, f1⟩ := g (p + 1) (by omega)
    obtain ⟨c2, g2, l2, f2⟩ := g (p + 2) (by omega)
    obtain ⟨c3, g3, l3, f3⟩ := g (p + 3) (by omega)
    refine ⟨_, zg (zB (zt zaT (zt zaT (zt zaT (yI zX (pv 0) (pv 1) (fun _ _ => rfl)) (zt xa (yI zX (pv 0) (zt zT (pv 1) zi) (fun _ _ => rfl)) zi))
      (zt xa (yI zX (pv 0) (zt zT (pv 1) zi) (fun _ _ => rfl)) zi)) (zt xa (yI zX (pv 0) (zt zT (pv 1) zi) (fun _ _ => rfl)) zi))), ?_⟩
    refine ⟨_, rfl, _, rfl, d, _, _, nat c0, rfl, rfl, hS, yP (j := p) rfl (yf g0), ?_⟩
    refine ⟨_, rfl, _, rfl, _, _, rfl, rfl, d, _, _, nat c1, rfl, rfl, hS, yP (j := p + 1) (by omega) (yf g1), _, _, rfl, rfl, ⟨by decide, by decide, by omega⟩, _, _, rfl, rfl, ?_⟩
    refine ⟨_, rfl, _, rfl, _, _, rfl, rfl, d, _, _, nat c2, rfl, rfl, hS, yP (j := p + 2) (by omega) (yf g2), _, _, rfl, rfl, ⟨by decide, by decide, by omega⟩, _, _, rfl, rfl, ?_⟩
    refine ⟨_, rfl, _, rfl, _, _, rfl, rfl, d, _, _, nat c3, rfl, rfl, hS, yP (j := p + 3) (by omega) (yf g3), _, _, rfl, rfl, ⟨by decide, by decide, by omega⟩, _, _, rfl, rfl, ?_⟩
    show Q (.int (Builtin.bitOr (Builtin.bitOr (Builtin.bitOr (c0 : Int) ((c1 : Int) * 2 ^ (8 : Int).toNat)) ((c2 : Int) * 2 ^ (16 : Int).toNat)) ((c3 : Int) * 2 ^ (24 : Int).toNat))) H
    rw [zfj l0 l1 l2 l3]
    unfold four at k
    rw [f0, f1, f2, f3] at k
    exact k
abbrev kj : List Nat := [82, 73, 70, 70]
abbrev kP : List Nat := [87, 69, 66, 80, 86, 80, 56, 76]
def zbd (K : PySem.W.Frag) : Sp := fun vs H Q _ => ∃ (d : Addr) (b : List Nat), vs = [.ref d] /\ SqL K H d (zm b) /\ 16 <= b.length /\ ∀ H', zQ H H' -> Q (.bl (decide (b.take 4 = kj /\ (b.drop 8).take 8 = kP))) H'
theorem zhy : zq ["data"] ["data"] (zj zfb) := by trivial
theorem zfp {f : Addr} {fd : FuncData} (F : Fun K "names_stand" "names_stand" zfb f fd) (Gl : zE P w K mg base 1 "letters_stand" ["data", "place", "letters"] (jT K)) : yg P w K mg base (CXe P w) 2 f fd ["data"] (zbd K) := by
  refine F.okE zhy (fun vs H Q E h => ?_) (fun cdv A outer s H vs Q E hr h => ?_)
  . obtain ⟨d, b, rfl, _⟩ := h
    rfl
  . obtain ⟨d, b, rfl, hS, hl, k⟩ := h
    refine ⟨_, zg (zB (zjh (pd Gl Lv.of hr (za (pv 0) (za zi (za zgD zf)))) (zg2 (pd Gl Lv.of hr (za (pv 0) (za zi (za zgD zf))))))), ?_⟩
    have n4 : ("RIFF" : Str).cps.toList = kj := by decide +kernel
    have n8 : ("WEBPVP8L" : Str).cps.toList = kP := by decide +kernel
    have z4 : ("RIFF" : Str).cps.size = 4 := by decide +kernel
    have z8 : ("WEBPVP8L" : Str).cps.size = 8 := by decide +kernel
    refine ⟨_, rfl, d, b, 0, "RIFF", rfl, hS, by rw [z4]; omega, by rw [z4]; decide, fun H1 s1 => ⟨_, rfl, yC (fun e => ?_) (fun e => ?_)⟩⟩
    . have e' := of_decide_eq_true e
      rw [z4, n4, List.drop_zero] at e'
      refine ⟨_, rfl, d, b, 8, "WEBPVP8L", rfl, s1.seq hS, by rw [z8]; omega, by rw [z8]; decide, fun H2 s2 => ?_⟩
      have := k H2 (s1.trans s2)
      rw [z8, n8]
      rw [show decide (b.take 4 = kj /\ (b.drop 8).take 8 = kP) = decide ((b.drop 8).take 8 = kP) from by simp [e']] at this
      exact this
    . have e' : ¬ b.take 4 = kj := fun z => e (decide_eq_true (by rw [z4, n4, List.drop_zero]; exact z))
      have := k H1 s1
      rw [decide_eq_false (fun z => e' z.1)] at this
      exact this
def za5 (K : PySem.W.Frag) (t : Ad) : Sp := fun vs H Q E => ∃ (d : Addr) (b : List Nat), vs = [.ref d] /\ SqL K H d (zm b) /\ (∀ c ∈ b, c < 256) /\
  (yR b -> ∀ o H', zQ H H' -> H o = none -> H' o = some (.lst (zm (yl b))) -> Q (.ref o) H') /\ (¬ yR b -> ∀ H', E (.ref t.CN) none H')
theorem zbl : zq ["data", "size", "padding"] ["data"] (zj zdg) := by trivial
theorem zfv {f : Addr} {fd : FuncData} (F : Fun K "bytes_of_bits" "bytes_of_bits" zdg f fd) (T : Tx K mg t) (T2 : Tx2 K mg t) (Gn : zE P w K mg base 2 "names_stand" ["data"] (zbd K)) (Gz : zE P w K mg base 1 "size_at" ["data", "place"] (vi K)) :
    yg P w K mg base (CXe P w) 3 f fd ["data"] (za5 K t) := by
  obtain ⟨uS, hS1, rS⟩ := T2.kSIG
  refine F.okE zbl (fun vs H Q E h => ?_) (fun cdv A outer s H vs Q E hr h => ?_)
  . obtain ⟨d, b, rfl, _⟩ := h
    rfl
  . obtain ⟨d, b, rfl, hS, hb, kt, kf⟩ := h
    have hr1 : yp 1 _ := hr.mono (by decide)
    have raise : ∀ {X : Cx} {E : XK} (L : Lv X E) (g : Gl X "NoSuchFile") (e : X.mg = mg) (e2 : X.K = K) {np cpos pos : Pos}, PSs X [.Raise (some (.Call (.Name "NoSuchFile" np) [] [] cpos)) none pos] (zgK t.CN E) := fun L g e e2 => zg (zY L g (by rw [e]; exact T.gN) (by rw [e2]; exact T.xN))
    refine ⟨_, zd (ye (PW.pt (zdi (zu wH (zL zC (by rfl) T.len PySem.boot_len (za (pv 0) zf)) zi (zD _)) (zab (zjZ (zjJ (pd Gn Lv.of hr (za (pv 0) zf))))))) (zg (zY Lv.of (by rfl) T.gN T.xN)) zH)
      (zd (zw (i := 1) zbl.nd rfl (Or.inl rfl) (pd Gz Lv.of hr1 (za (pv 0) (za zi zf))))
      (zd (zw (i := 2) zbl.nd rfl (Or.inl rfl) (zt zeb (pv 1) zi))
      (zd (ye (PW.pt (zdi (zu zcH (pd Gz Lv.of hr1 (za (pv 0) (za zi zf))) (zt zT (zt zT zi (pv 1)) (pv 2)) (zD _))
          (zab (zu zcH (zL zC (by rfl) T.len PySem.boot_len (za (pv 0) zf)) (zt zT (zt zT zi (pv 1)) (pv 2)) (zD _))))) (zg (zY Lv.of (by rfl) T.gN T.xN)) zH)
      (zd (ye (zu zcH (yI zX (pv 0) zi (fun _ _ => rfl)) (zM (by rfl) hS1 rS) (zD _)) (zg (zY Lv.of (by rfl) T.gN T.xN)) zH)
      (zd (ye (PW.pt (zey (zu xt (pv 2) zi (zD _)) (zbn (zu zcH (yI zX (pv 0) (zt zT zi (pv 1)) (fun _ _ => rfl)) zi (zD _))))) (zg (zY Lv.of (by rfl) T.gN T.xN)) zH)
      (zg (zB (vb zeJ (pv 0) (jC zi) (jC (zt zT zi (pv 1))))))))))), ?_⟩
    have bad : ∀ {c : Prop}, c -> (c -> ¬ yR b) -> ∀ H', E (.ref t.CN) none H' := fun h z => kf (z h)
    refine ⟨_, rfl, d, _, rfl, .inl hS, _, _, rfl, rfl, _, rfl, yC (fun e => ?_) (fun e => ?_)⟩
    . have e' : ((zm b).length : Int) < 21 := of_decide_eq_true e
      rw [zk] at e'
      exact zc7 (kf (fun ok => ok (.inl (by omega))) _)
    . have e' : ¬ ((zm b).length : Int) < 21 := fun z => e (decide_eq_true z)
      rw [zk] at e'
      have hl : 21 <= b.length := by omega
      refine ⟨_, rfl, d, b, rfl, hS, by omega, fun H1 s1 => ⟨_, rfl, yC (fun g => ?_) (fun g => ?_)⟩⟩
      . have g' : ¬ (b.take 4 = kj /\ (b.drop 8).take 8 = kP) := by
          intro z
          rw [decide_eq_true z] at g
          cases g
        refine kf (fun ok => ?_) _
        refine g' ⟨Classical.byContradiction fun z => ok (.inr (.inl z)), Classical.byContradiction fun z => ok (.inr (.inr (.inl z)))⟩
      . have g' : b.take 4 = kj /\ (b.drop 8).take 8 = kP := by
          refine Classical.byContradiction fun z => g ?_
          rw [decide_eq_false z]
          rfl
        have hS1 : SqL K H1 d (zm b) := s1.seq hS
        refine ⟨_, rfl, d, b, 16, rfl, hS1, hb, by omega, ?_⟩
        generalize hsz : four b 16 = sz
        refine ⟨_, rfl, _, _, rfl, rfl, (by show (0 : Int) < 2; decide), ?_⟩
        dsimp -proj only
        rw [show ((sz : Nat) : Int) % 2 = ((sz % 2 : Nat) : Int) by omega]
        refine ⟨_, rfl, d, b, 4, rfl, hS1, hb, by omega, _, rfl, _, _, rfl, rfl, _, rfl, _, _, rfl, rfl, rfl, _, rfl, yC (fun i => ?_) (fun i => ?_)⟩
        . have i' : ¬ four b 4 = 12 + four b 16 + four b 16 % 2 := by
            intro z
            rw [hsz] at z
            have i2 : (!decide (nat (four b 4) = V.int (12 + (sz : Int) + ((sz % 2 : Nat) : Int)))) = true := i
            rw [decide_eq_true (by rw [z]; congr 1 <;> omega)] at i2
            cases i2
          exact zc7 (kf (fun ok => ok (.inr (.inr (.inr (.inl i'))))) _)
        . have i' : four b 4 = 12 + four b 16 + four b 16 % 2 := by
            rw [hsz]
            refine Classical.byContradiction fun z => i ?_
            show (!decide (nat (four b 4) = V.int (12 + (sz : Int) + ((sz % 2 : Nat) : Int)))) = true
            rw [decide_eq_false (fun y => z (by have := V.int.inj y; omega))]
            rfl
          refine ⟨_, rfl, d, _, rfl, .inl hS1, _, rfl, _, _, rfl, rfl, _, rfl, _, _, rfl, rfl, rfl, _, rfl, yC (fun j => ?_) (fun j => ?_)⟩
          . have j' : ¬ b.length = 20 + four b 16 + four b 16 % 2 := by
              intro z
              rw [hsz] at z
              have j2 : (!decide (V.int ((zm b).length : Int) = V.int (20 + (sz : Int) + ((sz % 2 : Nat) : Int)))) = true := j
              rw [decide_eq_true (by rw [zk, z]; congr 1 <;> omega)] at j2
              cases j2
            exact kf (fun ok => ok (.inr (.inr (.inr (.inr (.inl j')))))) _
          . have j' : b.length = 20 + four b 16 + four b 16 % 2 := by
              rw [hsz]
              refine Classical.byContradiction fun z => j ?_
              show (!decide (V.int ((zm b).length : Int) = V.int (20 + (sz : Int) + ((sz % 2 : Nat) : Int)))) = true
              rw [decide_eq_false (fun y => z (by have := V.int.inj y; rw [zk] at this; omega))]
              rfl
            have g20 : b[20]? = some (b.getD 20 0) := by rw [List.getD_eq_getElem?_getD, List.getElem?_eq_getElem (by omega : 20 < b.length)]; rfl
            refine ⟨_, rfl, d, _, _, nat (b.getD 20 0), rfl, rfl, hS1, yP (j := 20) rfl (yf g20), rfl, _, rfl, yC (fun l => ?_) (fun l => ?_)⟩
            . have l' : ¬ b.getD 20 0 = 47 := by
                intro z
                have l2 : (!decide (nat (b.getD 20 0) = V.int 47)) = true := l
                rw [decide_eq_true (by rw [z]; rfl)] at l2
                cases l2
              exact kf (fun ok => ok (.inr (.inr (.inr (.inr (.inr (.inl l'))))))) _
            . have l' : b.getD 20 0 = 47 := by
                refine Classical.byContradiction fun z => l ?_
                show (!decide (nat (b.getD 20 0) = V.int 47)) = true
                rw [decide_eq_false (fun y => z (by have := V.int.inj y; omega))]
                rfl
              have fin : ¬ (four b 16 % 2 = 1 /\ b.getD (20 + four b 16) 0 ≠ 0) -> zkX (tSl (zkY K) (ziN 0) (zg3 (tC (.int 21))) (zg3 (tOp (rI0 fun i j => .int (i + j)) (tC (.int 20)) (ziN 1)))) { nx := fun _ H' => Q .non H', rt := Q } [some (.ref d), some (nat sz), some (nat (sz % 2))] H1 := fun m' => by
                have ok : yR b := by
                  rintro (z | z | z | z | z | z | z)
                  . omega
                  . exact z g'.1
                  . exact z g'.2
                  . exact z i'
                  . exact z j'
                  . exact z l'
                  . exact m' z
                refine ⟨_, rfl, _, rfl, _, rfl, _, _, rfl, rfl, _, rfl, d, zm b, rfl, hS1, fun p hp => ?_⟩
                refine kt ok p _ (zr s1 hp) (s1.free hp) ?_
                rw [zb]
                have ec := zb1 (b := b) (p := 21) (q := 20 + sz) (by rw [hsz] at j'; omega) (by rw [hsz] at j'; omega)
                unfold yl
                rw [hsz]
                rw [show 20 + sz - 21 = sz - 1 by omega] at ec
                rw [<- ec]
                rfl
              refine ⟨_, rfl, rfl, _, rfl, yC (fun m => ?_) (fun m => ?_)⟩
              . have m' : four b 16 % 2 = 1 := by
                  rw [hsz]
                  have := V.int.inj (of_decide_eq_true m)
                  omega
                have hlt : 20 + sz < b.length := by rw [j', m', hsz]; omega
                have gz : b[20 + sz]? = some (b.getD (20 + sz) 0) := by rw [List.getD_eq_getElem?_getD, List.getElem?_eq_getElem hlt]; rfl
                refine ⟨_, rfl, _, rfl, _, _, rfl, rfl, d, _, _, nat (b.getD (20 + sz) 0), rfl, rfl, hS1, yP (j := 20 + sz) (by omega) (yf gz), rfl, _, rfl, yC (fun n => ?_) (fun n => ?_)⟩
                . have n' : b.getD (20 + four b 16) 0 ≠ 0 := by
                    intro z
                    rw [hsz] at z
                    have n2 : (!decide (nat (b.getD (20 + sz) 0) = V.int 0)) = true := n
                    rw [decide_eq_true (by rw [z]; rfl)] at n2
                    cases n2
                  exact kf (fun ok => ok (.inr (.inr (.inr (.inr (.inr (.inr ⟨m', n'⟩))))))) _
                . have n' : b.getD (20 + sz) 0 = 0 := by
                    refine Classical.byContradiction fun z => n ?_
                    show (!decide (nat (b.getD (20 + sz) 0) = V.int 0)) = true
                    rw [decide_eq_false (fun y => z (by have := V.int.inj y; omega))]
                    rfl
                  exact fin fun z => z.2 (by rw [hsz]; exact n')
              . have m' : ¬ four b 16 % 2 = 1 := by
                  rw [hsz]
                  intro z
                  refine m (decide_eq_true ?_)
                  show nat (sz % 2) = V.int 1
                  rw [z]; rfl
                refine ziM ?_
                exact fin fun z => m' z.1
end
end Lk
end
section
namespace Lk
open PySem PySem.Spec PyProof.Rows L2
open Sn15 (D bits bitsOf symbol Px Group up need MOSTELEMENTS Trans)
abbrev zd3 : Stmt := z0 (top 75) 0
abbrev ze0 : Stmt := z0 (top 76) 0
abbrev zhA : Stmt := top 77
abbrev zhz : Stmt := top 78
def Run {α : Type} (t : Ad) (E : XK) (B : Bi) (H : Hp) (Z : α -> List Bool -> Hp -> Prop) : Option (α × List Bool) -> Prop
  | none => ∀ H', E (.ref t.CN) none H'
  | some (a, bs') => ∀ H', zo t H' B bs' -> zy [B.p] H H' -> Z a bs' H'
section
variable {α β : Type} {t : Ad} {E : XK} {B : Bi} {H H' : Hp} {Z : β -> List Bool -> Hp -> Prop} {R1 : α -> V -> Hp -> Prop} {Q1 : VK} {bs bs' : List Bool}
theorem Run.shift {r : Option (β × List Bool)} (h : Run t E B H Z r) (k : zy [B.p] H H') : Run t E B H' Z r := by
  cases r with
  | none => exact h
  | some x => exact fun H2 b k2 => h H2 b (k.trans k2)
theorem Run.bind {m : D α} {f : α -> D β} (h : Run t E B H Z ((m >>= f) bs))
    (k : ∀ a bs' v H', m bs = some (a, bs') -> zo t H' B bs' -> zy [B.p] H H' -> R1 a v H' -> Run t E B H' Z (f a bs') -> Q1 v H') : Out t E B [] H R1 Q1 (m bs) := by
  rw [zF] at h
  cases hm : m bs with
  | none => rw [hm] at h; exact h
  | some x =>
    rw [hm] at h
    obtain ⟨a, bs'⟩ := x
    exact fun v H' b kp r => k a bs' v H' hm b kp r (Run.shift h kp)
theorem Run.mid {m : D α} {f : α -> D β} (h : Run t E B H Z ((m >>= f) bs)) : Run t E B H (fun a bs' H' => Run t E B H' Z (f a bs')) (m bs) := by
  rw [zF] at h
  cases hm : m bs with
  | none => rw [hm] at h; exact h
  | some x =>
    rw [hm] at h
    obtain ⟨a, bs'⟩ := x
    exact fun H' b kp => Run.shift h kp
theorem Run.imp {r : Option (β × List Bool)} {Z' : β -> List Bool -> Hp -> Prop} (h : Run t E B H Z r) (k : ∀ a bs' H', r = some (a, bs') -> zo t H' B bs' -> zy [B.p] H H' -> Z a bs' H' -> Z' a bs' H') : Run t E B H Z' r := by
  cases r with
  | none => exact h
  | some x => exact fun H2 b k2 => k _ _ _ rfl b k2 (h H2 b k2)
theorem Run.need {c : Bool} {f : Unit -> D β} (h : Run t E B H Z ((Sn15.need c >>= f) bs)) : (c = true -> Run t E B H Z (f () bs)) /\ (c = false -> ∀ H', E (.ref t.CN) none H') := by
  refine ⟨fun e => ?_, fun e => ?_⟩
  . subst e; rw [yb] at h; exact h
  . subst e; rw [yy] at h; exact h
theorem Run.pure {a : β} (h : Run t E B H Z ((Pure.pure a : D β) bs)) (b : zo t H B bs) : Z a bs H := h H b (zy.refl _ _)
end
theorem pdp {X : Cx} {E : XK} {k : Nat} {x : Str} {ps : List Str} {sp : Sp} {p pos : Pos} {e : Expr} {es : List Expr} {ts : TA} (G : zE X.prog X.w X.K X.mg X.base k x ps sp) (hp : xZ (CXe X.prog X.w) X E) (hr : yp k X.A) (ha : PA X (e :: es) ts) (hg : Gl X x := by rfl) (hdb : (x == ("__debug__" : Str)) = false := by decide)
    (he : starEach (e :: es) X.env = (false, eval e X.env) :: starEach es X.env := by rfl) (hpl : (backTo pos (starEach es X.env)).any (·.1) = false := by rfl) : PE X (.Call (.Name x p) (e :: es) [] pos) (zgj sp [] E ts) := by
  obtain ⟨f, fd, F, hm, hk, hb⟩ := G.ex
  exact zbm F hr hg hm hk hb .nil hp ha hdb he hpl
theorem zif : vq = (zbj >>= fun s => if MOSTELEMENTS < s.1 * s.2.1 then pure (s, ([], [])) else xA s.2.1 5 [] s.1 >>= fun r => zcy r.2 s.2.1 >>= fun l => zch >>= fun n => need (decide (n < 8)) >>= fun _ => pure (s, (r.1, l))) := by
  unfold vq
  congr 1
  funext s
  by_cases h : MOSTELEMENTS < s.1 * s.2.1
  . rw [if_pos h, if_pos h]
  . rw [if_neg h, if_neg h]
    unfold zgp
    simp only [zG, zl]
def hdF (w h : Nat) (c : V) : List (Str × V) := [("width", nat w), ("height", nat h), ("alphas_count", c)]
theorem zi3 (w h : Nat) (c : V) : (hdF w h c).lookup ("width" : Str) = some (nat w) := zN
theorem zhZ (w h : Nat) (c : V) : (hdF w h c).lookup ("height" : Str) = some (nat h) := (zp (by decide +kernel)).trans zN
theorem zle (w h : Nat) (c : V) : (hdF w h c).lookup ("alphas_count" : Str) = some c := (zp (by decide +kernel)).trans ((zp (by decide +kernel)).trans zN)
theorem zk7 (w h : Nat) (c : V) {m : Str} (h1 : (m == ("width" : Str)) = false) (h2 : (m == ("height" : Str)) = false) (h3 : (m == ("alphas_count" : Str)) = false) : (hdF w h c).lookup m = none := (zp h1).trans ((zp h2).trans ((zp h3).trans rfl))
def coF (h f l : Addr) : List (Str × V) := [("head", .ref h), ("transforms", .ref f), ("colours", .ref l)]
theorem zkp (h f l : Addr) : (coF h f l).lookup ("head" : Str) = some (.ref h) := zN
theorem zlh (h f l : Addr) : (coF h f l).lookup ("transforms" : Str) = some (.ref f) := (zp (by decide +kernel)).trans zN
theorem zlk (h f l : Addr) : (coF h f l).lookup ("colours" : Str) = some (.ref l) := (zp (by decide +kernel)).trans ((zp (by decide +kernel)).trans zN)
def zar (t : Ad) (H : Hp) (a : Addr) (s : Nat × Nat × Nat) : Prop := ∃ dx, H a = some (.ins t.CH dx (hdF s.1 s.2.1 (.bl (decide (s.2.2 = 1)))))
theorem zar.same {t : Ad} {H H' : Hp} {a : Addr} {s : Nat × Nat × Nat} (h : zar t H a s) (sm : zQ H H') : zar t H' a s := let ⟨dx, e⟩ := h; ⟨dx, sm _ _ e⟩
structure zgT (t : Ad) (H : Hp) (a : Addr) (c : zjv) : Prop where
  ex : ∃ (dx ha : Addr) (F : Fa) (had : List Nat) (as : List Addr) (la : Addr), H a = some (.ins t.CA dx (coF ha F.p la)) /\ zar t H ha c.1 /\ FAt t H F (kT c.1.1 c.2.1) c.1.2.1 had as /\ yk t H c.1.1 c.1.2.1 as c.2.1 /\ H la = some (.lst (zm (zn c.2.2)))
  tok : ∀ z ∈ c.2.1, qR z
  len : c.2.2.length = kT c.1.1 c.2.1 * c.1.2.1
  ok : ∀ p ∈ c.2.2, yq p
  w0 : 0 < c.1.1
  h0 : 0 < c.1.2.1
section
variable {P : Program} {w : World} {K : PySem.W.Frag} {mg : Str -> Option Value} {base : Heap} {t : Ad}
def zaW (t : Ad) : Sp := fun vs H Q _ => ∃ (p dx : Addr) (w h : Nat) (c : V), vs = [.ref p, nat w, nat h, c] /\ H p = some (.ins t.CH dx []) /\ ∀ H', H' p = some (.ins t.CH dx (hdF w h c)) -> zy [p] H H' -> Q .non H'
theorem zhl : zq ["self", "width", "height", "alphas_count"] ["self", "width", "height", "alphas_count"] (zj zd3) := by trivial
theorem zfz {f : Addr} {fd : FuncData} (F : Fun K "__init__" "Head.__init__" zd3 f fd) (T2 : Tx2 K mg t) : yg P w K mg base (CXe P w) 1 f fd ["self", "width", "height", "alphas_count"] (zaW t) := by
  refine F.okE zhl (fun vs H Q E h => ?_) (fun cdv A outer s H vs Q E hr h => ?_)
  . obtain ⟨p, dx, w, h, c, rfl, _⟩ := h
    rfl
  . obtain ⟨p, dx, w, h, c, rfl, hp, k⟩ := h
    refine ⟨_, zd (zU (pv 0) (pv 1) rfl) (zd (zU (pv 0) (pv 2) rfl) (zg (zU (pv 0) (pv 3) rfl))), ?_⟩
    refine ⟨_, rfl, _, rfl, p, t.CH, dx, _, rfl, hp, T2.cH, T2.hW, (by show 0 < 1000; decide), ?_⟩
    refine ⟨_, rfl, _, rfl, p, t.CH, dx, _, rfl, zb, T2.cH, T2.hH, (by show 1 < 1000; decide), ?_⟩
    refine ⟨_, rfl, _, rfl, p, t.CH, dx, _, rfl, zb, T2.cH, T2.hA, (by show 2 < 1000; decide), ?_⟩
    refine k _ ?_ (((zy.put (by simp)).trans (zy.put (by simp))).trans (zy.put (by simp)))
    rw [zb]
    rfl
def zba (t : Ad) : Sp := fun vs H Q _ => ∃ (p dx ha fa la : Addr), vs = [.ref p, .ref ha, .ref fa, .ref la] /\ H p = some (.ins t.CA dx []) /\ ∀ H', H' p = some (.ins t.CA dx (coF ha fa la)) -> zy [p] H H' -> Q .non H'
theorem zgW : zq ["self", "head", "transforms", "colours"] ["self", "head", "transforms", "colours"] (zj ze0) := by trivial
theorem zgn {f : Addr} {fd : FuncData} (F : Fun K "__init__" "Contents.__init__" ze0 f fd) (T2 : Tx2 K mg t) : yg P w K mg base (CXe P w) 1 f fd ["self", "head", "transforms", "colours"] (zba t) := by
  refine F.okE zgW (fun vs H Q E h => ?_) (fun cdv A outer s H vs Q E hr h => ?_)
  . obtain ⟨p, dx, ha, fa, la, rfl, _⟩ := h
    rfl
  . obtain ⟨p, dx, ha, fa, la, rfl, hp, k⟩ := h
    refine ⟨_, zd (zU (pv 0) (pv 1) rfl) (zd (zU (pv 0) (pv 2) rfl) (zg (zU (pv 0) (pv 3) rfl))), ?_⟩
    refine ⟨_, rfl, _, rfl, p, t.CA, dx, _, rfl, hp, T2.cA, T2.aH, (by show 0 < 1000; decide), ?_⟩
    refine ⟨_, rfl, _, rfl, p, t.CA, dx, _, rfl, zb, T2.cA, T2.aT, (by show 1 < 1000; decide), ?_⟩
    refine ⟨_, rfl, _, rfl, p, t.CA, dx, _, rfl, zb, T2.cA, T2.aC, (by show 2 < 1000; decide), ?_⟩
    refine k _ ?_ (((zy.put (by simp)).trans (zy.put (by simp))).trans (zy.put (by simp)))
    rw [zb]
    rfl
def zkF (t : Ad) (E : XK) (Q : VK) : Nat × Nat × Nat -> List Bool -> Hp -> Prop := fun s _ H => (MOSTELEMENTS < s.1 * s.2.1 -> ∀ H', E (.ref t.CT) none H') /\
  (¬ MOSTELEMENTS < s.1 * s.2.1 -> ∀ a H', zQ H H' -> zar t H' a s -> Q (.ref a) H')
def zeu (t : Ad) : Sp := fun vs H Q E => ∃ (B : Bi) (bs : List Bool), vs = [.ref B.p] /\ zo t H B bs /\ Run t E B H (zkF t E Q) (zbj bs)
theorem zbN : zq ["bits", "width", "height", "alphas_count"] ["bits"] (zj zhz) := by trivial
theorem zhT {f : Addr} {fd : FuncData} (F : Fun K "read_head" "read_head" zhz f fd) (T : Tx K mg t) (T2 : Tx2 K mg t) (Gb : zI P w K mg base 1 t.CB "bit" ["self"] (j0 t)) (Gn : zI P w K mg base 2 t.CB "number" ["self", "width"] (yw t)) (GH : yd P w K mg base 1 t.CH "Head" ["self", "width", "height", "alphas_count"] (zaW t)) : yg P w K mg base (CXe P w) 3 f fd ["bits"] (zeu t) := by
  obtain ⟨uL, hL, rL⟩ := T2.kLAR
  refine F.okE zbN (fun vs H Q E h => ?_) (fun cdv A outer s H vs Q E hr h => ?_)
  . obtain ⟨B, bs, rfl, _⟩ := h
    rfl
  . obtain ⟨B, bs, rfl, hb, k⟩ := h
    have hr1 : yp 1 _ := hr.mono (by decide)
    refine ⟨_, zd (zw (i := 1) zbN.nd rfl (Or.inl rfl) (zt zT (pm Gn Lv.of T.cB hr (pv 0) (za zi zf)) zi))
      (zd (zw (i := 2) zbN.nd rfl (Or.inl rfl) (zt zT (pm Gn Lv.of T.cB hr (pv 0) (za zi zf)) zi))
      (zd (zw (i := 3) zbN.nd rfl (Or.inl rfl) (zdJ xt (pm0 Gb Lv.of T.cB hr1 (pv 0)) zi (zD _)))
      (zd (ye (zu zcH (pm Gn Lv.of T.cB hr (pv 0) (za zi zf)) zi (zD _)) (zg (zY Lv.of (by rfl) T.gN T.xN)) zH)
      (zd (ye (zu jk (zt jh (pv 1) (pv 2)) (zM (by rfl) hL rL) (zD _)) (zg (zY Lv.of (by rfl) T.gT T.xT)) zH)
      (zg (zB (pmk GH Lv.of hr (za (pv 1) (za (pv 2) (za (pv 3) zf)))))))))), ?_⟩
    unfold zbj at k
    obtain ⟨dx, fs, e1, e2⟩ := hb.meth (m := "number")
    refine ⟨_, rfl, B.p, dx, fs, rfl, e1, e2, B, bs, 14, rfl, by decide, hb, k.bind fun w1 bs1 v1 H1 hm1 hb1 kp1 hv1 k1 => ?_⟩
    cases hv1
    have hw1 : w1 < 2 ^ 14 := ya hm1
    refine ⟨_, _, rfl, rfl, ?_⟩
    dsimp -proj only
    rw [show (w1 : Int) + 1 = ((w1 + 1 : Nat) : Int) by omega]
    obtain ⟨dx2, fs2, e3, e4⟩ := hb1.meth (m := "number")
    refine ⟨_, rfl, B.p, dx2, fs2, rfl, e3, e4, B, bs1, 14, rfl, by decide, hb1, k1.bind fun h1 bs2 v2 H2 hm2 hb2 kp2 hv2 k2 => ?_⟩
    cases hv2
    have hh1 : h1 < 2 ^ 14 := ya hm2
    refine ⟨_, _, rfl, rfl, ?_⟩
    dsimp -proj only
    rw [show (h1 : Int) + 1 = ((h1 + 1 : Nat) : Int) by omega]
    obtain ⟨dx3, fs3, e5, e6⟩ := hb2.meth (m := "bit")
    refine ⟨_, rfl, B.p, dx3, fs3, rfl, e5, e6, B, bs2, rfl, hb2, k2.bind fun al bs3 v3 H3 hm3 hb3 kp3 hv3 k3 => ?_⟩
    cases hv3
    refine ⟨rfl, ?_⟩
    have eal : decide (nat al = V.int 1) = decide (al = 1) := by
      by_cases h : al = 1
      . rw [decide_eq_true h, decide_eq_true (by rw [h]; rfl)]
      . rw [decide_eq_false h, decide_eq_false (fun z => h (by have := V.int.inj z; omega))]
    obtain ⟨dx4, fs4, e7, e8⟩ := hb3.meth (m := "number")
    refine ⟨_, rfl, B.p, dx4, fs4, rfl, e7, e8, B, bs3, 3, rfl, by decide, hb3, k3.bind fun vv bs4 v4 H4 hm4 hb4 kp4 hv4 k4 => ?_⟩
    cases hv4
    refine ⟨rfl, _, rfl, yC (fun e => ?_) (fun e => ?_)⟩
    . refine k4.need.2 ?_ _
      rw [beq_eq_false_iff_ne]
      intro z
      have e' : (!decide (nat vv = V.int 0)) = true := e
      rw [decide_eq_true (by rw [z]; rfl)] at e'
      cases e'
    . have hv0 : vv = 0 := by
        refine Classical.byContradiction fun z => e ?_
        show (!decide (nat vv = V.int 0)) = true
        rw [decide_eq_false (fun y => z (by have := V.int.inj y; omega))]
        rfl
      have k5 := (k4.need.1 (by rw [hv0]; rfl)).pure hb4
      have em : ((w1 + 1 : Nat) : Int) * ((h1 + 1 : Nat) : Int) = (((w1 + 1) * (h1 + 1) : Nat) : Int) := (Int.natCast_mul _ _).symm
      refine ⟨_, rfl, _, rfl, _, _, rfl, rfl, .inl ⟨by omega, by omega⟩, _, _, rfl, rfl, _, rfl, yC (fun g => ?_) (fun g => ?_)⟩
      . have g' : (1048576 : Int) < ((w1 + 1 : Nat) : Int) * ((h1 + 1 : Nat) : Int) := of_decide_eq_true g
        rw [em] at g'
        exact k5.1 (by show (1048576 : Nat) < (w1 + 1) * (h1 + 1); omega) _
      . have g' : ¬ (1048576 : Int) < ((w1 + 1 : Nat) : Int) * ((h1 + 1 : Nat) : Int) := fun z => g (decide_eq_true z)
        rw [em] at g'
        refine ⟨_, rfl, _, rfl, _, rfl, ?_⟩
        intro p dxp hp hdxp hne
        refine ⟨p, dxp, w1 + 1, h1 + 1, _, rfl, zb, fun H5 e5' kp5 => ⟨rfl, ?_⟩⟩
        have sm : zQ H4 H5 := zQ.made hp hdxp fun b o e ne => kp5 b o e (by simpa using ne)
        refine k5.2 (by show ¬ (1048576 : Nat) < (w1 + 1) * (h1 + 1); omega) p H5 sm ⟨dxp, ?_⟩
        rw [e5']
        show some (HO.ins t.CH dxp (hdF (w1 + 1) (h1 + 1) (.bl (decide (nat al = V.int 1))))) = _
        rw [eal]
def ze2 (K : PySem.W.Frag) (t : Ad) : Sp := fun vs H Q E => ∃ (d : Addr) (b : List Nat), vs = [.ref d] /\ SqL K H d (zm b) /\ (∀ c ∈ b, c < 256) /\ b.length <= 100000 /\ (yE b = none -> ∀ H', E (.ref t.CN) none H') /\
  ∀ c, yE b = some c -> (MOSTELEMENTS < c.1.1 * c.1.2.1 -> ∀ H', E (.ref t.CT) none H') /\ (¬ MOSTELEMENTS < c.1.1 * c.1.2.1 -> ∀ a H', zQ H H' -> zgT t H' a c -> Q (.ref a) H')
theorem wG : zq ["data", "bits", "head", "transforms", "colours"] ["data"] (zj zhA) := by trivial
theorem zik {f : Addr} {fd : FuncData} (F : Fun K "read_contents" "read_contents" zhA f fd) (T : Tx K mg t) (T2 : Tx2 K mg t) (Gf : zE P w K mg base 3 "bytes_of_bits" ["data"] (za5 K t)) (GB : yd P w K mg base 1 t.CB "Bits" ["self", "octets"] (zaB t)) (Gh : zE P w K mg base 3 "read_head" ["bits"] (zeu t))
    (Gt : zE P w K mg base 12 "read_transforms" ["bits", "width", "height"] (vQ t)) (Gp : zE P w K mg base 11 "read_grouped_picture" ["bits", "width", "height"] (jQ t)) (Gl : zI P w K mg base 1 t.CB "left" ["self"] (zen t)) (GA : yd P w K mg base 1 t.CA "Contents" ["self", "head", "transforms", "colours"] (zba t)) :
    yg P w K mg base (CXe P w) 13 f fd ["data"] (ze2 K t) := by
  refine F.okE wG (fun vs H Q E h => ?_) (fun cdv A outer s H vs Q E hr h => ?_)
  . obtain ⟨d, b, rfl, _⟩ := h
    rfl
  . obtain ⟨d, b, rfl, hS, hb, hlen, kn, kz⟩ := h
    have hr1 : yp 1 _ := hr.mono (by decide)
    have hr2 : yp 2 _ := hr.mono (by decide)
    have hr3 : yp 3 _ := hr.mono (by decide)
    have hr11 : yp 11 _ := hr.mono (by decide)
    refine ⟨_, zd (zw (i := 1) wG.nd rfl (Or.inl rfl) (pmk GB Lv.of hr2 (za (pd Gf Lv.of hr3 (za (pv 0) zf)) zf)))
      (zd (zw (i := 2) wG.nd rfl (Or.inl rfl) (pd Gh Lv.of hr3 (za (pv 1) zf)))
      (zd (zw (i := 3) wG.nd rfl (Or.inl rfl) (pd Gt Lv.of hr (za (pv 1) (za (zx (pv 2) rfl) (za (zx (pv 2) rfl) zf)))))
      (zd (zw (i := 4) wG.nd rfl (Or.inl rfl) (pd Gp Lv.of hr11 (za (pv 1) (za (zx (pv 3) rfl) (za (zx (pv 2) rfl) zf)))))
      (zd (ye (zu zf3 (pm0 Gl Lv.of T.cB hr1 (pv 1)) zi (zD _)) (zg (zY Lv.of (by rfl) T.gN T.xN)) zH)
      (zg (zB (pmk GA Lv.of hr2 (za (pv 2) (za (pv 3) (za (pv 4) zf)))))))))), ?_⟩
    refine ⟨_, rfl, d, b, rfl, hS, hb, fun ok o H1 s1 ho hH1 => ?_, fun nok => kn (by unfold yE; rw [if_neg nok])⟩
    have hpl : (yl b).length <= 100000 := by
      unfold yl
      rw [List.length_take, List.length_drop]
      omega
    have hpb : ∀ c ∈ yl b, c < 256 := fun c hc => hb c (List.mem_of_mem_drop (List.mem_of_mem_take hc))
    intro p dxp hp hdxp hne
    have neo : o ≠ p := zc hH1 hp
    have neod : o ≠ dxp := zc hH1 hdxp
    refine ⟨p, o, dxp, yl b, rfl, zb, by rw [zh neo, zh neod]; exact hH1, hpb, hpl, fun H3 hb3 kp3 => ⟨rfl, ?_⟩⟩
    have sm3 : zQ H1 H3 := zQ.made hp hdxp fun b o e ne => kp3 b o e (by simpa using ne)
    have hfresh : H p = none := s1.free hp
    have kr : Run t E ⟨p, o, yl b⟩ H3 (fun c _ H' => (MOSTELEMENTS < c.1.1 * c.1.2.1 -> ∀ H', E (.ref t.CT) none H') /\ (¬ MOSTELEMENTS < c.1.1 * c.1.2.1 -> ∀ a H'', zQ H' H'' -> zgT t H'' a c -> Q (.ref a) H'')) (vq (bitsOf (yl b))) := by
      have hres : yE b = (vq (bitsOf (yl b))).map (fun x => x.1) := by unfold yE; rw [if_pos ok]
      cases hm : vq (bitsOf (yl b)) with
      | none => exact kn (by rw [hres, hm]; rfl)
      | some x =>
        obtain ⟨c, bs'⟩ := x
        obtain ⟨z1, z2⟩ := kz c (by rw [hres, hm]; rfl)
        refine fun H' hb' kp' => ⟨z1, fun nm a H'' sm'' hc => z2 nm a H'' (fun x u e => sm'' x u ?_) hc⟩
        refine kp' x u (sm3 x u (s1 x u e)) ?_
        intro z
        rw [List.mem_singleton.mp z, hfresh] at e
        cases e
    rw [zif] at kr
    refine ⟨_, rfl, ⟨p, o, yl b⟩, _, rfl, hb3, kr.mid.imp fun s bs1 H4 hm1 hb4 kp4 k4 => ?_⟩
    obtain ⟨w1, h1, al⟩ := s
    have hwh : 0 < w1 /\ 0 < h1 := by
      unfold zbj at hm1
      obtain ⟨x1, _, _, hm1⟩ := bind_some hm1
      obtain ⟨x2, _, _, hm1⟩ := bind_some hm1
      obtain ⟨x3, _, _, hm1⟩ := bind_some hm1
      obtain ⟨x4, _, _, hm1⟩ := bind_some hm1
      obtain ⟨x5, _, _, hm1⟩ := bind_some hm1
      have := congrArg Prod.fst (Option.some.inj hm1)
      have h1' : x1 + 1 = w1 := congrArg (fun z => z.1) this
      have h2' : x2 + 1 = h1 := congrArg (fun z => z.2.1) this
      omega
    dsimp only at k4
    refine ⟨fun big => ?_, fun nbig ha H5 s5 hha => ?_⟩
    . rw [if_pos big] at k4
      exact (k4.pure hb4).1 big
    . dsimp only at nbig hha
      rw [if_neg nbig] at k4
      have hle : w1 * h1 <= 2 ^ 20 := by
        have : ¬ (1048576 : Nat) < w1 * h1 := nbig
        omega
      have hb5 := hb4.same s5
      have k5 := k4.shift (zy.same s5 _)
      obtain ⟨hdx, hha⟩ := hha
      dsimp only at hha
      refine ⟨_, rfl, _, rfl, ha, t.CH, hdx, _, _, rfl, hha, T2.cH, T2.hW, zi3 _ _ _, _, rfl, ha, t.CH, hdx, _, _, rfl, hha, T2.cH, T2.hH, zhZ _ _ _, ⟨p, o, yl b⟩, bs1, w1, h1, rfl, hwh.1, hwh.2, hle, hb5, k5.bind fun r bs6 v6 H6 hm6 hb6 kp6 hv6 k6 => ?_⟩
      obtain ⟨r1, w2⟩ := r
      obtain ⟨Fa, had, as, rfl, FA, sts, tok, hw2e, hw2, hw21⟩ := hv6
      dsimp only at FA sts tok hw2e hw2 hw21 k6
      have hha6 : H6 ha = some (.ins t.CH hdx (hdF w1 h1 (.bl (decide (al = 1))))) := kp6.ins hb5 hha (by decide +kernel)
      obtain ⟨fdx, fin⟩ := FA.ins
      refine ⟨_, rfl, _, rfl, Fa.p, t.CF, fdx, _, _, rfl, fin, T2.cF, T2.fW, zcL _ _ _ _, _, rfl, ha, t.CH, hdx, _, _, rfl, hha6, T2.cH, T2.hH, zhZ _ _ _, ⟨p, o, yl b⟩, bs6, w2, h1, rfl, hw2, hwh.2, Nat.le_trans (Nat.mul_le_mul_right _ hw21) hle, hb6, k6.bind fun l bs7 v7 H7 hm7 hb7 kp7 hv7 k7 => ?_⟩
      obtain ⟨la, rfl, hla, hll, hok, nla⟩ := hv7
      have hha7 : H7 ha = some (.ins t.CH hdx (hdF w1 h1 (.bl (decide (al = 1))))) := kp7.ins hb6 hha6 (by decide +kernel)
      have FA7 := FA.kept hb6 kp7
      have sts7 : yk t H7 w1 h1 as r1 := sts.kept hb6 kp7
      have k8 : Run t E ⟨p, o, yl b⟩ H7 _ ((need (decide (bs7.length < 8)) >>= fun _ => pure ((w1, h1, al), (r1, l))) bs7) := k7
      obtain ⟨dx8, fs8, e1, e2⟩ := hb7.meth (m := "left")
      refine ⟨_, rfl, p, dx8, fs8, rfl, e1, e2, ⟨p, o, yl b⟩, bs7, rfl, hb7, _, _, rfl, rfl, _, rfl, yC (fun g => ?_) (fun g => ?_)⟩
      . have g' : (8 : Int) <= ((bs7.length : Nat) : Int) := of_decide_eq_true g
        exact k8.need.2 (decide_eq_false (by omega)) _
      . have g' : ¬ (8 : Int) <= ((bs7.length : Nat) : Int) := fun z => g (decide_eq_true z)
        have k9 := ((k8.need.1 (decide_eq_true (by omega))).pure hb7).2 nbig
        refine ⟨_, rfl, _, rfl, _, rfl, ?_⟩
        intro pa dxa hpa hdxa hnea
        refine ⟨pa, dxa, ha, Fa.p, la, rfl, zb, fun H9 e9 kp9 => ⟨rfl, ?_⟩⟩
        have sm9 : zQ H7 H9 := zQ.made hpa hdxa fun b o e ne => kp9 b o e (by simpa using ne)
        refine k9 pa H9 sm9 ⟨⟨dxa, ha, Fa, had, as, la, e9, ⟨hdx, sm9 _ _ hha7⟩, ?_, sts7.same sm9, sm9 _ _ hla⟩, tok, ?_, hok, hwh.1, hwh.2⟩
        . rw [hw2e] at FA7
          exact FA7.same sm9
        . show l.length = kT w1 r1 * h1
          rw [hll, hw2e]
end
end Lk
end
section
namespace Lk
open PySem PySem.Spec PyProof.Rows L2
open Sn15 (D bits bitsOf symbol Px Group up need MOSTELEMENTS)
abbrev zh7 : Stmt := top 82
theorem ziA {X : Cx} {K : PySem.W.Frag} {e : Expr} {ta : TE} {f : Str} {pos : Pos} (hK : X.K = K) (he : PE X e ta) (hb : attributeBase e f X.env (eval e X.env) = eval e X.env) : PE X (.Attribute e f pos) (zke K ta f) := by
  subst hK
  exact zx he hb
section
variable {P : Program} {w : World} {K : PySem.W.Frag} {mg : Str -> Option Value} {base : Heap} {t : Ad}
def zb7 (K : PySem.W.Frag) : Sp := fun vs H Q _ => ∃ (most : Int) (d : Addr) (b : List Nat), vs = [.int most, .ref d] /\ SqL K H d (zm b) /\ (∀ c ∈ b, c < 256) /\ b.length <= 100000 /\ ∀ la H', H' la = some (.lst ((wd b).map V.int)) -> Q (.ref la) H'
theorem zgI : zq ["most", "data", "head"] ["most", "data"] (zj zh7) := by trivial
theorem zic {f : Addr} {fd : FuncData} (F : Fun K "look" "look" zh7 f fd) (T : Tx K mg t) (T2 : Tx2 K mg t) (Gk : zE P w K mg base 13 "read_contents" ["data"] (ze2 K t))
    (x11 : PySem.W.exmOne K (.ref t.CN) (.ref t.CN) = some true) (x21 : PySem.W.exmOne K (.ref t.CT) (.ref t.CN) = some false) (x22 : PySem.W.exmOne K (.ref t.CT) (.ref t.CT) = some true) : yg P w K mg base (CXe P w) 14 f fd ["most", "data"] (zb7 K) := by
  obtain ⟨u3, h3, r3⟩ := T2.kNSF
  obtain ⟨u4, h4, r4⟩ := T2.kTOO
  refine F.okE zgI (fun vs H Q E h => ?_) (fun cdv A outer s H vs Q E hr h => ?_)
  . obtain ⟨m, d, b, rfl, _⟩ := h
    rfl
  . obtain ⟨m, d, b, rfl, hS, hb, hlen, k⟩ := h
    unfold wd at k
    refine ⟨_, zd (zg1 (E := fun C _ _ => (C = .ref t.CN /\ yE b = none) \/ (C = .ref t.CT /\ ∃ c, yE b = some c /\ MOSTELEMENTS < c.1.1 * c.1.2.1)) rfl rfl (by rfl) T.gN (by rfl) T.gT x11 x21 x22
      (fun pn => zg (zw (i := 2) zgI.nd rfl (Or.inl rfl) (ziA (K := K) rfl (pdp Gk zfo hr (za (pv 1) zf)) rfl)))
      (fun pn e => zg (zB (yh (za (zM (by rfl) h3 r3) zf))))
      (fun pn e => zg (zB (yh (za (zM (by rfl) h4 r4) zf)))))
      (zg (zB (yh (za zi (za (zx (pv 2) rfl) (za (zx (pv 2) rfl) zf)))))), ?_, ?_⟩
    . refine ⟨_, rfl, d, b, rfl, hS, hb, hlen, fun e _ => .inl ⟨rfl, e⟩, fun c e => ⟨fun big _ => .inr ⟨rfl, c, e, big⟩, fun nbig a H' sm hc => ?_⟩⟩
      rw [e] at k
      have k2 : ∀ la H', H' la = some (.lst ((if MOSTELEMENTS < c.1.1 * c.1.2.1 then [-4] else [0, (c.1.1 : Int), (c.1.2.1 : Int)]).map V.int)) -> Q (.ref la) H' := k
      rw [if_neg nbig] at k2
      obtain ⟨dx, ha, Fa, had, as, la, e1, ⟨hdx, e2⟩, _⟩ := hc.ex
      refine ⟨a, t.CA, dx, _, _, rfl, e1, T2.cA, T2.aH, zkp _ _ _, ?_⟩
      refine ⟨_, rfl, ha, t.CH, hdx, _, _, rfl, e2, T2.cH, T2.hW, zi3 _ _ _, _, rfl, ha, t.CH, hdx, _, _, rfl, e2, T2.cH, T2.hH, zhZ _ _ _, (by show 3 <= sizeLine; decide), fun p hp => k2 p _ ?_⟩
      rw [zb]
      rfl
    . rintro C H' σ' (⟨rfl, e⟩ | ⟨rfl, c, e, big⟩)
      . refine .inl ⟨rfl, (by show 1 <= sizeLine; decide), fun p hp => ?_⟩
        rw [e] at k
        exact k p _ zb
      . refine .inr ⟨rfl, (by show 1 <= sizeLine; decide), fun p hp => ?_⟩
        rw [e] at k
        have k2 : ∀ la H', H' la = some (.lst ((if MOSTELEMENTS < c.1.1 * c.1.2.1 then [-4] else [0, (c.1.1 : Int), (c.1.2.1 : Int)]).map V.int)) -> Q (.ref la) H' := k
        rw [if_pos big] at k2
        exact k2 p _ zb
end
end Lk
end
section
namespace Lk
open PySem PySem.Spec PyProof.Rows L2
structure xu (K : PySem.W.Frag) (x : Str) (st : Stmt) : Prop where
  ex : ∃ f fd, PySem.W.nsIn K mainGlobals x = some (some (.ref f)) /\ Fun K x x st f fd
theorem yr {K : PySem.W.Frag} {x : Str} {st : Stmt} {f : Addr} {oc : Value} {od an : Option Addr} {osl : Array (Option Value)} {kV doc pm cdv ct : Value} (a : PySem.W.nsIn K mainGlobals x = some (some (.ref f)))
    (l : K.lookup f = some ⟨oc, od, .func (PySem.W.fnOf x x (x9 st) (xl st) (zj st) .none kV doc pm an cdv ct), osl⟩) (c : PySem.W.codeIn K cdv x = true) (k : PySem.W.keepIn K (.ref f) = true) : xu K x st := ⟨_, _, a, ⟨_, _, _, _, _, _, _, _, _, rfl, l, c⟩, k⟩
structure qV (K : PySem.W.Frag) (C : Addr) (m qual : Str) (st : Stmt) : Prop where
  ex : ∃ f fd, zi4 K C m f /\ Fun K m qual st f fd
theorem yV {K : PySem.W.Frag} {C : Addr} {m qual : Str} {st : Stmt} {f : Addr} {oc : Value} {od an : Option Addr} {osl : Array (Option Value)} {kV doc pm cdv ct : Value} (a : PySem.W.findIn K (.ref C) m = some (some (.ref f))) (i : PySem.W.isFn K (.ref f) = true)
    (l : K.lookup f = some ⟨oc, od, .func (PySem.W.fnOf m qual (x9 st) (xl st) (zj st) .none kV doc pm an cdv ct), osl⟩) (c : PySem.W.codeIn K cdv qual = true) (k : PySem.W.keepIn K (.ref f) = true) : qV K C m qual st := ⟨_, _, ⟨a, i, k⟩, ⟨_, _, _, _, _, _, _, _, _, rfl, l, c⟩, k⟩
structure zbY (K : PySem.W.Frag) (x : Str) (C : Addr) : Prop where
  nm : PySem.W.nsIn K mainGlobals x = some (some (.ref C))
  cl : Cls K C
  mks : PySem.W.makesIn K C = true
  kp : PySem.W.keepIn K (.ref C) = true
theorem xr {K : PySem.W.Frag} {x : Str} {C : Addr} (nm : PySem.W.nsIn K mainGlobals x = some (some (.ref C))) (pg : PySem.W.plainGet K C Str.empty = true) (hd : PySem.W.hasDictIn K C = true) (po : PySem.W.plainOver K C = true)
    (sa : PySem.W.findIn K (.ref C) "__setattr__" = some (some (.builtin "object.__setattr__"))) (mk : PySem.W.makesIn K C = true) (kp : PySem.W.keepIn K (.ref C) = true) : zbY K x C := ⟨nm, ⟨pg, hd, po, sa⟩, mk, kp⟩
structure yW (K : PySem.W.Frag) (x : Str) (i : Int) : Prop where
  ex : ∃ t, PySem.W.nsIn K mainGlobals x = some (some (.int i t))
theorem yB {K : PySem.W.Frag} {x : Str} {i : Int} {t : Tok} (a : PySem.W.nsIn K mainGlobals x = some (some (.int i t))) : yW K x i := ⟨t, a⟩
inductive ze (K : PySem.W.Frag) : List Value -> List (Int × Int) -> Prop
  | nil : ze K [] []
  | cons {b : Addr} {bs : List Value} {x y : Int} {ps : List (Int × Int)} {od : Option Addr} {tx ty : Tok} {n : Nat} {sl : Array (Option Value)} (l : K.lookup b = some ⟨.type "tuple", od, .seq #[.int x tx, .int y ty] n, sl⟩) (r : ze K bs ps) : ze K (.ref b :: bs) ((x, y) :: ps)
theorem ze.refs {K : PySem.W.Frag} {vs : List Value} {ps : List (Int × Int)} (h : ze K vs ps) : ∃ as : List Addr, vs = as.map Value.ref /\ as.length = ps.length /\ ∀ (i : Nat) (b : Addr), as[i]? = some b -> ∃ x y : Int, ps[i]? = some (x, y) /\ ∀ H, SqT K H b [.int x, .int y] := by
  induction h with
  | nil => exact ⟨[], rfl, rfl, fun i b e => by simp at e⟩
  | @cons b bs x y ps od tx ty n sl l r ih =>
    obtain ⟨as, e1, e2, e3⟩ := ih
    refine ⟨b :: as, by rw [e1]; rfl, by rw [List.length_cons, List.length_cons, e2], fun i b' e => ?_⟩
    cases i with
    | zero =>
      have eb : b = b' := Option.some.inj e
      subst eb
      exact ⟨x, y, rfl, fun H => .inr ⟨_, _, n, l, rfl, rfl, (by show 2 <= sizeLine; decide), .cons ⟨tx, rfl⟩ (.cons ⟨ty, rfl⟩ .nil)⟩⟩
    | succ j => exact e3 j b' e
theorem zfr : Sn15.NEAR = [(0, 1), (1, 0), (1, 1), (-1, 1), (0, 2), (2, 0), (1, 2), (-1, 2), (2, 1), (-2, 1), (2, 2), (-2, 2), (0, 3), (3, 0), (1, 3), (-1, 3), (3, 1), (-3, 1), (2, 3), (-2, 3), (3, 2), (-3, 2), (0, 4), (4, 0), (1, 4), (-1, 4), (4, 1), (-4, 1), (3, 3), (-3, 3), (2, 4), (-2, 4), (4, 2), (-4, 2), (0, 5), (3, 4), (-3, 4), (4, 3), (-4, 3), (5, 0), (1, 5), (-1, 5), (5, 1), (-5, 1), (2, 5), (-2, 5), (5, 2), (-5, 2), (4, 4), (-4, 4), (3, 5), (-3, 5), (5, 3), (-5, 3), (0, 6), (6, 0), (1, 6), (-1, 6), (6, 1), (-6, 1), (2, 6), (-2, 6), (6, 2), (-6, 2), (4, 5), (-4, 5), (5, 4), (-5, 4), (3, 6), (-3, 6), (6, 3), (-6, 3), (0, 7), (7, 0), (1, 7), (-1, 7), (5, 5), (-5, 5), (7, 1), (-7, 1), (4, 6), (-4, 6), (6, 4), (-6, 4), (2, 7), (-2, 7), (7, 2), (-7, 2), (3, 7), (-3, 7), (7, 3), (-7, 3), (5, 6), (-5, 6), (6, 5), (-6, 5), (8, 0), (4, 7), (-4, 7), (7, 4), (-7, 4), (8, 1), (8, 2), (6, 6), (-6, 6), (8, 3), (5, 7), (-5, 7), (7, 5), (-7, 5), (8, 4), (6, 7), (-6, 7), (7, 6), (-7, 6), (8, 5), (7, 7), (-7, 7), (8, 6), (8, 7)] := rfl
theorem wK : ∀ as : List Addr, z7 (as.map V.ref) (as.map Value.ref)
  | [] => .nil
  | a :: r => .cons rfl (wK r)
section
variable {P : Program} {w : World} {K : PySem.W.Frag} {mg : Str -> Option Value} {base h : Heap} {x m qual : Str} {st : Stmt} {ps : List Str} {k : Nat} {sp : Sp} {C : Addr}
theorem yW.glob {i : Int} (N : yW K x i) (X : K.In h) (G : h.Ns mainGlobals mg) : ∃ u, mg x = some u /\ yc (.int i) u := by
  obtain ⟨t, a⟩ := N.ex
  exact ⟨_, PySem.W.mg_of X G a, t, rfl⟩
theorem xu.ok (F : xu K x st) (X : K.In h) (G : h.Ns mainGlobals mg) (hb : ∀ (kV doc pm : Value) (an : Option Addr) (cdv ct : Value) (us : List Value), us.length = ps.length -> bindArgs (PySem.W.fnOf x x (x9 st) (xl st) (zj st) .none kV doc pm an cdv ct) ⟨us, []⟩ = pure (ps.zip us))
    (ok : ∀ {f : Addr} {fd : FuncData}, Fun K x x st f fd -> yg P w K mg base (CXe P w) k f fd ps sp) : zE P w K mg base k x ps sp := by
  obtain ⟨f, fd, a, F⟩ := F.ex
  exact ⟨f, fd, ok F, PySem.W.mg_of X G a, F.kp, F.binds hb⟩
theorem qV.ok (F : qV K C m qual st) (hb : ∀ (kV doc pm : Value) (an : Option Addr) (cdv ct : Value) (us : List Value), us.length = ps.length -> bindArgs (PySem.W.fnOf m qual (x9 st) (xl st) (zj st) .none kV doc pm an cdv ct) ⟨us, []⟩ = pure (ps.zip us))
    (ok : ∀ {f : Addr} {fd : FuncData}, Fun K m qual st f fd -> yg P w K mg base (CXe P w) k f fd ps sp) : zI P w K mg base k C m ps sp := by
  obtain ⟨f, fd, M, F⟩ := F.ex
  exact ⟨f, fd, ok F, M, F.binds hb⟩
theorem qV.make (F : qV K C "__init__" qual st) (cl : zbY K x C) (X : K.In h) (G : h.Ns mainGlobals mg) (hb : ∀ (kV doc pm : Value) (an : Option Addr) (cdv ct : Value) (us : List Value), us.length = ps.length -> bindArgs (PySem.W.fnOf "__init__" qual (x9 st) (xl st) (zj st) .none kV doc pm an cdv ct) ⟨us, []⟩ = pure (ps.zip us))
    (ok : ∀ {f : Addr} {fd : FuncData}, Fun K "__init__" qual st f fd -> yg P w K mg base (CXe P w) k f fd ps sp) : yd P w K mg base k C x ps sp := by
  obtain ⟨f, fd, M, F⟩ := F.ex
  exact ⟨⟨f, fd, ok F, ⟨cl.mks, M.at_, M.fn, cl.kp⟩, F.binds hb⟩, PySem.W.mg_of X G cl.nm⟩
end
theorem zjr {P : Program} {w : World} {K : PySem.W.Frag} {h : Heap} {mg : Str -> Option Value} {fa : Addr} {CN CT CB CV CC CS CG CP CK CE CD CF CH CA : Addr} {odO odA : Option Addr} {itsO itsA : Array Value} {zO zA : Nat} {slO slA : Array (Option Value)} {aO aA : Addr} (X : K.In h) (G : h.Ns mainGlobals mg) (hfa : mg "look" = some (.ref fa))
    (nN : PySem.W.nsIn K mainGlobals "NoSuchFile" = some (some (.ref CN))) (xN : PySem.W.excIn K CN zgX "Exception.__new__" = true) (nT : PySem.W.nsIn K mainGlobals "TooLarge" = some (some (.ref CT))) (xT : PySem.W.excIn K CT zgX "Exception.__new__" = true) (x11 : PySem.W.exmOne K (.ref CN) (.ref CN) = some true) (x21 : PySem.W.exmOne K (.ref CT) (.ref CN) = some false) (x22 : PySem.W.exmOne K (.ref CT) (.ref CT) = some true) (cCB : zbY K "Bits" CB) (cCV : zbY K "Canvas" CV) (cCC : zbY K "Code" CC) (cCS : zbY K "Squares" CS) (cCG : zbY K "Groups" CG) (cCP : zbY K "Predictions" CP) (cCK : zbY K "Colours" CK) (cCE : zbY K "Greens" CE) (cCD : zbY K "Table" CD) (cCF : zbY K "Transforms" CF) (cCH : zbY K "Head" CH) (cCA : zbY K "Contents" CA) (iE : PySem.W.findIn K (.ref CE) "__init__" = some (some (.builtin "object.__init__"))) (n0 : PySem.W.findIn K (.ref CB) "octets" = some none) (n1 : PySem.W.findIn K (.ref CB) "place" = some none) (n2 : PySem.W.findIn K (.ref CB) "end" = some none) (n3 : PySem.W.findIn K (.ref CV) "width" = some none) (n4 : PySem.W.findIn K (.ref CV) "size" = some none) (n5 : PySem.W.findIn K (.ref CV) "colours" = some none) (n6 : PySem.W.findIn K (.ref CV) "depth" = some none) (n7 : PySem.W.findIn K (.ref CV) "cache" = some none) (n8 : PySem.W.findIn K (.ref CC) "words" = some none) (n9 : PySem.W.findIn K (.ref CC) "sole" = some none) (n10 : PySem.W.findIn K (.ref CS) "shift" = some none) (n11 : PySem.W.findIn K (.ref CS) "across" = some none) (n12 : PySem.W.findIn K (.ref CS) "colours" = some none) (n13 : PySem.W.findIn K (.ref CG) "squares" = some none) (n14 : PySem.W.findIn K (.ref CG) "groups" = some none) (n15 : PySem.W.findIn K (.ref CP) "width" = some none) (n16 : PySem.W.findIn K (.ref CP) "squares" = some none) (n17 : PySem.W.findIn K (.ref CK) "width" = some none) (n18 : PySem.W.findIn K (.ref CK) "squares" = some none) (n19 : PySem.W.findIn K (.ref CD) "width" = some none) (n20 : PySem.W.findIn K (.ref CD) "shift" = some none) (n21 : PySem.W.findIn K (.ref CD) "colours" = some none) (n22 : PySem.W.findIn K (.ref CF) "width" = some none) (n23 : PySem.W.findIn K (.ref CF) "height" = some none) (n24 : PySem.W.findIn K (.ref CF) "kinds" = some none) (n25 : PySem.W.findIn K (.ref CF) "steps" = some none) (n26 : PySem.W.findIn K (.ref CH) "width" = some none) (n27 : PySem.W.findIn K (.ref CH) "height" = some none) (n28 : PySem.W.findIn K (.ref CH) "alphas_count" = some none) (n29 : PySem.W.findIn K (.ref CA) "head" = some none) (n30 : PySem.W.findIn K (.ref CA) "transforms" = some none) (n31 : PySem.W.findIn K (.ref CA) "colours" = some none) (blen : PySem.W.nsIn K mainGlobals "len" = some none) (brange : PySem.W.nsIn K mainGlobals "range" = some none) (bmax : PySem.W.nsIn K mainGlobals "max" = some none) (bmin : PySem.W.nsIn K mainGlobals "min" = some none) (bsum : PySem.W.nsIn K mainGlobals "sum" = some none) (benumerate : PySem.W.nsIn K mainGlobals "enumerate" = some none) (bord : PySem.W.nsIn K mainGlobals "ord" = some none) (kSPREAD : yW K "SPREAD" 506832829) (kLOW : yW K "LOW_32" 4294967295) (kLONGEST : yW K "LONGEST" 15) (kFIRST : yW K "FIRST" 0) (kRED : yW K "RED" 1) (kBLUE : yW K "BLUE" 2) (kALPHA : yW K "ALPHA" 3) (kDISTANCE : yW K "DISTANCE" 4) (kPRED : yW K "PREDICTIONS" 0) (kCOL : yW K "COLOURS" 1) (kGRE : yW K "GREENS" 2) (kTAB : yW K "TABLE" 3) (kMODE : yW K "GREATEST_MODE" 13) (kSIG : yW K "SIGNATURE" 47) (kNSF : yW K "NO_SUCH_FILE" (-3)) (kTOO : yW K "TOO_LARGE" (-4)) (kLAR : yW K "LARGEST" 1048576) (kM1 : yW K "ALPHA_AND_GREEN" 4278255360) (kM2 : yW K "RED_AND_BLUE" 16711935) (gO : PySem.W.nsIn K mainGlobals "LENGTH_SYMBOLS" = some (some (.ref aO))) (lO : K.lookup aO = some ⟨.type "tuple", odO, .seq itsO zO, slO⟩) (vO : z7 (zm Sn15.ORDER) itsO.toList) (sO : itsO.size <= sizeLine) (gA : PySem.W.nsIn K mainGlobals "NEAR" = some (some (.ref aA))) (lA : K.lookup aA = some ⟨.type "tuple", odA, .seq itsA zA, slA⟩) (sA : itsA.size <= sizeLine) (pA : ze K itsA.toList Sn15.NEAR) (mBit : qV K CB "bit" "Bits.bit" zkv) (mNum : qV K CB "number" "Bits.number" za4) (mLeft : qV K CB "left" "Bits.left" zh4) (mB : qV K CB "__init__" "Bits.__init__" zdI) (mC : qV K CC "__init__" "Code.__init__" ze8) (mNext : qV K CC "next_symbol" "Code.next_symbol" zgY) (fCol : xu K "code_of_lengths" zjM) (mV : qV K CV "__init__" "Canvas.__init__" zeC) (mPut : qV K CV "put" "Canvas.put" zkj) (mPutC : qV K CV "put_cached" "Canvas.put_cached" zis) (mRep : qV K CV "repeat" "Canvas.repeat" zbv) (fVal : xu K "read_value" zeD) (fDist : xu K "distance_of" zg5) (fMost : xu K "read_most_symbols" ziD) (fRun : xu K "read_run" zkq) (fCofL : xu K "read_code_of_lengths" zgu) (fLens : xu K "read_lengths" zhu) (fShort : xu K "read_short_code" zdB) (fCode : xu K "read_code" zhN) (mS : qV K CS "__init__" "Squares.__init__" zd2) (mG : qV K CG "__init__" "Groups.__init__" zdd) (fGrpNo : xu K "group_number" zdt) (fDivUp : xu K "divided_up" zdR) (mColAt : qV K CS "colour_at" "Squares.colour_at" zfa) (mGrpAt : qV K CG "group_at" "Groups.group_at" zda) (fDepth : xu K "read_cache_depth" zdb) (fColour : xu K "read_colour" zbt) (fStep : xu K "read_step" zhw) (fColours : xu K "read_colours" wj) (fGroup : xu K "read_group" zeT) (fPlain : xu K "read_plain_picture" zef) (fSquares : xu K "read_squares" vT) (fGroups : xu K "read_groups" vI) (fGrouped : xu K "read_grouped_picture" vY) (fAdded : xu K "added" zfd) (mP : qV K CP "__init__" "Predictions.__init__" zek) (mK : qV K CK "__init__" "Colours.__init__" zdM) (mD : qV K CD "__init__" "Table.__init__" zea) (mPackW : qV K CD "packed_width" "Table.packed_width" zde) (fShiftFor : xu K "shift_for" jO) (fSums : xu K "running_sums" ziG) (fModes : xu K "read_modes" zdS) (fTable : xu K "read_table" zdu) (mF : qV K CF "__init__" "Transforms.__init__" zer) (mTake : qV K CF "take" "Transforms.take" ziz) (fTranss : xu K "read_transforms" za3) (fLetters : xu K "letters_stand" jr) (fSizeAt : xu K "size_at" zbk) (fNames : xu K "names_stand" zfb) (fFrame : xu K "bytes_of_bits" zdg) (mH : qV K CH "__init__" "Head.__init__" zd3) (mA : qV K CA "__init__" "Contents.__init__" ze0) (fHead : xu K "read_head" zhz) (fCont : xu K "read_contents" zhA) (fTop : xu K "look" zh7) :
    ∃ fd : FuncData, (∀ (s : Shared) (us : List Value), us.length = (["most", "data"] : List Str).length -> BindsTo s fd ⟨us, []⟩ ((["most", "data"] : List Str).zip us)) /\ ∀ base : Heap, K.In base -> base.Ns mainGlobals mg -> yg P w K mg base (CXe P w) 14 fa fd ["most", "data"] (zb7 K) := by
  obtain ⟨t, et⟩ : ∃ t : Ad, t = ⟨CN, CT, CB, CV, CC, CS, CG, 0, 0, CP, CK, CE, CD, CF, CH, CA⟩ := ⟨_, rfl⟩
  obtain rfl : CN = t.CN := by rw [et]
  obtain rfl : CT = t.CT := by rw [et]
  obtain rfl : CB = t.CB := by rw [et]
  obtain rfl : CV = t.CV := by rw [et]
  obtain rfl : CC = t.CC := by rw [et]
  obtain rfl : CS = t.CS := by rw [et]
  obtain rfl : CG = t.CG := by rw [et]
  obtain rfl : CP = t.CP := by rw [et]
  obtain rfl : CK = t.CK := by rw [et]
  obtain rfl : CE = t.CE := by rw [et]
  obtain rfl : CD = t.CD := by rw [et]
  obtain rfl : CF = t.CF := by rw [et]
  obtain rfl : CH = t.CH := by rw [et]
  obtain rfl : CA = t.CA := by rw [et]
  clear et
  obtain ⟨asA, eA, nA, qA⟩ := pA.refs
  have T : Tx K mg t := { xN := xN, gN := PySem.W.mg_of X G nN, xT := xT, gT := PySem.W.mg_of X G nT, cB := cCB.cl, cV := cCV.cl, cC := cCC.cl, cS := cCS.cl, cG := cCG.cl, nO := n0, nP := n1, nE := n2, vW := n3, vS := n4, vC := n5, vD := n6, vH := n7, nW := n8, nS := n9, sS := n10, sA := n11, sC := n12, gS := n13, gG := n14, len := PySem.W.mg_none_of X G blen, range := PySem.W.mg_none_of X G brange, max := PySem.W.mg_none_of X G bmax, min := PySem.W.mg_none_of X G bmin, sum := PySem.W.mg_none_of X G bsum, enum := PySem.W.mg_none_of X G benumerate, ord := PySem.W.mg_none_of X G bord, kSPREAD := kSPREAD.glob X G, kLOW := kLOW.glob X G, kLONGEST := kLONGEST.glob X G, kFIRST := kFIRST.glob X G, kRED := kRED.glob X G, kBLUE := kBLUE.glob X G, kALPHA := kALPHA.glob X G, kDISTANCE := kDISTANCE.glob X G, kORDER := ⟨aO, PySem.W.mg_of X G gO, fun H => .inr ⟨_, itsO, zO, lO, rfl, rfl, sO, vO⟩⟩, kNEAR := ⟨aA, asA, PySem.W.mg_of X G gA, fun H => .inr ⟨_, itsA, zA, lA, rfl, rfl, sA, by rw [eA]; exact wK asA⟩, nA, qA⟩ }
  have T2 : Tx2 K mg t := { kPRED := kPRED.glob X G, kCOL := kCOL.glob X G, kGRE := kGRE.glob X G, kTAB := kTAB.glob X G, kMODE := kMODE.glob X G, kSIG := kSIG.glob X G, kNSF := kNSF.glob X G, kTOO := kTOO.glob X G, kLAR := kLAR.glob X G, kM1 := kM1.glob X G, kM2 := kM2.glob X G, cP := cCP.cl, cK := cCK.cl, cE := cCE.cl, cD := cCD.cl, cF := cCF.cl, cH := cCH.cl, cA := cCA.cl, gE := PySem.W.mg_of X G cCE.nm, mE := cCE.mks, iE := iE, pE := cCE.kp, pW := n15, pS := n16, kW := n17, kS := n18, dW := n19, dS := n20, dC := n21, fW := n22, fH := n23, fK := n24, fS := n25, hW := n26, hH := n27, hA := n28, aH := n29, aT := n30, aC := n31 }
  obtain ⟨f, fd, a, F⟩ := fTop.ex
  have e := hfa.symm.trans (PySem.W.mg_of X G a)
  cases e
  refine ⟨fd, fun s us hu => ?_, fun base _ _ => ?_⟩
  . obtain ⟨oc, od, kV, doc, pm, an, cdv, ct, osl, rfl, lk, hcd⟩ := F.ex
    match us, hu with
    | [_, _], _ => exact .of_eq rfl
  . have gBit : zI P w K mg base 1 t.CB "bit" ["self"] (j0 t) := mBit.ok (fun _ _ _ _ _ _ us hl => match us, hl with | [_], _ => rfl) fun F => zjk F T
    have gNum : zI P w K mg base 2 t.CB "number" ["self", "width"] (yw t) := mNum.ok (fun _ _ _ _ _ _ us hl => match us, hl with | [_, _], _ => rfl) fun F => zeI F T gBit
    have gLeft : zI P w K mg base 1 t.CB "left" ["self"] (zen t) := mLeft.ok (fun _ _ _ _ _ _ us hl => match us, hl with | [_], _ => rfl) fun F => zh0 F T
    have gB : yd P w K mg base 1 t.CB "Bits" ["self", "octets"] (zaB t) := mB.make cCB X G (fun _ _ _ _ _ _ us hl => match us, hl with | [_, _], _ => rfl) fun F => zfW F T
    have gC : yd P w K mg base 1 t.CC "Code" ["self", "words", "sole"] (vU t) := mC.make cCC X G (fun _ _ _ _ _ _ us hl => match us, hl with | [_, _, _], _ => rfl) fun F => zga F T
    have gNext : zI P w K mg base 2 t.CC "next_symbol" ["self", "bits"] (ww t) := mNext.ok (fun _ _ _ _ _ _ us hl => match us, hl with | [_, _], _ => rfl) fun F => zha F T gBit
    have gCol : zE P w K mg base 3 "code_of_lengths" ["lengths"] (zgh t) := fCol.ok X G (fun _ _ _ _ _ _ us hl => match us, hl with | [_], _ => rfl) fun F => zju F T gC
    have gV : yd P w K mg base 1 t.CV "Canvas" ["self", "width", "height", "depth"] (wc t) := mV.make cCV X G (fun _ _ _ _ _ _ us hl => match us, hl with | [_, _, _, _], _ => rfl) fun F => zf8 F T
    have gPut : zI P w K mg base 1 t.CV "put" ["self", "colour"] (zd7 t) := mPut.ok (fun _ _ _ _ _ _ us hl => match us, hl with | [_, _], _ => rfl) fun F => ziR F T
    have gPutC : zI P w K mg base 2 t.CV "put_cached" ["self", "slot"] (zdh t) := mPutC.ok (fun _ _ _ _ _ _ us hl => match us, hl with | [_, _], _ => rfl) fun F => zg0 F T gPut
    have gRep : zI P w K mg base 2 t.CV "repeat" ["self", "length", "distance"] (vK t) := mRep.ok (fun _ _ _ _ _ _ us hl => match us, hl with | [_, _, _], _ => rfl) fun F => zdP F T gPut
    have gVal : zE P w K mg base 3 "read_value" ["bits", "symbol"] (za2 t) := fVal.ok X G (fun _ _ _ _ _ _ us hl => match us, hl with | [_, _], _ => rfl) fun F => zfM F T gNum
    have gDist : zE P w K mg base 1 "distance_of" ["value", "width"] ze7 := fDist.ok X G (fun _ _ _ _ _ _ us hl => match us, hl with | [_, _], _ => rfl) fun F => zh8 F T
    have gMost : zE P w K mg base 3 "read_most_symbols" ["bits", "size"] (zdH t) := fMost.ok X G (fun _ _ _ _ _ _ us hl => match us, hl with | [_, _], _ => rfl) fun F => zg9 F T gBit gNum
    have gRun : zE P w K mg base 3 "read_run" ["bits", "symbol", "last"] (zih t) := fRun.ok X G (fun _ _ _ _ _ _ us hl => match us, hl with | [_, _, _], _ => rfl) fun F => zjf F T gNum
    have gCofL : zE P w K mg base 4 "read_code_of_lengths" ["bits"] (zex t) := fCofL.ok X G (fun _ _ _ _ _ _ us hl => match us, hl with | [_], _ => rfl) fun F => zg8 F T gNum gCol
    have gLens : zE P w K mg base 5 "read_lengths" ["bits", "size"] (zeW t) := fLens.ok X G (fun _ _ _ _ _ _ us hl => match us, hl with | [_, _], _ => rfl) fun F => zil F T gNext gCofL gMost gRun
    have gShort : zE P w K mg base 3 "read_short_code" ["bits", "size"] (zay t) := fShort.ok X G (fun _ _ _ _ _ _ us hl => match us, hl with | [_, _], _ => rfl) fun F => zfZ F T gBit gNum gC
    have gCode : zE P w K mg base 6 "read_code" ["bits", "size"] (zc8 t) := fCode.ok X G (fun _ _ _ _ _ _ us hl => match us, hl with | [_, _], _ => rfl) fun F => zim F T gBit gShort gLens gCol
    have gS : yd P w K mg base 1 t.CS "Squares" ["self", "shift", "across", "colours"] (zaE t) := mS.make cCS X G (fun _ _ _ _ _ _ us hl => match us, hl with | [_, _, _, _], _ => rfl) fun F => zf0 F T
    have gG : yd P w K mg base 1 t.CG "Groups" ["self", "squares", "groups"] (vX t) := mG.make cCG X G (fun _ _ _ _ _ _ us hl => match us, hl with | [_, _, _], _ => rfl) fun F => zfm F T
    have gGrpNo : zE P w K mg base 1 "group_number" ["colour"] wn := fGrpNo.ok X G (fun _ _ _ _ _ _ us hl => match us, hl with | [_], _ => rfl) fun F => zgw F
    have gDivUp : zE P w K mg base 1 "divided_up" ["number", "shift"] vA := fDivUp.ok X G (fun _ _ _ _ _ _ us hl => match us, hl with | [_, _], _ => rfl) fun F => zfs F
    have gColAt : zI P w K mg base 1 t.CS "colour_at" ["self", "x", "y"] (zaZ t) := mColAt.ok (fun _ _ _ _ _ _ us hl => match us, hl with | [_, _, _], _ => rfl) fun F => zfI F T
    have gGrpAt : zI P w K mg base 2 t.CG "group_at" ["self", "x", "y"] (zax t) := mGrpAt.ok (fun _ _ _ _ _ _ us hl => match us, hl with | [_, _, _], _ => rfl) fun F => zfk F T gGrpNo gColAt
    have gDepth : zE P w K mg base 3 "read_cache_depth" ["bits"] (vx t) := fDepth.ok X G (fun _ _ _ _ _ _ us hl => match us, hl with | [_], _ => rfl) fun F => zfX F T gBit gNum
    have gColour : zE P w K mg base 3 "read_colour" ["bits", "green", "group"] (vd t) := fColour.ok X G (fun _ _ _ _ _ _ us hl => match us, hl with | [_, _, _], _ => rfl) fun F => zdn F T gNext
    have gStep : zE P w K mg base 4 "read_step" ["bits", "canvas", "group"] (zff t) := fStep.ok X G (fun _ _ _ _ _ _ us hl => match us, hl with | [_, _, _], _ => rfl) fun F => ziv F T gNext gPut gPutC gRep gVal gDist gColour
    have gColours : zE P w K mg base 5 "read_colours" ["bits", "canvas", "groups"] (xK t) := fColours.ok X G (fun _ _ _ _ _ _ us hl => match us, hl with | [_, _, _], _ => rfl) fun F => zcr F T gGrpAt gStep
    have gGroup : zE P w K mg base 7 "read_group" ["bits", "depth"] (v0 t) := fGroup.ok X G (fun _ _ _ _ _ _ us hl => match us, hl with | [_, _], _ => rfl) fun F => zfA F T gCode
    have gPlain : zE P w K mg base 8 "read_plain_picture" ["bits", "width", "height"] (vy t) := fPlain.ok X G (fun _ _ _ _ _ _ us hl => match us, hl with | [_, _, _], _ => rfl) fun F => zfT F T gDepth gGroup gG gV gColours
    have gSquares : zE P w K mg base 9 "read_squares" ["bits", "width", "height"] (xJ t) := fSquares.ok X G (fun _ _ _ _ _ _ us hl => match us, hl with | [_, _, _], _ => rfl) fun F => zcD F T gNum gDivUp gPlain gS
    have gGroups : zE P w K mg base 10 "read_groups" ["bits", "width", "height", "depth"] (vc t) := fGroups.ok X G (fun _ _ _ _ _ _ us hl => match us, hl with | [_, _, _, _], _ => rfl) fun F => zdX F T gBit gGroup gG gSquares gGrpNo
    have gGrouped : zE P w K mg base 11 "read_grouped_picture" ["bits", "width", "height"] (jQ t) := fGrouped.ok X G (fun _ _ _ _ _ _ us hl => match us, hl with | [_, _, _], _ => rfl) fun F => zcs F T gDepth gGroups gV gColours
    have gAdded : zE P w K mg base 1 "added" ["one", "other"] zaw := fAdded.ok X G (fun _ _ _ _ _ _ us hl => match us, hl with | [_, _], _ => rfl) fun F => zgt F T2
    have gP : yd P w K mg base 1 t.CP "Predictions" ["self", "width", "squares"] (xQ t.CP) := mP.make cCP X G (fun _ _ _ _ _ _ us hl => match us, hl with | [_, _, _], _ => rfl) fun F => zgf F T2
    have gK : yd P w K mg base 1 t.CK "Colours" ["self", "width", "squares"] (xQ t.CK) := mK.make cCK X G (fun _ _ _ _ _ _ us hl => match us, hl with | [_, _, _], _ => rfl) fun F => zfu F T2
    have gD : yd P w K mg base 1 t.CD "Table" ["self", "width", "shift", "colours"] (zaD t) := mD.make cCD X G (fun _ _ _ _ _ _ us hl => match us, hl with | [_, _, _, _], _ => rfl) fun F => zgs F T T2
    have gPackW : zI P w K mg base 2 t.CD "packed_width" ["self"] (zby t) := mPackW.ok (fun _ _ _ _ _ _ us hl => match us, hl with | [_], _ => rfl) fun F => zgz F T2 gDivUp
    have gShiftFor : zE P w K mg base 1 "shift_for" ["size"] qH := fShiftFor.ok X G (fun _ _ _ _ _ _ us hl => match us, hl with | [_], _ => rfl) fun F => zbs F
    have gSums : zE P w K mg base 2 "running_sums" ["colours"] zd9 := fSums.ok X G (fun _ _ _ _ _ _ us hl => match us, hl with | [_], _ => rfl) fun F => zhh F gAdded
    have gModes : zE P w K mg base 10 "read_modes" ["bits", "width", "height"] (zbq t) := fModes.ok X G (fun _ _ _ _ _ _ us hl => match us, hl with | [_, _, _], _ => rfl) fun F => zfJ F T T2 gSquares
    have gTable : zE P w K mg base 9 "read_table" ["bits", "width"] (zaL t) := fTable.ok X G (fun _ _ _ _ _ _ us hl => match us, hl with | [_, _], _ => rfl) fun F => zgd F T gNum gPlain gShiftFor gSums gD
    have gF : yd P w K mg base 1 t.CF "Transforms" ["self", "width", "height"] (zaS t) := mF.make cCF X G (fun _ _ _ _ _ _ us hl => match us, hl with | [_, _, _], _ => rfl) fun F => zfU F T2
    have gTake : zI P w K mg base 11 t.CF "take" ["self", "bits", "kind"] (zel t) := mTake.ok (fun _ _ _ _ _ _ us hl => match us, hl with | [_, _, _], _ => rfl) fun F => zh5 F T T2 gModes gSquares gTable gPackW gP gK
    have gTranss : zE P w K mg base 12 "read_transforms" ["bits", "width", "height"] (vQ t) := fTranss.ok X G (fun _ _ _ _ _ _ us hl => match us, hl with | [_, _, _], _ => rfl) fun F => ze1 F T T2 gBit gNum gTake gF
    have gLetters : zE P w K mg base 1 "letters_stand" ["data", "place", "letters"] (jT K) := fLetters.ok X G (fun _ _ _ _ _ _ us hl => match us, hl with | [_, _, _], _ => rfl) fun F => zcK F T
    have gSizeAt : zE P w K mg base 1 "size_at" ["data", "place"] (vi K) := fSizeAt.ok X G (fun _ _ _ _ _ _ us hl => match us, hl with | [_, _], _ => rfl) fun F => zd4 F
    have gNames : zE P w K mg base 2 "names_stand" ["data"] (zbd K) := fNames.ok X G (fun _ _ _ _ _ _ us hl => match us, hl with | [_], _ => rfl) fun F => zfp F gLetters
    have gFrame : zE P w K mg base 3 "bytes_of_bits" ["data"] (za5 K t) := fFrame.ok X G (fun _ _ _ _ _ _ us hl => match us, hl with | [_], _ => rfl) fun F => zfv F T T2 gNames gSizeAt
    have gH : yd P w K mg base 1 t.CH "Head" ["self", "width", "height", "alphas_count"] (zaW t) := mH.make cCH X G (fun _ _ _ _ _ _ us hl => match us, hl with | [_, _, _, _], _ => rfl) fun F => zfz F T2
    have gA : yd P w K mg base 1 t.CA "Contents" ["self", "head", "transforms", "colours"] (zba t) := mA.make cCA X G (fun _ _ _ _ _ _ us hl => match us, hl with | [_, _, _, _], _ => rfl) fun F => zgn F T2
    have gHead : zE P w K mg base 3 "read_head" ["bits"] (zeu t) := fHead.ok X G (fun _ _ _ _ _ _ us hl => match us, hl with | [_], _ => rfl) fun F => zhT F T T2 gBit gNum gH
    have gCont : zE P w K mg base 13 "read_contents" ["data"] (ze2 K t) := fCont.ok X G (fun _ _ _ _ _ _ us hl => match us, hl with | [_], _ => rfl) fun F => zik F T T2 gFrame gB gHead gTranss gGrouped gLeft gA
    exact zic F T T2 gCont x11 x21 x22
end Lk
end
section
namespace Lk
open PySem PySem.Spec PyProof.Rows L2
open PySem.W (Codec OpenSpec)
theorem zaX {r : OpenSpec} {k : Nat} {q : Program} {loose : List Str} {XP : (Str -> Option Value) -> Heap -> Prop} {YP : World -> Heap -> Prop} {d : DefRec} {K : Params -> PySem.W.Frag} {CX : World -> CXT} {ps : List Str} {sp : PySem.W.Frag -> Sp}
    (wl : r.wellSaid = true) (nd : d.params.defaults = []) (ln : r.args.length = ps.length) (ro : yp k callerA) (hK : ∀ (w : World) (h : Heap), YP w h -> (K w.params).In h)
    (F : ∀ (w : World) (mg : Str -> Option Value) (fa : Addr) (h : Heap), YP w h -> (K w.params).In h -> h.Ns mainGlobals mg -> mg d.name = some (.ref fa) -> ∃ fd : FuncData, (∀ (s : Shared) (us : List Value), us.length = ps.length -> BindsTo s fd ⟨us, []⟩ (ps.zip us)) /\ ∀ base : Heap, (K w.params).In base -> base.Ns mainGlobals mg -> yg r.prog w (K w.params) mg base (CX w) k fa fd ps (sp (K w.params)))
    (S : ∀ (K : PySem.W.Frag) (H : Hp) (xs : List V) (a : Codec.denoteAll r.args), zbi H -> Codec.withinAll r.args a = true -> Codec.app r.args r.asked a = true -> qD K H xs (Codec.encAll r.args a) -> sp K xs H (fun v H' => Dw K H' v (r.ret.enc (Codec.app r.args r.f a))) fun _ _ _ => False)
    (C : ∀ (w : World) (H : Hp) (s : Shared) (e : Value) (s' : Shared), CX w [] H s (fun _ _ _ => False) e s' -> False) : PySem.W.WalkOS q loose XP YP r d [] (fun f vs => PySem.call f vs) :=
  zac (sp := fun w => sp (K w.params)) wl nd ln ro hK F (fun w => S (K w.params)) C
theorem jK : ∀ l : List Int, (∀ z ∈ l, 0 <= z) -> l.map V.int = zm (l.map Int.toNat)
  | [], _ => rfl
  | z :: l, h => by
    have ih := jK l fun y hy => h y (List.mem_cons_of_mem _ hy)
    have hz := h z (List.mem_cons_self ..)
    show V.int z :: l.map V.int = V.int ((z.toNat : Nat) : Int) :: zm (l.map Int.toNat)
    rw [ih, Int.toNat_of_nonneg hz]
theorem zh3 (K : PySem.W.Frag) (H : Hp) (xs : List V) (a : Codec.denoteAll PySem.Challenge.rw_losslook_s01_look.args) (hO : zbi H) (hwi : Codec.withinAll PySem.Challenge.rw_losslook_s01_look.args a = true) (hask : Codec.app PySem.Challenge.rw_losslook_s01_look.args PySem.Challenge.rw_losslook_s01_look.asked a = true)
    (hx : qD K H xs (Codec.encAll PySem.Challenge.rw_losslook_s01_look.args a)) :
    zb7 K xs H (fun v H' => Dw K H' v (PySem.Challenge.rw_losslook_s01_look.ret.enc (Codec.app PySem.Challenge.rw_losslook_s01_look.args PySem.Challenge.rw_losslook_s01_look.f a))) fun _ _ _ => False := by
  cases hx with
  | cons h1 h2 =>
    cases h2 with
    | cons h3 h4 =>
      cases h4
      cases h1
      cases h3 with
      | lst hs ha =>
        have e := zdK a.2.1 _ ha
        subst e
        have q : (Codec.inInt (-2147483648) 2147483647 a.1 && ((Codec.inLen 0 100000 a.2.1 && a.2.1.all (Codec.inInt 0 255)) && true)) = true := hwi
        rw [Bool.and_eq_true, Bool.and_eq_true, Bool.and_eq_true] at q
        have hb : ∀ z : Int, z ∈ (show List Int from a.2.1) -> (0 : Int) <= z /\ z <= (255 : Int) := fun z hz => Codec.inInt_iff.mp (List.all_eq_true.mp q.2.1.2 z hz)
        have hl : a.2.1.length <= 100000 := (Codec.inNat_iff.mp q.2.1.1).2
        have e1 := jK a.2.1 fun z hz => (hb z hz).1
        rw [e1] at hs
        refine ⟨a.1, _, a.2.1.map Int.toNat, rfl, hs, ?_, ?_, ?_⟩
        . intro c hc
          obtain ⟨z, hz, rfl⟩ := List.mem_map.mp hc
          have h8 : (0 : Int) <= (z : Int) := (hb z hz).1
          have h9 : (z : Int) <= (255 : Int) := (hb z hz).2
          show Int.toNat z < 256
          revert h8 h9
          exact (fun (y : Int) (h8 : 0 <= y) (h9 : y <= 255) => (by omega : y.toNat < 256)) z
        . rw [List.length_map]
          exact hl
        . intro la H' hla
          rw [<- zfq a.1 a.2.1 hl] at hla
          exact .lst (SqL.of hla) (ze6 _)
end Lk
end
namespace PySem.W.Fast
def tw4584199476765046702:=0
def tw2610949294731495140:=0
def tw5326460789995145773:=0
def tw17418366833252344844:=0
def tw14474444085837579890:=0
def tw16803241870570672818:=0
def tw4154429008163678281:=0
def tw9557031497494627272:=0
def tw10667522994693154072:=0
def tw11962448644913367745:=0
def tw4010482273151943531:=0
def tw17788578931304517203:=0
def tw13576284837217127261:=0
def tw10935008166987809624:=0
def tw9336323987197840736:=0
def tw9334936832692696212:=0
def tw14550843726780495025:=0
def tw16209062311434414220:=0
def tw17601124879222045747:=0
def tw6697967608606407769:=0
def tw689414384566126821:=0
def tw9658307133141397677:=0
def tw8090605855546769353:=0
def tw16155740599528346216:=0
def tw17042535258097321038:=0
def tw14246378362578017093:=0
def tw11007886502312061760:=0
def tw451143765797629680:=0
def tw14904483872290521607:=0
def tw8864633388230570426:=0
def tw17274826537850967246:=0
def tw224539710061553865:=0
def tw11860738508053073138:=0
def tw15493858006318259516:=0
def tw13085744141031105885:=0
def tw3819931942234569041:=0
def tw4837448251846987456:=0
def tw4096486019240414253:=0
def tw3244057767073032297:=0
def tw10424432652342753844:=0
def tw7426300964538068770:=0
def tw6686951155318773070:=0
def tw4716833410097341210:=0
def tw15924403705608291237:=0
def tw8390862717748879014:=0
def tw7964322127402857581:=0
def tw15176260468268452948:=0
def tw9717144987974000465:=0
def tw6941853281025093720:=0
def tw8065472039703065378:=0
def tw2292495310673852456:=0
def tw11825887631972534443:=0
def tw13242765772519446953:=0
def tw5142150894795836065:=0
def tw18236717631431535338:=0
def tw17489967403600787207:=0
def tw15489802663223310084:=0
def tw17137683992216999877:=0
def tw13122521083490801022:=0
def tw790149057243227551:=0
def tw14762747897136085022:=0
def tw12736333315927879533:=0
def tw7579910854042386272:=0
def tw796555088015199351:=0
def tw7095909072670314942:=0
def tw10266916656266072008:=0
def tw8582079796495937936:=0
def tw14421297747117734368:=0
def tw12997088822685805341:=0
def tw10114509709206742053:=0
def tw3249208799371132457:=0
def tw10363037081709631187:=0
def tw5261615050711823099:=0
def tw554279562148796489:=0
def tw4093565805959535553:=0
def tw4254466422595393951:=0
def tw10270044313906094320:=0
def tw11006535510288340214:=0
def tw12586893274070053058:=0
def tw823896869198898083:=0
def tw991670364231913409:=0
def tw11522149665479193802:=0
def tw10539121349613649221:=0
def tw16531977201505026787:=0
def tw17305568344399696486:=0
def tw12080288167085841019:=0
def tw7576272197470750777:=0
def tw6260550908615164869:=0
def tw18378361275750635568:=0
def tw7214930161576186764:=0
def tw8397383969221573658:=0
def tw14666001862463078336:=0
def tw12716147660866016366:=0
def tw2175218663543004081:=0
def tw14938747336415628997:=0
def tw10078176952597307457:=0
def tw9216931817610758374:=0
def tw5855120234902778062:=0
def tw13499108285486324043:=0
def tw11540110634321251788:=0
def tw7862675876187565209:=0
def tw17345363589839402146:=0
def tw13843399596968644043:=0
def tw7689469638319725610:=0
def tw6849910161498288475:=0
def tw16180914493980652661:=0
def tw13142941132705445023:=0
def tw16584028657805530387:=0
def tw10864379767347563640:=0
def tw7218914125092035748:=0
def tw11487005974602591442:=0
def tw15478037046732246138:=0
def tw976571013609741794:=0
def tw13414581320952829355:=0
def tw16623716193788555323:=0
def tw8357766091467148259:=0
def tw16340606453218392044:=0
def tw8454396284674426931:=0
def tw16500571911345270812:=0
def tw16813045740696015518:=0
def tw14478410180254373818:=0
def tw9494174455905991066:=0
def tw12728456220245522340:=0
def tw10961346544282309278:=0
def tw17714682423799390513:=0
def tw16128915707632430974:=0
def tw15686642869944488402:=0
def tw7106647858516775520:=0
def tw8941651777252470892:=0
def tw17378608517453280307:=0
def tw1704699397352975522:=0
def tw3205422888037092281:=0
def tw5247245309189124522:=0
def tw18414577820837191037:=0
def tw1991015616902103023:=0
def tw8298177883934482430:=0
def tw14289342195285296356:=0
def tw9543743019788145123:=0
def tw2955377138365660556:=0
def tw355724216515370469:=0
def tw12810715209785221164:=0
def tw6638655295297071950:=0
def tw2834541274444446721:=0
def tw5657604160051426004:=0
def tw2800162550771071164:=0
def tw9056018860786057132:=0
def tw11683612801305565169:=0
def tw3481191553960737505:=0
def tw11317018308803133068:=0
def tw4564537281183200135:=0
def tw1715496548512155381:=0
def tw11740203244790078260:=0
def tw5596230439542207821:=0
def tw9874416460599570653:=0
def tw6880489448851387127:=0
def tw2200476656041631531:=0
def tw7719891769326330284:=0
def tw5550810375119396013:=0
def tw16047235398969212548:=0
def tw15550349708260385045:=0
def tw2655790836419764663:=0
def tw12289943697796150207:=0
def tw15526153001410558044:=0
def tw396790221765097804:=0
def tw1389499675043493539:=0
def tw12660805438421388685:=0
def tw9070858558380032787:=0
def tw16489984680488658648:=0
def tw14702757478069588831:=0
def tw9827712510017791496:=0
def tw4519715060175393070:=0
def tw7106208267162466480:=0
def tw13675556876954064161:=0
def tw3549096349181986394:=0
def tw4184210904118182141:=0
def tw1056456892496761411:=0
def tw11452974484085933500:=0
def tw4651446078769342566:=0
def tw17553461846519179551:=0
def tw11412371975497823413:=0
def tw2055441584600525787:=0
def tw10177714590666877083:=0
def tw5024082837611136680:=0
def tw14672625300757859149:=0
def tw10058987363197846358:=0
def tw8073927210001151475:=0
def tw7107795659076295484:=0
def tw1100646280250530567:=0
def tw17235810403920684895:=0
def tw13179988038723435579:=0
def tw8403788592548186818:=0
def tw15232082505840882239:=0
def tw8982474293592757768:=0
def tw6662439179339966218:=0
def tw6755760813740924585:=0
def tw17181578549426577212:=0
def tw16599524330256218941:=0
def tw14936820883221458456:=0
def tw16967760154632951731:=0
def tw11134266923341177996:=0
def tw14441041104276340353:=0
def tw8112648432380964232:=0
def tw3053659241755049166:=0
def tw5694760752994310720:=0
def tw1330616479148133090:=0
def tw13575736970079700721:=0
def tw6529101355099439916:=0
def tw12352418209858956825:=0
def tw14344164327887907064:=0
def tw4906301594356366030:=0
def tw715769865231436941:=0
def tw4826900018695170590:=0
def tw6616658197887604806:=0
def tw13506125487054368673:=0
def tw6560723550624744003:=0
def tw17784523544691241130:=0
def tw16818617900714446149:=0
def tw18371954027133651610:=0
def tw6053507415381239417:=0
def tw16858203065955529289:=0
def tw8737934760795021846:=0
def tw15211520680917576615:=0
def tw7646755863872091266:=0
def tw4703584591764622242:=0
def tw277634285034751920:=0
def tw16363858205431432069:=0
def tw8471106827989042638:=0
def tw7084707718183251738:=0
def tw14936336559437961895:=0
def tw14914764613046995810:=0
def tw11307091503363309520:=0
def tw2935014950674040124:=0
def tw5806787472592551253:=0
def tw2475019691788515300:=0
def tw18339531953479511427:=0
def tw17393202145929966538:=0
def tw12302524498209802363:=0
def tw16689865134737453955:=0
def tw1297871738682353111:=0
def tw6462280497066538332:=0
def tw866086393401314939:=0
def tw847042108765944670:=0
def tw5285640710824289791:=0
def tw16163942358922754645:=0
def tw15103810084854060466:=0
def tw596254732210136694:=0
def tw8151103247449179234:=0
def tw6249721641634887786:=0
def tw17782197279025093154:=0
def tw13334351091362592955:=0
def tw16633252041823325702:=0
def tw11208794144468811571:=0
def tw9169874279596552835:=0
def tw15376524248778964920:=0
def tw8861348464905673510:=0
def tw14948211432976532642:=0
def tw11488606577784242714:=0
def tw15402013948015274871:=0
def tw10160125848717661395:=0
def tw7908243390651559472:=0
def tw11211676138026316107:=0
def tw4623704091923697536:=0
def tw16936224210016172740:=0
def tw1485698268366025463:=0
def tw12514582971403034545:=0
def tw4537896665755251546:=0
def tw5398100973177579454:=0
def tw15695735916846882096:=0
def tw1239304859556233315:=0
def tw13674965067907738372:=0
def tw13638352868449454433:=0
def tw10107874575777574996:=0
def tw12892334530803548356:=0
def tw1022308453004470402:=0
def tw18238898911360403026:=0
def tw1426228803200718814:=0
def tw16872225228437080240:=0
def tw726344261275017882:=0
def tw12429421993499636529:=0
def tw8465223403856097054:=0
def tw16958026606510299708:=0
def tw702074740632375668:=0
def tw8677360003965503098:=0
def tw8877551071838100560:=0
def tw7232379903538070252:=0
def tw7044553647523256503:=0
def tw11833913895113881487:=0
def tw10656528147455263575:=0
def tw4531918602421723869:=0
def tw12299466229052807325:=0
def tw8053267439215345602:=0
def tw17674731851867309152:=0
def tw14749769626603160936:=0
def tw9310719237022785477:=0
def tw6690180754895199919:=0
def tw3928821499081130238:=0
def tw3070235142223461476:=0
def tw1725928291308990929:=0
def tw15831748369341096022:=0
def tw15840589258057364576:=0
def tw14529376622124537975:=0
def tw6782293090282225533:=0
def tw7231684112985819443:=0
def tw13482420829122849897:=0
def tw7792588639356438602:=0
def tw1930918736735608046:=0
def tw4791975117983714500:=0
def tw14561510177007920219:=0
def tw3465791293193226706:=0
def tw2784344036319695301:=0
def tw2687326364016151615:=0
def tw11760654549487184590:=0
def tw7605592297869147279:=0
def tw4171998685531695816:=0
def tw8464794712735207438:=0
def tw1057024060450748675:=0
def tw4981771979823260605:=0
def tw9992025813707778942:=0
def tw8141397258973629758:=0
def tw1445364126286837643:=0
def tw4365898289617067748:=0
def tw7522980673331697866:=0
def tw17066127520885033319:=0
def tw9436741885150362654:=0
def tw14361929688402365603:=0
def tw18095380609240355078:=0
def tw3825322126996736151:=0
def tw15320316385839481397:=0
def tw6210105210750176693:=0
def tw6601491043933960288:=0
def tw762228794184023020:=0
def tw18356027198016630898:=0
def tw13351670636574453741:=0
def tw17320601939453103778:=0
def tw16558974744958281515:=0
def tw14177484541558908113:=0
def tw13054916712866999315:=0
def tw12924885585290433795:=0
def tw1681611520295058308:=0
def tw7564682541118820053:=0
def tw14410270592286360753:=0
def tw3216993770471553181:=0
def tw313767957701837562:=0
def tw1939327634625946236:=0
def tw10181154119194480502:=0
def tw1628431320026070020:=0
def tw14188639074200309317:=0
def tw17718905410118135571:=0
def tw12446725577453047212:=0
def tw17617258433661008175:=0
def tw16696403164324495537:=0
def tw6620316584146381881:=0
def tw9603186854697518794:=0
def tw7537541203962091727:=0
def tw2186760473965198515:=0
def tw2602873505336906970:=0
def tw12417853421658728020:=0
def tw13255923768245495845:=0
def tw10472622934485830844:=0
def tw11185058916532500946:=0
def tw5329342624154500552:=0
def tw11233234828252721971:=0
def tw11691348845960305695:=0
def tw9723208227930641692:=0
def tw15464965102360058689:=0
def tw9796116806424877755:=0
def tw12591095315809027333:=0
def tw14720296018745998194:=0
def tw1536372860457384985:=0
def tw9815390347837371480:=0
def tw15444635004795406345:=0
def tw2324843390261935403:=0
def tw16860114560326147300:=0
def tw6798021090147415846:=0
def tw14332682577835308088:=0
def tw7067130489879452287:=0
def tw950848185217556011:=0
def tw2695914142956473899:=0
def tw5831645270618669945:=0
def tw18243386507652361759:=0
def tw9822659858629872020:=0
def tw7301958990219551180:=0
def tw6533944469961197907:=0
def tw16567400621868187745:=0
def tw5841506528595164511:=0
def tw17972517433112424554:=0
def tw15971503816438219317:=0
def tw11229427675344412693:=0
def tw10198071606653855548:=0
def tw7870506514485060576:=0
def tw10048344541413147301:=0
def tw17351197606831066197:=0
def tw14989613213036740379:=0
def tw2607430486612428975:=0
def tw507215610029468610:=0
def tw16698836974937049680:=0
def tw945699540330121036:=0
def tw10877405689760395178:=0
def tw9035099313603100166:=0
def tw10713180858081179903:=0
def tw6526187116166963122:=0
def tw4996655375492525350:=0
def tw3522571956314270742:=0
def tw3846299674230400430:=0
def tw14539769569367299002:=0
def tw6203912994546483159:=0
def tw11873172204147177669:=0
def tw13675569836315290547:=0
def tw129933513823755309:=0
def tw15171243622153747847:=0
def tw14065540403439033668:=0
def tw9343284134506158312:=0
def tw17847693571716090027:=0
def tw3129447459948069357:=0
def tw4545969132547981606:=0
def tw9173117040256192514:=0
def tw4642731966785287639:=0
def tw8412554101643348344:=0
def tw10664151047756717024:=0
def tw1455746797385578606:=0
def tw4863270006695660884:=0
def tw16404837584113270983:=0
def tw7789224266474682450:=0
def tw17706049734975443183:=0
def tw8515109895587400729:=0
def tw8233411309975416:=0
def tw13102585299422497980:=0
def tw8388252553847032803:=0
def tw14924727507374632540:=0
def tw10710524755300043292:=0
def tw6595223772457716607:=0
def tw1675890632679214803:=0
def tw9846260825006909189:=0
def tw14576428084439585287:=0
def tw2601296194860374789:=0
def tw16395034312383746728:=0
def tw11356031102694071166:=0
def tw203281372835355497:=0
def tw66411903103337870:=0
def tw128905798543026428:=0
def tw1259926276071830622:=0
def tw1584345497639947675:=0
def tw3815924998995809828:=0
def tw18248840871314127535:=0
def tw18126060115705921887:=0
def tw5817664990349925578:=0
def tw13216745883414566835:=0
def tw11784480087631548926:=0
def tw13993535475130133614:=0
def tw2799473022598194486:=0
def tw14094685650367258653:=0
def tw1614447937836165724:=0
def tw5310423974217041931:=0
def tw8192477552270734003:=0
def tw13292653603871730214:=0
def tw8680698072491543888:=0
def tw11967445168650774887:=0
def tw11405032552727139862:=0
def tw4756660304516108957:=0
def tw9524155459544069462:=0
def tw17303553034361851851:=0
def tw66407114659696402:=0
def tw6052313709881568769:=0
def tw2364829933352732204:=0
def tw18229063171568324898:=0
def tw8147726743037700058:=0
def tw5469973966892823179:=0
def tw4904424643914584786:=0
def tw7788244083089495718:=0
def tw1669746986971828722:=0
def tw3990833029809758767:=0
def tw7185130355007043893:=0
def tw9044410033761961258:=0
def tw322926027182450852:=0
def tw10425137063223898640:=0
def tw14327952360466036476:=0
def tw7336907013471227935:=0
def tw9199264963459091634:=0
def tw16311819694357151038:=0
def tw17291149687995796562:=0
def tw18249926337913578583:=0
def tw9765513377216621632:=0
def tw10676809759711723267:=0
def tw10345936514698741777:=0
def tw4251506544817258662:=0
def tw13101542321068449285:=0
def tw3231608357767674179:=0
def tw16993290777431964509:=0
def tw12913954851089211519:=0
def tw7296163394948424771:=0
def tw3906058629336012255:=0
def tw5376274753715873645:=0
def tw455701075035261985:=0
def tw16278282995575713917:=0
def tw18302290063545865732:=0
def tw16434971374710045118:=0
def tw5601525201772414860:=0
def tw1576908975469763022:=0
def tw15884754325251886992:=0
def tw10759894869156278713:=0
def tw16090792861798091937:=0
def tw8008349138718927854:=0
def tw14886830090758757895:=0
def tw1743781160619816632:=0
def tw14055868134671401557:=0
def tw11276055005462715218:=0
def tw5209463969059760787:=0
def tw3600601130525733015:=0
def tw862873819062796439:=0
def tw8039131732009382839:=0
def tw5059498439695054004:=0
def tw7268473617269808257:=0
def tw405412046938689532:=0
def tw17530156004703791876:=0
def tw12344837177443258187:=0
def tw12486706262958084647:=0
def tw8689642290871951233:=0
def tw15683724966687124703:=0
def tw11866356750828376095:=0
def tw9096494905435152739:=0
def tw6645046830347299887:=0
def tw15185111338204068144:=0
def tw11566157466206356471:=0
def tw5674124737523400029:=0
def tw14716805326571461601:=0
def tw18209108235173970198:=0
def tw1197051022380765729:=0
def tw12875325346368162164:=0
def tw271792670454658029:=0
def tw770129581432435355:=0
def tw873736503641143451:=0
def tw17889269936101058153:=0
def tw4203220575885599643:=0
def tw2330081354930800975:=0
def tw3655333103708655297:=0
def tw14912735471021381391:=0
def tw12544621644187363046:=0
def tw1128290984949368301:=0
def tw1392875872616670408:=0
def tw4727444585952588794:=0
def tw3752245709438436385:=0
def tw10646246635593388432:=0
def tw195840241478944362:=0
def tw7467622210518968836:=0
def tw2245597584197946193:=0
def tw2606103054024111978:=0
def tw2090453716766141985:=0
def tw1721538020560761744:=0
def tw12842011997792054574:=0
def tw11011184409128041014:=0
def tw12593858641353265656:=0
def tw6391964708606745908:=0
def tw296596955861800935:=0
def tw3290694517101689662:=0
def tw10555889760482265486:=0
def tw8858930738707033501:=0
def tw784930259375374714:=0
def tw15923416210878591815:=0
def tw7298742593322915276:=0
def tw3059656016538039259:=0
def tw4017192700710119533:=0
def tw12297058393255316637:=0
def tw4480237238065658224:=0
def tw9772605357142511634:=0
def tw14908056523865554631:=0
def tw14156726744076936458:=0
def tw13661553137243052425:=0
def tw16007722871008709555:=0
def tw419219758206734089:=0
def tw13902680054752797550:=0
def tw5631042513141385326:=0
def tw6428296163795102529:=0
def tw17928982432013121932:=0
def tw8042556460762803439:=0
def tw5930341997098769845:=0
def tw96617465157390549:=0
def tw5852387722417410644:=0
def tw11637520601746213280:=0
def tw9808199088584000977:=0
def tw2787579250170639589:=0
def tw764601480542507831:=0
def tw13132514386976098627:=0
def tw365760730213563267:=0
def tw16280550789741829465:=0
def tw6839506388942825387:=0
def tw13309488058921450474:=0
def tw5650520777898110114:=0
def tw11258422519852475506:=0
def tw8442141231828173208:=0
def tw11030709444923377415:=0
def tw12449069993070167328:=0
def tw4609281485029869662:=0
def tw8956083090000207495:=0
def tw8131099954627162851:=0
def tw11152196693861486110:=0
def tw5379157657878340556:=0
def tw1262987824720212753:=0
def tw16283871036010216775:=0
def tw9271227212773832073:=0
def tw5900589105542624301:=0
def tw5867959114570303680:=0
def tw1665409675713470744:=0
def tw6117371518256517842:=0
def tw14149273322730221696:=0
def tw17283200076867466224:=0
def tw4329211007823089875:=0
def tw15948582814006976997:=0
def tw422273971863431583:=0
def tw4200027255350283134:=0
def tw13810141760034803123:=0
def tw6589764028521194855:=0
def tw8652274938001566203:=0
def tw13307932612427310603:=0
def tw3711703707125367251:=0
def tw962107226273226375:=0
def tw12555396225350347045:=0
def tw4953047643760016871:=0
def tw18111987346807278424:=0
def tw12816549669611313663:=0
def tw13044333330263690656:=0
def tw13681501470526776128:=0
def tw875305747620679229:=0
def tw2036095813404827041:=0
def tw4615160423202881968:=0
def tw3312670438623173073:=0
def tw5611767660765892060:=0
def tw17669527941334208666:=0
def tw11698894327249845531:=0
def tw15847456921124312861:=0
def tw7488596936990998852:=0
def tw132180348402082154:=0
def tw3645295862120072811:=0
def tw487893760424948550:=0
def tw5669717974411826169:=0
def tw4977900288213540601:=0
def tw3976781548225745184:=0
def tw14291739531959445821:=0
def tw11847339791929766573:=0
def tw11346968231668203203:=0
def tw10915657876745797384:=0
def tw3023999769019067358:=0
def tw5917625998953447480:=0
def tw1067178071708103897:=0
def tw669225190577080718:=0
def tw13398988893854326708:=0
def tw12379447486697650402:=0
def tw4265831190591960392:=0
def tw13624124867245601348:=0
def tw7280922911657547807:=0
def tw7248965472900913802:=0
def tw13605124620983253792:=0
def tw15241951127621625919:=0
def tw5513083314370497939:=0
def tw12294164920945852574:=0
def tw7082190733725592179:=0
def tw5256708493020973125:=0
def tw2158383028502807349:=0
def tw13784771500172471553:=0
def tw12331461170370608749:=0
def tw124053360984378025:=0
def tw11023401125342392525:=0
def tw11667524277423649476:=0
def tw13110304341781801436:=0
def tw13252760808526141662:=0
def tw6989568428748454907:=0
def tw10057908044778057077:=0
def tw17009973828034497958:=0
def tw16262547569348399644:=0
def tw6415495853315280528:=0
def tw12143975367690189655:=0
def tw1182484004760931760:=0
def tw4792917320657177168:=0
def tw2872750125767676461:=0
def tw16330417821154569813:=0
def tw5755865609793161506:=0
def tw18092900448045579578:=0
def tw17788430405298608292:=0
def tw11113736291901014137:=0
def tw5342054310555993354:=0
def tw2262352897212781957:=0
def tw6163926809299736197:=0
def tw18313319946246839097:=0
def tw594519140012650616:=0
def tw1539872268949713269:=0
def tw8188505782182023578:=0
def tw10311025022379344619:=0
def tw3487117351507729166:=0
def tw1979319169842568762:=0
def tw10576196582355045808:=0
def tw2921328259782640820:=0
def tw3676134565122051615:=0
def tw14400171244048228248:=0
def tw1897466548343205208:=0
def tw12002364919214490901:=0
def tw10211029168786242367:=0
def tw8917331411256659561:=0
def tw14103572070752591705:=0
def tw17126704003245942022:=0
def tw1234043797249559767:=0
def tw3520918425673503164:=0
def tw17613303982524378418:=0
def tw15279900715778905666:=0
def tw17330005393918153695:=0
def tw427703485738003341:=0
def tw12018428436600612122:=0
def tw6328542944417194602:=0
def tw3712073467096143663:=0
def tw15698943665887320885:=0
def tw15564294794571601619:=0
def tw281257352969833124:=0
def tw2654078890764078435:=0
def tw10109953423451477182:=0
def tw17493934976023198138:=0
def tw7020711516749770381:=0
def tw9807684914373639957:=0
def tw14795797422104007084:=0
def tw11651120908112986098:=0
def tw10911266882613530372:=0
def tw7273052893925831315:=0
def tw6419881310709300267:=0
def tw16835827740853401274:=0
def tw8725308927838119882:=0
def tw18319611732202166746:=0
def tw5922035872846424866:=0
def tw6966459575781295154:=0
def tw6003390935338133958:=0
def tw15233901891985964800:=0
def tw18036393270060144789:=0
def tw17785514052328386097:=0
def tw15705053105151970382:=0
def tw6739807910246992934:=0
def tw17930067513390771742:=0
def tw3623332270334992449:=0
def tw1938303542996846171:=0
def tw14409897804218540650:=0
def tw5414702172685881135:=0
def tw15901047683612869358:=0
def tw13596307594515381059:=0
def tw3165643284585003250:=0
def tw9548680153926629536:=0
def tw14624920014620040284:=0
def tw11878780812286494539:=0
def tw9958381336813943854:=0
def tw6522750517699107085:=0
def tw1962295961551353907:=0
def tw776952456235130710:=0
def tw14103755942308383545:=0
def tw10607612019931895313:=0
def tw13349093456029130075:=0
def tw14201436849696188092:=0
def tw3115958987389001013:=0
def tw8104756195324543209:=0
def tw8248774582708853611:=0
def tw2040467959003107324:=0
def tw16087396958244885819:=0
def tw4861900792363551539:=0
def tw11655810459353061400:=0
def tw4881036318908937103:=0
def tw2194271008392163206:=0
def tw3234356682086226730:=0
def tw16364635050795706295:=0
def tw8072495160847275452:=0
def tw14561786279185525235:=0
def tw14851861408847527582:=0
def tw2327485667407385967:=0
def tw508941245653090281:=0
def tw10029536681563401589:=0
def tw7481379412732866839:=0
def tw8840863777437845333:=0
def tw9639633142741261898:=0
def tw10228076574924217175:=0
def tw5843802943872465320:=0
def tw11616564465948726318:=0
def tw7560995056682799576:=0
def tw18053300158446369847:=0
def tw2751256189584865722:=0
def tw6697761214815667408:=0
def tw18177459812664113942:=0
def tw13141709399255796810:=0
def tw9886885502195408851:=0
def tw11160971531194311568:=0
def tw13195851234374204115:=0
def tw6407007369609623123:=0
def tw8227266378723025612:=0
def tw15567997074782343177:=0
def tw11963023808812489035:=0
def tw5123793751208226195:=0
end PySem.W.Fast
open PySem PySem.W PyProof.Rows
set_option maxRecDepth 100000 in
set_option maxHeartbeats 0 in
theorem PySem.Challenge.cw_losslook_s01_look_holds : PySem.Challenge.rw_losslook_s01_look.Holds := by
  w_on; k_headS; (case hw => exact ⟨[.int 0, .list []], by decide +kernel, by decide +kernel⟩)
  k_fillS
  refine Lk.zaX (r := PySem.Challenge.rw_losslook_s01_look) (k := 14) (CX := fun w => L2.CXe PySem.Challenge.rw_losslook_s01_look.prog w) (ps := ["most", "data"]) (sp := Lk.zb7) (by decide +kernel) rfl rfl ⟨rfl, by decide, by decide⟩ (fun w h Y => PySem.W.kIn_of Y) ?F Lk.zh3 (fun _ _ _ _ _ ⟨_, _, _, _, _, _, z, _⟩ => z)
  case F =>
    intro w mg fa h Y KX G hmg
    refine' Lk.zjr KX G hmg ?nN ?xN ?nT ?xT ?x11 ?x21 ?x22 ?cCB ?cCV ?cCC ?cCS ?cCG ?cCP ?cCK ?cCE ?cCD ?cCF ?cCH ?cCA ?iE ?n0 ?n1 ?n2 ?n3 ?n4 ?n5 ?n6 ?n7 ?n8 ?n9 ?n10 ?n11 ?n12 ?n13 ?n14 ?n15 ?n16 ?n17 ?n18 ?n19 ?n20 ?n21 ?n22 ?n23 ?n24 ?n25 ?n26 ?n27 ?n28 ?n29 ?n30 ?n31 ?blen ?brange ?bmax ?bmin ?bsum ?benumerate ?bord ?kSPREAD ?kLOW ?kLONGEST ?kFIRST ?kRED ?kBLUE ?kALPHA ?kDISTANCE ?kPRED ?kCOL ?kGRE ?kTAB ?kMODE ?kSIG ?kNSF ?kTOO ?kLAR ?kM1 ?kM2 ?gO ?lO ?vO ?sO ?gA ?lA ?sA ?pA ?mBit ?mNum ?mLeft ?mB ?mC ?mNext ?fCol ?mV ?mPut ?mPutC ?mRep ?fVal ?fDist ?fMost ?fRun ?fCofL ?fLens ?fShort ?fCode ?mS ?mG ?fGrpNo ?fDivUp ?mColAt ?mGrpAt ?fDepth ?fColour ?fStep ?fColours ?fGroup ?fPlain ?fSquares ?fGroups ?fGrouped ?fAdded ?mP ?mK ?mD ?mPackW ?fShiftFor ?fSums ?fModes ?fTable ?mF ?mTake ?fTranss ?fLetters ?fSizeAt ?fNames ?fFrame ?mH ?mA ?fHead ?fCont ?fTop
    (case nN => k_is)
    (case xN => k_exc)
    (case nT => k_is)
    (case xT => k_exc)
    (case x11 => kts_exm)
    (case x21 => kts_exm)
    (case x22 => kts_exm)
    (case cCB => (refine' Lk.xr ?nm ?pg ?hd ?po ?sa ?mk ?kp; (case nm => k_is); (case pg => k_is); (case hd => k_is); (case po => k_is); (case sa => k_is); (case mk => k_is); (case kp => k_is)))
    (case cCV => (refine' Lk.xr ?nm ?pg ?hd ?po ?sa ?mk ?kp; (case nm => k_is); (case pg => k_is); (case hd => k_is); (case po => k_is); (case sa => k_is); (case mk => k_is); (case kp => k_is)))
    (case cCC => (refine' Lk.xr ?nm ?pg ?hd ?po ?sa ?mk ?kp; (case nm => k_is); (case pg => k_is); (case hd => k_is); (case po => k_is); (case sa => k_is); (case mk => k_is); (case kp => k_is)))
    (case cCS => (refine' Lk.xr ?nm ?pg ?hd ?po ?sa ?mk ?kp; (case nm => k_is); (case pg => k_is); (case hd => k_is); (case po => k_is); (case sa => k_is); (case mk => k_is); (case kp => k_is)))
    (case cCG => (refine' Lk.xr ?nm ?pg ?hd ?po ?sa ?mk ?kp; (case nm => k_is); (case pg => k_is); (case hd => k_is); (case po => k_is); (case sa => k_is); (case mk => k_is); (case kp => k_is)))
    (case cCP => (refine' Lk.xr ?nm ?pg ?hd ?po ?sa ?mk ?kp; (case nm => k_is); (case pg => k_is); (case hd => k_is); (case po => k_is); (case sa => k_is); (case mk => k_is); (case kp => k_is)))
    (case cCK => (refine' Lk.xr ?nm ?pg ?hd ?po ?sa ?mk ?kp; (case nm => k_is); (case pg => k_is); (case hd => k_is); (case po => k_is); (case sa => k_is); (case mk => k_is); (case kp => k_is)))
    (case cCE => (refine' Lk.xr ?nm ?pg ?hd ?po ?sa ?mk ?kp; (case nm => k_is); (case pg => k_is); (case hd => k_is); (case po => k_is); (case sa => k_is); (case mk => k_is); (case kp => k_is)))
    (case cCD => (refine' Lk.xr ?nm ?pg ?hd ?po ?sa ?mk ?kp; (case nm => k_is); (case pg => k_is); (case hd => k_is); (case po => k_is); (case sa => k_is); (case mk => k_is); (case kp => k_is)))
    (case cCF => (refine' Lk.xr ?nm ?pg ?hd ?po ?sa ?mk ?kp; (case nm => k_is); (case pg => k_is); (case hd => k_is); (case po => k_is); (case sa => k_is); (case mk => k_is); (case kp => k_is)))
    (case cCH => (refine' Lk.xr ?nm ?pg ?hd ?po ?sa ?mk ?kp; (case nm => k_is); (case pg => k_is); (case hd => k_is); (case po => k_is); (case sa => k_is); (case mk => k_is); (case kp => k_is)))
    (case cCA => (refine' Lk.xr ?nm ?pg ?hd ?po ?sa ?mk ?kp; (case nm => k_is); (case pg => k_is); (case hd => k_is); (case po => k_is); (case sa => k_is); (case mk => k_is); (case kp => k_is)))
    (case iE => k_is)
    (case n0 => k_is)
    (case n1 => k_is)
    (case n2 => k_is)
    (case n3 => k_is)
    (case n4 => k_is)
    (case n5 => k_is)
    (case n6 => k_is)
    (case n7 => k_is)
    (case n8 => k_is)
    (case n9 => k_is)
    (case n10 => k_is)
    (case n11 => k_is)
    (case n12 => k_is)
    (case n13 => k_is)
    (case n14 => k_is)
    (case n15 => k_is)
    (case n16 => k_is)
    (case n17 => k_is)
    (case n18 => k_is)
    (case n19 => k_is)
    (case n20 => k_is)
    (case n21 => k_is)
    (case n22 => k_is)
    (case n23 => k_is)
    (case n24 => k_is)
    (case n25 => k_is)
    (case n26 => k_is)
    (case n27 => k_is)
    (case n28 => k_is)
    (case n29 => k_is)
    (case n30 => k_is)
    (case n31 => k_is)
    (case blen => k_is)
    (case brange => k_is)
    (case bmax => k_is)
    (case bmin => k_is)
    (case bsum => k_is)
    (case benumerate => k_is)
    (case bord => k_is)
    (case kSPREAD => (refine' Lk.yB ?a; (case a => k_is)))
    (case kLOW => (refine' Lk.yB ?a; (case a => k_is)))
    (case kLONGEST => (refine' Lk.yB ?a; (case a => k_is)))
    (case kFIRST => (refine' Lk.yB ?a; (case a => k_is)))
    (case kRED => (refine' Lk.yB ?a; (case a => k_is)))
    (case kBLUE => (refine' Lk.yB ?a; (case a => k_is)))
    (case kALPHA => (refine' Lk.yB ?a; (case a => k_is)))
    (case kDISTANCE => (refine' Lk.yB ?a; (case a => k_is)))
    (case kPRED => (refine' Lk.yB ?a; (case a => k_is)))
    (case kCOL => (refine' Lk.yB ?a; (case a => k_is)))
    (case kGRE => (refine' Lk.yB ?a; (case a => k_is)))
    (case kTAB => (refine' Lk.yB ?a; (case a => k_is)))
    (case kMODE => (refine' Lk.yB ?a; (case a => k_is)))
    (case kSIG => (refine' Lk.yB ?a; (case a => k_is)))
    (case kNSF => (refine' Lk.yB ?a; (case a => k_is)))
    (case kTOO => (refine' Lk.yB ?a; (case a => k_is)))
    (case kLAR => (refine' Lk.yB ?a; (case a => k_is)))
    (case kM1 => (refine' Lk.yB ?a; (case a => k_is)))
    (case kM2 => (refine' Lk.yB ?a; (case a => k_is)))
    (case gO => k_is)
    (case lO => k_is)
    (case vO => exact .cons ⟨_, rfl⟩ (.cons ⟨_, rfl⟩ (.cons ⟨_, rfl⟩ (.cons ⟨_, rfl⟩ (.cons ⟨_, rfl⟩ (.cons ⟨_, rfl⟩ (.cons ⟨_, rfl⟩ (.cons ⟨_, rfl⟩ (.cons ⟨_, rfl⟩ (.cons ⟨_, rfl⟩ (.cons ⟨_, rfl⟩ (.cons ⟨_, rfl⟩ (.cons ⟨_, rfl⟩ (.cons ⟨_, rfl⟩ (.cons ⟨_, rfl⟩ (.cons ⟨_, rfl⟩ (.cons ⟨_, rfl⟩ (.cons ⟨_, rfl⟩ (.cons ⟨_, rfl⟩ (.nil))))))))))))))))))))
    (case sO => (show 19 <= _; decide))
    (case gA => k_is)
    (case lA => k_is)
    (case sA => (show 120 <= _; decide))
    (case pA => (rw [Lk.zfr]; refine' Lk.ze.cons ?l0 ?r0; (case l0 => k_is); refine' Lk.ze.cons ?l1 ?r1; (case l1 => k_is); refine' Lk.ze.cons ?l2 ?r2; (case l2 => k_is); refine' Lk.ze.cons ?l3 ?r3; (case l3 => k_is); refine' Lk.ze.cons ?l4 ?r4; (case l4 => k_is); refine' Lk.ze.cons ?l5 ?r5; (case l5 => k_is); refine' Lk.ze.cons ?l6 ?r6; (case l6 => k_is); refine' Lk.ze.cons ?l7 ?r7; (case l7 => k_is); refine' Lk.ze.cons ?l8 ?r8; (case l8 => k_is); refine' Lk.ze.cons ?l9 ?r9; (case l9 => k_is); refine' Lk.ze.cons ?l10 ?r10; (case l10 => k_is); refine' Lk.ze.cons ?l11 ?r11; (case l11 => k_is); refine' Lk.ze.cons ?l12 ?r12; (case l12 => k_is); refine' Lk.ze.cons ?l13 ?r13; (case l13 => k_is); refine' Lk.ze.cons ?l14 ?r14; (case l14 => k_is); refine' Lk.ze.cons ?l15 ?r15; (case l15 => k_is); refine' Lk.ze.cons ?l16 ?r16; (case l16 => k_is); refine' Lk.ze.cons ?l17 ?r17; (case l17 => k_is); refine' Lk.ze.cons ?l18 ?r18; (case l18 => k_is); refine' Lk.ze.cons ?l19 ?r19; (case l19 => k_is); refine' Lk.ze.cons ?l20 ?r20; (case l20 => k_is); refine' Lk.ze.cons ?l21 ?r21; (case l21 => k_is); refine' Lk.ze.cons ?l22 ?r22; (case l22 => k_is); refine' Lk.ze.cons ?l23 ?r23; (case l23 => k_is); refine' Lk.ze.cons ?l24 ?r24; (case l24 => k_is); refine' Lk.ze.cons ?l25 ?r25; (case l25 => k_is); refine' Lk.ze.cons ?l26 ?r26; (case l26 => k_is); refine' Lk.ze.cons ?l27 ?r27; (case l27 => k_is); refine' Lk.ze.cons ?l28 ?r28; (case l28 => k_is); refine' Lk.ze.cons ?l29 ?r29; (case l29 => k_is); refine' Lk.ze.cons ?l30 ?r30; (case l30 => k_is); refine' Lk.ze.cons ?l31 ?r31; (case l31 => k_is); refine' Lk.ze.cons ?l32 ?r32; (case l32 => k_is); refine' Lk.ze.cons ?l33 ?r33; (case l33 => k_is); refine' Lk.ze.cons ?l34 ?r34; (case l34 => k_is); refine' Lk.ze.cons ?l35 ?r35; (case l35 => k_is); refine' Lk.ze.cons ?l36 ?r36; (case l36 => k_is); refine' Lk.ze.cons ?l37 ?r37; (case l37 => k_is); refine' Lk.ze.cons ?l38 ?r38; (case l38 => k_is); refine' Lk.ze.cons ?l39 ?r39; (case l39 => k_is); refine' Lk.ze.cons ?l40 ?r40; (case l40 => k_is); refine' Lk.ze.cons ?l41 ?r41; (case l41 => k_is); refine' Lk.ze.cons ?l42 ?r42; (case l42 => k_is); refine' Lk.ze.cons ?l43 ?r43; (case l43 => k_is); refine' Lk.ze.cons ?l44 ?r44; (case l44 => k_is); refine' Lk.ze.cons ?l45 ?r45; (case l45 => k_is); refine' Lk.ze.cons ?l46 ?r46; (case l46 => k_is); refine' Lk.ze.cons ?l47 ?r47; (case l47 => k_is); refine' Lk.ze.cons ?l48 ?r48; (case l48 => k_is); refine' Lk.ze.cons ?l49 ?r49; (case l49 => k_is); refine' Lk.ze.cons ?l50 ?r50; (case l50 => k_is); refine' Lk.ze.cons ?l51 ?r51; (case l51 => k_is); refine' Lk.ze.cons ?l52 ?r52; (case l52 => k_is); refine' Lk.ze.cons ?l53 ?r53; (case l53 => k_is); refine' Lk.ze.cons ?l54 ?r54; (case l54 => k_is); refine' Lk.ze.cons ?l55 ?r55; (case l55 => k_is); refine' Lk.ze.cons ?l56 ?r56; (case l56 => k_is); refine' Lk.ze.cons ?l57 ?r57; (case l57 => k_is); refine' Lk.ze.cons ?l58 ?r58; (case l58 => k_is); refine' Lk.ze.cons ?l59 ?r59; (case l59 => k_is); refine' Lk.ze.cons ?l60 ?r60; (case l60 => k_is); refine' Lk.ze.cons ?l61 ?r61; (case l61 => k_is); refine' Lk.ze.cons ?l62 ?r62; (case l62 => k_is); refine' Lk.ze.cons ?l63 ?r63; (case l63 => k_is); refine' Lk.ze.cons ?l64 ?r64; (case l64 => k_is); refine' Lk.ze.cons ?l65 ?r65; (case l65 => k_is); refine' Lk.ze.cons ?l66 ?r66; (case l66 => k_is); refine' Lk.ze.cons ?l67 ?r67; (case l67 => k_is); refine' Lk.ze.cons ?l68 ?r68; (case l68 => k_is); refine' Lk.ze.cons ?l69 ?r69; (case l69 => k_is); refine' Lk.ze.cons ?l70 ?r70; (case l70 => k_is); refine' Lk.ze.cons ?l71 ?r71; (case l71 => k_is); refine' Lk.ze.cons ?l72 ?r72; (case l72 => k_is); refine' Lk.ze.cons ?l73 ?r73; (case l73 => k_is); refine' Lk.ze.cons ?l74 ?r74; (case l74 => k_is); refine' Lk.ze.cons ?l75 ?r75; (case l75 => k_is); refine' Lk.ze.cons ?l76 ?r76; (case l76 => k_is); refine' Lk.ze.cons ?l77 ?r77; (case l77 => k_is); refine' Lk.ze.cons ?l78 ?r78; (case l78 => k_is); refine' Lk.ze.cons ?l79 ?r79; (case l79 => k_is); refine' Lk.ze.cons ?l80 ?r80; (case l80 => k_is); refine' Lk.ze.cons ?l81 ?r81; (case l81 => k_is); refine' Lk.ze.cons ?l82 ?r82; (case l82 => k_is); refine' Lk.ze.cons ?l83 ?r83; (case l83 => k_is); refine' Lk.ze.cons ?l84 ?r84; (case l84 => k_is); refine' Lk.ze.cons ?l85 ?r85; (case l85 => k_is); refine' Lk.ze.cons ?l86 ?r86; (case l86 => k_is); refine' Lk.ze.cons ?l87 ?r87; (case l87 => k_is); refine' Lk.ze.cons ?l88 ?r88; (case l88 => k_is); refine' Lk.ze.cons ?l89 ?r89; (case l89 => k_is); refine' Lk.ze.cons ?l90 ?r90; (case l90 => k_is); refine' Lk.ze.cons ?l91 ?r91; (case l91 => k_is); refine' Lk.ze.cons ?l92 ?r92; (case l92 => k_is); refine' Lk.ze.cons ?l93 ?r93; (case l93 => k_is); refine' Lk.ze.cons ?l94 ?r94; (case l94 => k_is); refine' Lk.ze.cons ?l95 ?r95; (case l95 => k_is); refine' Lk.ze.cons ?l96 ?r96; (case l96 => k_is); refine' Lk.ze.cons ?l97 ?r97; (case l97 => k_is); refine' Lk.ze.cons ?l98 ?r98; (case l98 => k_is); refine' Lk.ze.cons ?l99 ?r99; (case l99 => k_is); refine' Lk.ze.cons ?l100 ?r100; (case l100 => k_is); refine' Lk.ze.cons ?l101 ?r101; (case l101 => k_is); refine' Lk.ze.cons ?l102 ?r102; (case l102 => k_is); refine' Lk.ze.cons ?l103 ?r103; (case l103 => k_is); refine' Lk.ze.cons ?l104 ?r104; (case l104 => k_is); refine' Lk.ze.cons ?l105 ?r105; (case l105 => k_is); refine' Lk.ze.cons ?l106 ?r106; (case l106 => k_is); refine' Lk.ze.cons ?l107 ?r107; (case l107 => k_is); refine' Lk.ze.cons ?l108 ?r108; (case l108 => k_is); refine' Lk.ze.cons ?l109 ?r109; (case l109 => k_is); refine' Lk.ze.cons ?l110 ?r110; (case l110 => k_is); refine' Lk.ze.cons ?l111 ?r111; (case l111 => k_is); refine' Lk.ze.cons ?l112 ?r112; (case l112 => k_is); refine' Lk.ze.cons ?l113 ?r113; (case l113 => k_is); refine' Lk.ze.cons ?l114 ?r114; (case l114 => k_is); refine' Lk.ze.cons ?l115 ?r115; (case l115 => k_is); refine' Lk.ze.cons ?l116 ?r116; (case l116 => k_is); refine' Lk.ze.cons ?l117 ?r117; (case l117 => k_is); refine' Lk.ze.cons ?l118 ?r118; (case l118 => k_is); refine' Lk.ze.cons ?l119 ?r119; (case l119 => k_is); exact .nil))
    (case mBit => (refine' Lk.yV ?a ?i ?l ?c ?k; (case a => k_is); (case i => k_is); (case l => k_is); (case c => k_is); (case k => k_is)))
    (case mNum => (refine' Lk.yV ?a ?i ?l ?c ?k; (case a => k_is); (case i => k_is); (case l => k_is); (case c => k_is); (case k => k_is)))
    (case mLeft => (refine' Lk.yV ?a ?i ?l ?c ?k; (case a => k_is); (case i => k_is); (case l => k_is); (case c => k_is); (case k => k_is)))
    (case mB => (refine' Lk.yV ?a ?i ?l ?c ?k; (case a => k_is); (case i => k_is); (case l => k_is); (case c => k_is); (case k => k_is)))
    (case mC => (refine' Lk.yV ?a ?i ?l ?c ?k; (case a => k_is); (case i => k_is); (case l => k_is); (case c => k_is); (case k => k_is)))
    (case mNext => (refine' Lk.yV ?a ?i ?l ?c ?k; (case a => k_is); (case i => k_is); (case l => k_is); (case c => k_is); (case k => k_is)))
    (case fCol => (refine' Lk.yr ?a ?l ?c ?k; (case a => k_is); (case l => k_is); (case c => k_is); (case k => k_is)))
    (case mV => (refine' Lk.yV ?a ?i ?l ?c ?k; (case a => k_is); (case i => k_is); (case l => k_is); (case c => k_is); (case k => k_is)))
    (case mPut => (refine' Lk.yV ?a ?i ?l ?c ?k; (case a => k_is); (case i => k_is); (case l => k_is); (case c => k_is); (case k => k_is)))
    (case mPutC => (refine' Lk.yV ?a ?i ?l ?c ?k; (case a => k_is); (case i => k_is); (case l => k_is); (case c => k_is); (case k => k_is)))
    (case mRep => (refine' Lk.yV ?a ?i ?l ?c ?k; (case a => k_is); (case i => k_is); (case l => k_is); (case c => k_is); (case k => k_is)))
    (case fVal => (refine' Lk.yr ?a ?l ?c ?k; (case a => k_is); (case l => k_is); (case c => k_is); (case k => k_is)))
    (case fDist => (refine' Lk.yr ?a ?l ?c ?k; (case a => k_is); (case l => k_is); (case c => k_is); (case k => k_is)))
    (case fMost => (refine' Lk.yr ?a ?l ?c ?k; (case a => k_is); (case l => k_is); (case c => k_is); (case k => k_is)))
    (case fRun => (refine' Lk.yr ?a ?l ?c ?k; (case a => k_is); (case l => k_is); (case c => k_is); (case k => k_is)))
    (case fCofL => (refine' Lk.yr ?a ?l ?c ?k; (case a => k_is); (case l => k_is); (case c => k_is); (case k => k_is)))
    (case fLens => (refine' Lk.yr ?a ?l ?c ?k; (case a => k_is); (case l => k_is); (case c => k_is); (case k => k_is)))
    (case fShort => (refine' Lk.yr ?a ?l ?c ?k; (case a => k_is); (case l => k_is); (case c => k_is); (case k => k_is)))
    (case fCode => (refine' Lk.yr ?a ?l ?c ?k; (case a => k_is); (case l => k_is); (case c => k_is); (case k => k_is)))
    (case mS => (refine' Lk.yV ?a ?i ?l ?c ?k; (case a => k_is); (case i => k_is); (case l => k_is); (case c => k_is); (case k => k_is)))
    (case mG => (refine' Lk.yV ?a ?i ?l ?c ?k; (case a => k_is); (case i => k_is); (case l => k_is); (case c => k_is); (case k => k_is)))
    (case fGrpNo => (refine' Lk.yr ?a ?l ?c ?k; (case a => k_is); (case l => k_is); (case c => k_is); (case k => k_is)))
    (case fDivUp => (refine' Lk.yr ?a ?l ?c ?k; (case a => k_is); (case l => k_is); (case c => k_is); (case k => k_is)))
    (case mColAt => (refine' Lk.yV ?a ?i ?l ?c ?k; (case a => k_is); (case i => k_is); (case l => k_is); (case c => k_is); (case k => k_is)))
    (case mGrpAt => (refine' Lk.yV ?a ?i ?l ?c ?k; (case a => k_is); (case i => k_is); (case l => k_is); (case c => k_is); (case k => k_is)))
    (case fDepth => (refine' Lk.yr ?a ?l ?c ?k; (case a => k_is); (case l => k_is); (case c => k_is); (case k => k_is)))
    (case fColour => (refine' Lk.yr ?a ?l ?c ?k; (case a => k_is); (case l => k_is); (case c => k_is); (case k => k_is)))
    (case fStep => (refine' Lk.yr ?a ?l ?c ?k; (case a => k_is); (case l => k_is); (case c => k_is); (case k => k_is)))
    (case fColours => (refine' Lk.yr ?a ?l ?c ?k; (case a => k_is); (case l => k_is); (case c => k_is); (case k => k_is)))
    (case fGroup => (refine' Lk.yr ?a ?l ?c ?k; (case a => k_is); (case l => k_is); (case c => k_is); (case k => k_is)))
    (case fPlain => (refine' Lk.yr ?a ?l ?c ?k; (case a => k_is); (case l => k_is); (case c => k_is); (case k => k_is)))
    (case fSquares => (refine' Lk.yr ?a ?l ?c ?k; (case a => k_is); (case l => k_is); (case c => k_is); (case k => k_is)))
    (case fGroups => (refine' Lk.yr ?a ?l ?c ?k; (case a => k_is); (case l => k_is); (case c => k_is); (case k => k_is)))
    (case fGrouped => (refine' Lk.yr ?a ?l ?c ?k; (case a => k_is); (case l => k_is); (case c => k_is); (case k => k_is)))
    (case fAdded => (refine' Lk.yr ?a ?l ?c ?k; (case a => k_is); (case l => k_is); (case c => k_is); (case k => k_is)))
    (case mP => (refine' Lk.yV ?a ?i ?l ?c ?k; (case a => k_is); (case i => k_is); (case l => k_is); (case c => k_is); (case k => k_is)))
    (case mK => (refine' Lk.yV ?a ?i ?l ?c ?k; (case a => k_is); (case i => k_is); (case l => k_is); (case c => k_is); (case k => k_is)))
    (case mD => (refine' Lk.yV ?a ?i ?l ?c ?k; (case a => k_is); (case i => k_is); (case l => k_is); (case c => k_is); (case k => k_is)))
    (case mPackW => (refine' Lk.yV ?a ?i ?l ?c ?k; (case a => k_is); (case i => k_is); (case l => k_is); (case c => k_is); (case k => k_is)))
    (case fShiftFor => (refine' Lk.yr ?a ?l ?c ?k; (case a => k_is); (case l => k_is); (case c => k_is); (case k => k_is)))
    (case fSums => (refine' Lk.yr ?a ?l ?c ?k; (case a => k_is); (case l => k_is); (case c => k_is); (case k => k_is)))
    (case fModes => (refine' Lk.yr ?a ?l ?c ?k; (case a => k_is); (case l => k_is); (case c => k_is); (case k => k_is)))
    (case fTable => (refine' Lk.yr ?a ?l ?c ?k; (case a => k_is); (case l => k_is); (case c => k_is); (case k => k_is)))
    (case mF => (refine' Lk.yV ?a ?i ?l ?c ?k; (case a => k_is); (case i => k_is); (case l => k_is); (case c => k_is); (case k => k_is)))
    (case mTake => (refine' Lk.yV ?a ?i ?l ?c ?k; (case a => k_is); (case i => k_is); (case l => k_is); (case c => k_is); (case k => k_is)))
    (case fTranss => (refine' Lk.yr ?a ?l ?c ?k; (case a => k_is); (case l => k_is); (case c => k_is); (case k => k_is)))
    (case fLetters => (refine' Lk.yr ?a ?l ?c ?k; (case a => k_is); (case l => k_is); (case c => k_is); (case k => k_is)))
    (case fSizeAt => (refine' Lk.yr ?a ?l ?c ?k; (case a => k_is); (case l => k_is); (case c => k_is); (case k => k_is)))
    (case fNames => (refine' Lk.yr ?a ?l ?c ?k; (case a => k_is); (case l => k_is); (case c => k_is); (case k => k_is)))
    (case fFrame => (refine' Lk.yr ?a ?l ?c ?k; (case a => k_is); (case l => k_is); (case c => k_is); (case k => k_is)))
    (case mH => (refine' Lk.yV ?a ?i ?l ?c ?k; (case a => k_is); (case i => k_is); (case l => k_is); (case c => k_is); (case k => k_is)))
    (case mA => (refine' Lk.yV ?a ?i ?l ?c ?k; (case a => k_is); (case i => k_is); (case l => k_is); (case c => k_is); (case k => k_is)))
    (case fHead => (refine' Lk.yr ?a ?l ?c ?k; (case a => k_is); (case l => k_is); (case c => k_is); (case k => k_is)))
    (case fCont => (refine' Lk.yr ?a ?l ?c ?k; (case a => k_is); (case l => k_is); (case c => k_is); (case k => k_is)))
    (case fTop => (refine' Lk.yr ?a ?l ?c ?k; (case a => k_is); (case l => k_is); (case c => k_is); (case k => k_is)))
