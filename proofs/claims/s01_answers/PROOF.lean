import PyProof.Rows.All
import Wide.All
import OpenK.AllK
import Wide.FinOn
import Open.SpecLaws
import KE.OsGo
import HandS.ForSpec
import HandS.Comp
import HandS.Iter
import HandS.WideBits
import HandS.Walk
import PySem.Challenge.RW_evenblocksdesk_s01_answers
import HandS.CallLocal
import KE.GoesEnumKw
import HandS.SortKw
import HandS.Conv
import HandS.Text
import HandS.Dict
import HandS.WordsDict
set_option Elab.async false
namespace Eb
/-! ## Masks -/
def maskOf (b : List Nat) : Nat := b.foldl (fun m p => m ||| 2 ^ p) 0

theorem testBit_foldl (b : List Nat) (m q : Nat) : (b.foldl (fun m p => m ||| 2 ^ p) m).testBit q = (m.testBit q || b.contains q) := by
  induction b generalizing m with
  | nil => simp
  | cons p r ih =>
    rw [List.foldl_cons, ih, Nat.testBit_or, Nat.testBit_two_pow, List.contains_cons, Bool.or_assoc]
    congr 2
    by_cases h : p = q
    · subst h; simp
    · simp [h]; exact fun e => h e.symm

theorem testBit_mask (b : List Nat) (q : Nat) : (maskOf b).testBit q = b.contains q := by
  unfold maskOf; rw [testBit_foldl]; simp

theorem mask_and_eq (b s : List Nat) : (maskOf b &&& maskOf s = maskOf s) ↔ s.all b.contains = true := by
  constructor
  · intro h
    rw [List.all_eq_true]
    intro x hx
    have e := congrArg (fun m => m.testBit x) h
    simp only [Nat.testBit_and, testBit_mask] at e
    have : s.contains x = true := by simpa using hx
    rw [this] at e
    simpa using e
  · intro h
    apply Nat.eq_of_testBit_eq
    intro i
    rw [Nat.testBit_and, testBit_mask, testBit_mask]
    rw [List.all_eq_true] at h
    by_cases hi : i ∈ s
    · have := h i hi
      rw [this]; simp
    · have : s.contains i = false := by simpa using hi
      rw [this]; simp

/-- how many bits are 1 -/
def pc (n : Nat) : Nat := if h : n = 0 then 0 else n % 2 + pc (n / 2)
theorem pc_zero : pc 0 = 0 := by unfold pc; simp
theorem pc_step (n : Nat) : pc n = n % 2 + pc (n / 2) := by
  by_cases h : n = 0
  · subst h; simp [pc_zero]
  · conv => lhs; unfold pc
    simp [h]

theorem pc_drop (n : Nat) (h : 0 < n) : pc (n &&& (n - 1)) + 1 = pc n := by
  induction n using Nat.strongRecOn with
  | _ n ih =>
    by_cases o : n % 2 = 1
    · have e : n &&& (n - 1) = n - 1 := by
        have h2 : n = 2 * (n / 2) + 1 := by omega
        apply Nat.eq_of_testBit_eq
        intro i
        rw [Nat.testBit_and]
        cases i with
        | zero => 
          have : (n-1) % 2 = 0 := by omega
          simp [Nat.testBit_zero, this]
        | succ i =>
          rw [Nat.testBit_succ, Nat.testBit_succ]
          have : (n - 1) / 2 = n / 2 := by omega
          rw [this]; simp
      rw [e, pc_step (n-1), pc_step n]
      have : (n - 1) / 2 = n / 2 := by omega
      rw [this]; omega
    · have hm : 0 < n / 2 := by omega
      have e : (n &&& (n - 1)) / 2 = n / 2 &&& (n / 2 - 1) := by
        rw [Nat.and_div_two]
        have : (n - 1) / 2 = n / 2 - 1 := by omega
        rw [this]
      have e2 : (n &&& (n - 1)) % 2 = 0 := by
        have : (n &&& (n-1)).testBit 0 = false := by
          rw [Nat.testBit_and]; simp [Nat.testBit_zero]; omega
        rw [Nat.testBit_zero] at this
        have := of_decide_eq_false this
        omega
      rw [pc_step (n &&& (n-1)), e, e2, pc_step n]
      have := ih (n/2) (by omega) hm
      omega

theorem pc_or (m p : Nat) (h : m.testBit p = false) : pc (m ||| 2 ^ p) = pc m + 1 := by
  induction p generalizing m with
  | zero =>
    have hm : m % 2 = 0 := by simpa [Nat.testBit_zero] using h
    have e : (m ||| 2 ^ 0) / 2 = m / 2 := by rw [Nat.or_div_two]; simp
    have e2 : (m ||| 2 ^ 0) % 2 = 1 := by
      have : (m ||| 2 ^ 0).testBit 0 = true := by rw [Nat.testBit_or]; simp
      simpa [Nat.testBit_zero] using this
    rw [pc_step (m ||| 2 ^ 0), e, e2, pc_step m]; omega
  | succ p ih =>
    have h' : (m / 2).testBit p = false := by rw [Nat.testBit_succ] at h; exact h
    have e : (m ||| 2 ^ (p + 1)) / 2 = m / 2 ||| 2 ^ p := by
      rw [Nat.or_div_two, Nat.pow_succ]; simp
    have e2 : (m ||| 2 ^ (p + 1)) % 2 = m % 2 := by
      have : (m ||| 2 ^ (p+1)).testBit 0 = m.testBit 0 := by rw [Nat.testBit_or]; simp
      simp only [Nat.testBit_zero] at this
      have := decide_eq_decide.mp this
      omega
    rw [pc_step (m ||| 2 ^ (p+1)), e, e2, pc_step m, ih _ h']; omega

theorem pc_foldl (b : List Nat) (m : Nat) (nd : b.Nodup) (h : ∀ p ∈ b, m.testBit p = false) : pc (b.foldl (fun m p => m ||| 2 ^ p) m) = pc m + b.length := by
  induction b generalizing m with
  | nil => simp
  | cons p r ih =>
    rw [List.nodup_cons] at nd
    rw [List.foldl_cons, ih _ nd.2, pc_or _ _ (h p (by simp)), List.length_cons]; omega
    intro q hq
    rw [Nat.testBit_or, h q (by simp [hq]), Nat.testBit_two_pow]
    have : p ≠ q := fun e => nd.1 (e ▸ hq)
    simp [this]
theorem pc_mask (b : List Nat) (nd : b.Nodup) : pc (maskOf b) = b.length := by
  unfold maskOf; rw [pc_foldl b 0 nd (by simp), pc_zero]; omega

theorem mask_common (a b : List Nat) : maskOf a &&& maskOf b = maskOf (Dg01.common a b) := by
  apply Nat.eq_of_testBit_eq
  intro i
  rw [Nat.testBit_and, testBit_mask, testBit_mask, testBit_mask]
  unfold Dg01.common
  rw [Bool.eq_iff_iff]; simp
theorem pc_common (a b : List Nat) (nd : a.Nodup) : pc (maskOf a &&& maskOf b) = (Dg01.common a b).length := by
  rw [mask_common, pc_mask]
  exact nd.sublist (List.filter_sublist)
end Eb

set_option Elab.async false
namespace Eb
open Dg01 (choices)
/-! ## How many choices -/
def bin : Nat → Nat → Nat
  | _, 0 => 1
  | 0, _ + 1 => 0
  | n + 1, k + 1 => bin n k + bin n (k + 1)
theorem bin_zero_right (n : Nat) : bin n 0 = 1 := by cases n <;> rfl
theorem bin_lt : ∀ (n k : Nat), n < k → bin n k = 0
  | 0, 0, h => by omega
  | 0, k + 1, _ => rfl
  | n + 1, 0, h => by omega
  | n + 1, k + 1, h => by
    show bin n k + bin n (k + 1) = 0
    rw [bin_lt n k (by omega), bin_lt n (k + 1) (by omega)]
theorem bin_mul : ∀ (n k : Nat), bin n (k + 1) * (k + 1) = bin n k * (n - k)
  | 0, k => by simp [bin]
  | n + 1, 0 => by
    have := bin_mul n 0
    rw [bin_zero_right] at this
    show (bin n 0 + bin n 1) * 1 = bin (n + 1) 0 * (n + 1 - 0)
    rw [bin_zero_right, bin_zero_right]
    simp at this ⊢; omega
  | n + 1, j + 1 => by
    have h1 := bin_mul n (j + 1)
    have h2 := bin_mul n j
    show (bin n (j + 1) + bin n (j + 2)) * (j + 2) = (bin n j + bin n (j + 1)) * (n + 1 - (j + 1))
    by_cases c : n < j + 1
    · have z := bin_lt n (j + 1) c
      have z2 := bin_lt n (j + 2) (by omega)
      rw [z] at h2
      have e : n + 1 - (j + 1) = n - j := by omega
      rw [z, z2, e]; simp at h2 ⊢; omega
    · have e : n + 1 - (j + 1) = n - j := by omega
      rw [e, Nat.add_mul, Nat.add_mul, h1, ← h2, ← Nat.mul_add, ← Nat.mul_add]
      congr 1; omega
theorem ways_step (n k : Nat) : ((bin n k : Int) * ((n : Int) - (k : Int))) / ((k : Int) + 1) = (bin n (k + 1) : Int) := by
  by_cases c : k ≤ n
  · have h := bin_mul n k
    have e : (bin n k : Int) * ((n : Int) - (k : Int)) = (bin n (k + 1) : Int) * ((k : Int) + 1) := by
      have : ((n : Int) - (k : Int)) = ((n - k : Nat) : Int) := by omega
      rw [this]
      exact_mod_cast h.symm
    rw [e, Int.mul_ediv_cancel _ (by omega)]
  · rw [bin_lt n k (by omega), bin_lt n (k + 1) (by omega)]; simp

theorem choices_length : ∀ (k : Nat) (l : List Nat), (choices k l).length = bin l.length k
  | 0, l => by cases l <;> simp [choices, bin]
  | k + 1, [] => by simp [choices, bin]
  | k + 1, x :: l => by
    simp only [choices, List.length_append, List.length_map, choices_length k l, choices_length (k + 1) l, List.length_cons, bin]
theorem choices_filter (q : Nat → Bool) : ∀ (k : Nat) (l : List Nat), choices k (l.filter q) = (choices k l).filter (fun c => c.all q)
  | 0, l => by cases l <;> simp [choices, List.filter_cons]
  | k + 1, [] => by simp [choices]
  | k + 1, x :: l => by
    by_cases h : q x = true
    · rw [List.filter_cons_of_pos h]
      simp only [choices, List.filter_append, choices_filter q k l, choices_filter q (k + 1) l, List.filter_map]
      congr 2
      apply List.filter_congr
      intro c _
      simp [h]
    · rw [List.filter_cons_of_neg h]
      simp only [choices, List.filter_append, choices_filter q (k + 1) l, List.filter_map]
      have : List.filter ((fun c => List.all c q) ∘ fun c => x :: c) (choices k l) = [] := by
        rw [List.filter_eq_nil_iff]
        intro c _
        simp [h]
      rw [this]; simp
/-! ## Counting twice -/
theorem count_twice {α β : Type} (L : List α) (B : List β) (r : α → β → Bool) :
    (L.map (fun s => (B.filter (r s)).length)).sum = (B.map (fun b => (L.filter (fun s => r s b)).length)).sum := by
  induction L with
  | nil =>
    simp only [List.map_nil, List.sum_nil, List.filter_nil, List.length_nil]
    induction B with
    | nil => rfl
    | cons b B ih =>
      rw [List.map_cons, List.sum_cons, ← ih]
      rfl
  | cons s L ih =>
    rw [List.map_cons, List.sum_cons, ih]
    clear ih
    induction B with
    | nil => simp
    | cons b B ih =>
      simp only [List.map_cons, List.sum_cons, List.filter_cons]
      cases h : r s b
      · simp only [h] at *
        simp at ih ⊢
        simp only [List.filter_cons] at ih
        omega
      · simp only [h] at *
        simp at ih ⊢
        simp only [List.filter_cons] at ih
        omega
/-- all ordered pairs -/
def both {β : Type} (B C : List β) : List (β × β) := B.flatMap fun b => C.map fun c => (b, c)
theorem both_filter {β : Type} (q : β → Bool) (B C : List β) : ((both B C).filter fun z => q z.1 && q z.2).length = (B.filter q).length * (C.filter q).length := by
  induction B with
  | nil => simp [both]
  | cons b B ih =>
    have e : both (b :: B) C = C.map (fun c => (b, c)) ++ both B C := by simp [both]
    rw [e, List.filter_append, List.length_append, ih, List.filter_map, List.length_map]
    cases h : q b
    · have : ((fun (z : β × β) => q z.1 && q z.2) ∘ fun c => (b, c)) = fun _ => false := by funext c; simp [h]
      rw [this, List.filter_cons]; simp [h]
    · have : ((fun (z : β × β) => q z.1 && q z.2) ∘ fun c => (b, c)) = q := by funext c; simp [h]
      rw [this, List.filter_cons]; simp [h]; rw [Nat.add_mul]; omega
/-- each two, in order -/
def pairs {β : Type} : List β → List (β × β)
  | [] => []
  | x :: l => l.map (fun y => (x, y)) ++ pairs l
theorem both_sum {β : Type} (g : β → β → Nat) (sym : ∀ a b, g a b = g b a) (B : List β) :
    ((both B B).map fun z => g z.1 z.2).sum = (B.map fun b => g b b).sum + 2 * ((pairs B).map fun z => g z.1 z.2).sum := by
  have row : ∀ (B C : List β), ((both B C).map fun z => g z.1 z.2).sum = (B.map fun b => (C.map fun c => g b c).sum).sum := by
    intro B C
    induction B with
    | nil => simp [both]
    | cons b B ih =>
      have e : both (b :: B) C = C.map (fun c => (b, c)) ++ both B C := by simp [both]
      rw [e, List.map_append, List.sum_append, ih, List.map_map, List.map_cons, List.sum_cons]; rfl
  have split : ∀ (x : β) (B C : List β), (B.map fun b => ((x :: C).map fun c => g b c).sum).sum = (B.map fun b => g b x).sum + (B.map fun b => (C.map fun c => g b c).sum).sum := by
    intro x B C
    induction B with
    | nil => simp
    | cons b B ih => simp only [List.map_cons, List.sum_cons] at ih ⊢; omega
  rw [row]
  induction B with
  | nil => simp [pairs]
  | cons x B ih =>
    rw [List.map_cons, List.sum_cons, split, ih]
    simp only [pairs, List.map_append, List.sum_append, List.map_cons, List.sum_cons, List.map_map]
    have e1 : (B.map fun b => g b x) = B.map fun c => g x c := by
      apply List.map_congr_left; intro b _; exact sym b x
    have e2 : ((fun (z : β × β) => g z.1 z.2) ∘ fun y => (x, y)) = fun c => g x c := rfl
    rw [e1, e2]; omega
/-! ## The spread -/
theorem spread (l : List Int) (x : Int) : ((l.length : Int) + 1) * (x * x + (l.map fun y => y * y).sum) - (x + l.sum) * (x + l.sum)
    = ((l.length : Int) * (l.map fun y => y * y).sum - l.sum * l.sum) + (l.map fun y => (x - y) * (x - y)).sum := by
  have h : (l.map fun y => (x - y) * (x - y)).sum = (l.length : Int) * (x * x) - 2 * x * l.sum + (l.map fun y => y * y).sum := by
    induction l with
    | nil => simp
    | cons y l ih =>
      simp only [List.map_cons, List.sum_cons, List.length_cons, ih]
      have : ((l.length + 1 : Nat) : Int) = (l.length : Int) + 1 := by omega
      rw [this]
      grind
  rw [h]; grind
theorem squares_nonneg (l : List Int) (x : Int) : 0 ≤ (l.map fun y => (x - y) * (x - y)).sum := by
  induction l with
  | nil => simp
  | cons y l ih =>
    simp only [List.map_cons, List.sum_cons]
    have : 0 ≤ (x - y) * (x - y) := by
      rcases Int.le_total 0 (x - y) with h | h
      · exact Int.mul_nonneg h h
      · exact Int.mul_nonneg_of_nonpos_of_nonpos h h
    omega
theorem squares_zero (l : List Int) (x : Int) : (l.map fun y => (x - y) * (x - y)).sum = 0 ↔ ∀ y ∈ l, y = x := by
  induction l with
  | nil => simp
  | cons y l ih =>
    simp only [List.map_cons, List.sum_cons, List.forall_mem_cons]
    have h1 : 0 ≤ (x - y) * (x - y) := by
      rcases Int.le_total 0 (x - y) with h | h
      · exact Int.mul_nonneg h h
      · exact Int.mul_nonneg_of_nonpos_of_nonpos h h
    have h2 := squares_nonneg l x
    constructor
    · intro h
      have a : (x - y) * (x - y) = 0 := by omega
      have b : (l.map fun y => (x - y) * (x - y)).sum = 0 := by omega
      refine ⟨?_, ih.mp b⟩
      rcases Int.mul_eq_zero.mp a with h | h <;> omega
    · rintro ⟨rfl, h⟩
      rw [ih.mpr h]; simp
theorem spread_nonneg : ∀ (l : List Int), 0 ≤ (l.length : Int) * (l.map fun y => y * y).sum - l.sum * l.sum
  | [] => by simp
  | x :: l => by
    have h1 := spread l x
    have h2 := squares_nonneg l x
    have h3 := spread_nonneg l
    have : (((x :: l).length : Nat) : Int) = (l.length : Int) + 1 := by simp
    simp only [List.map_cons, List.sum_cons] at *
    rw [this]
    omega
theorem same_sum : ∀ (l : List Int) (x : Int), (∀ y ∈ l, y = x) → l.sum = l.length * x
  | [], x, _ => by simp
  | y :: l, x, h => by
    have hy := h y (by simp)
    have := same_sum l x (fun z hz => h z (by simp [hz]))
    simp only [List.sum_cons, List.length_cons, this, hy]
    grind
theorem same_squares : ∀ (l : List Int) (x : Int), (∀ y ∈ l, y = x) → (l.map fun y => y * y).sum = l.length * (x * x)
  | [], x, _ => by simp
  | y :: l, x, h => by
    have hy := h y (by simp)
    have := same_squares l x (fun z hz => h z (by simp [hz]))
    simp only [List.map_cons, List.sum_cons, List.length_cons, this, hy]
    grind
theorem spread_zero : ∀ (l : List Int) (x : Int), ((x :: l).length : Int) * ((x :: l).map fun y => y * y).sum = (x :: l).sum * (x :: l).sum ↔ ∀ y ∈ l, y = x := by
  intro l x
  have h1 := spread l x
  have h2 := squares_nonneg l x
  have h3 := spread_nonneg l
  have e : (((x :: l).length : Nat) : Int) = (l.length : Int) + 1 := by simp
  simp only [List.map_cons, List.sum_cons] at *
  rw [e, ← squares_zero]
  constructor
  · intro h
    omega
  · intro h
    have all : ∀ y ∈ l, y = x := (squares_zero l x).mp h
    have z : (l.length : Int) * (l.map fun y => y * y).sum - l.sum * l.sum = 0 := by
      have s1 := same_sum l x all
      have s2 := same_squares l x all
      rw [s1, s2]; grind
    omega
end Eb

set_option Elab.async false
namespace Eb
open Dg01 (Plan choices points together counts even common)
/-- a block as the plan keeps it: some of the points, rising -/
def Norm (pts b : List Nat) : Prop := b = pts.filter b.contains
structure Wf (p : Plan) : Prop where
  norm : ∀ b ∈ p.blocks, Norm (points p) b
theorem points_length (p : Plan) : (points p).length = p.many := by simp [points]
theorem points_nodup (p : Plan) : (points p).Nodup := by
  unfold points
  rw [List.nodup_iff_pairwise_ne, List.pairwise_map]
  exact (List.nodup_range (n := p.many)).imp (fun h => by omega)
theorem points_pairwise (p : Plan) : (points p).Pairwise (· < ·) := by
  unfold points
  rw [List.pairwise_map]
  exact (List.pairwise_lt_range (n := p.many)).imp (fun h => by omega)
theorem mem_points (p : Plan) (x : Nat) : x ∈ points p ↔ 1 ≤ x ∧ x ≤ p.many := by
  unfold points
  rw [List.mem_map]
  constructor
  · rintro ⟨i, hi, rfl⟩
    rw [List.mem_range] at hi; omega
  · intro h
    exact ⟨x - 1, by rw [List.mem_range]; omega, by omega⟩
theorem Norm.nodup {p : Plan} {b : List Nat} (h : Norm (points p) b) : b.Nodup := by
  rw [h]; exact (points_nodup p).sublist List.filter_sublist
theorem Norm.mem {p : Plan} {b : List Nat} (h : Norm (points p) b) {x : Nat} (hx : x ∈ b) : 1 ≤ x ∧ x ≤ p.many := by
  rw [h, List.mem_filter] at hx; exact (mem_points p x).mp hx.1
theorem within_count {pts b : List Nat} (h : Norm pts b) (t : Nat) : ((choices t pts).filter fun s => s.all b.contains).length = bin b.length t := by
  rw [← choices_filter, choices_length]
  conv => rhs; rw [h]
theorem within_both {pts a b : List Nat} (h : Norm pts a) (t : Nat) : ((choices t pts).filter fun s => s.all a.contains && s.all b.contains).length = bin (common a b).length t := by
  have e : (fun (s : List Nat) => s.all a.contains && s.all b.contains) = fun s => s.all (fun x => a.contains x && b.contains x) := by
    funext s
    rw [Bool.eq_iff_iff]
    simp only [Bool.and_eq_true, List.all_eq_true]
    exact ⟨fun h x hx => ⟨h.1 x hx, h.2 x hx⟩, fun h => ⟨fun x hx => (h x hx).1, fun x hx => (h x hx).2⟩⟩
  rw [e, ← choices_filter, choices_length]
  congr 2
  unfold common
  conv => rhs; rw [h]
  rw [List.filter_filter]
  apply List.filter_congr
  intro x _
  rw [Bool.and_comm]
/-- the sum of how often, the sum of its squares -/
def total (p : Plan) (t : Nat) : Nat := (p.blocks.map fun b => bin b.length t).sum
def squares (p : Plan) (t : Nat) : Nat := total p t + 2 * ((pairs p.blocks).map fun z => bin (common z.1 z.2).length t).sum
theorem map_congr_mem {α β : Type} {f g : α → β} {l : List α} (h : ∀ a ∈ l, f a = g a) : l.map f = l.map g := List.map_congr_left h
theorem counts_sum {p : Plan} (W : Wf p) (t : Nat) : (counts p t).sum = total p t := by
  unfold counts total together
  rw [count_twice (choices t (points p)) p.blocks (fun s b => s.all b.contains)]
  congr 1
  apply List.map_congr_left
  intro b hb
  exact within_count (W.norm b hb) t
theorem mem_both {β : Type} {B C : List β} {z : β × β} (h : z ∈ both B C) : z.1 ∈ B ∧ z.2 ∈ C := by
  unfold both at h
  simp only [List.mem_flatMap, List.mem_map] at h
  obtain ⟨b, hb, c, hc, rfl⟩ := h
  exact ⟨hb, hc⟩
theorem counts_squares {p : Plan} (W : Wf p) (t : Nat) : ((counts p t).map fun y => y * y).sum = squares p t := by
  have e1 : ((counts p t).map fun y => y * y) = (choices t (points p)).map fun s => ((both p.blocks p.blocks).filter fun z => (fun b : List Nat => s.all b.contains) z.1 && (fun b : List Nat => s.all b.contains) z.2).length := by
    unfold counts
    rw [List.map_map]
    apply List.map_congr_left
    intro s _
    rw [both_filter (fun b : List Nat => s.all b.contains)]
    rfl
  rw [e1, count_twice (choices t (points p)) (both p.blocks p.blocks) (fun s z => s.all z.1.contains && s.all z.2.contains)]
  have e2 : (both p.blocks p.blocks).map (fun z => ((choices t (points p)).filter fun s => s.all z.1.contains && s.all z.2.contains).length) = (both p.blocks p.blocks).map fun z => bin (pc (maskOf z.1 &&& maskOf z.2)) t := by
    apply List.map_congr_left
    intro z hz
    have := mem_both hz
    rw [within_both (W.norm _ this.1), pc_common _ _ (W.norm _ this.1).nodup]
  rw [e2, both_sum (fun a b => bin (pc (maskOf a &&& maskOf b)) t) (fun a b => by rw [Nat.and_comm])]
  unfold squares total
  have e3 : (p.blocks.map fun b => bin (pc (maskOf b &&& maskOf b)) t) = p.blocks.map fun b => bin b.length t := by
    apply List.map_congr_left
    intro b hb
    rw [Nat.and_self, pc_mask _ (W.norm b hb).nodup]
  have e4 : ((pairs p.blocks).map fun z => bin (pc (maskOf z.1 &&& maskOf z.2)) t) = (pairs p.blocks).map fun z => bin (common z.1 z.2).length t := by
    apply List.map_congr_left
    intro z hz
    have hm : ∀ (B : List (List Nat)), z ∈ pairs B → z.1 ∈ B := by
      intro B
      induction B with
      | nil => simp [pairs]
      | cons x B ih =>
        intro h
        simp only [pairs, List.mem_append, List.mem_map] at h
        rcases h with ⟨y, _, rfl⟩ | h
        · simp
        · exact List.mem_cons_of_mem _ (ih h)
    rw [pc_common _ _ (W.norm _ (hm _ hz)).nodup]
  rw [e3, e4]
theorem counts_length (p : Plan) (t : Nat) : (counts p t).length = bin p.many t := by
  unfold counts; rw [List.length_map, choices_length, points_length]
theorem bin_pos : ∀ (n k : Nat), k ≤ n → 0 < bin n k
  | n, 0, _ => by rw [bin_zero_right]; omega
  | 0, k + 1, h => by omega
  | n + 1, k + 1, h => by
    show 0 < bin n k + bin n (k + 1)
    have := bin_pos n k (by omega)
    omega
theorem cast_sum (l : List Nat) : ((l.sum : Nat) : Int) = (l.map fun (n : Nat) => (n : Int)).sum := by
  induction l with
  | nil => rfl
  | cons x l ih => simp only [List.sum_cons, List.map_cons]; omega
theorem even_iff {p : Plan} (W : Wf p) (t : Nat) (ht : t ≤ p.many) : ((even p t).isSome = true) ↔ bin p.many t * squares p t = total p t * total p t := by
  have hl := counts_length p t
  have hs := counts_sum W t
  have hq := counts_squares W t
  have hpos := bin_pos p.many t ht
  unfold even
  cases hc : counts p t with
  | nil => rw [hc] at hl; simp at hl; omega
  | cons n l =>
    rw [hc] at hl hs hq
    have key := spread_zero (l.map fun (n : Nat) => (n : Int)) (n : Int)
    have a1 : (((n : Int) :: l.map fun (n : Nat) => (n : Int)).length : Int) = (bin p.many t : Int) := by
      rw [← hl]; simp
    have a2 : ((n : Int) :: l.map fun (n : Nat) => (n : Int)).sum = (total p t : Int) := by
      rw [← hs, cast_sum]; rfl
    have a3 : (((n : Int) :: l.map fun (n : Nat) => (n : Int)).map fun y => y * y).sum = (squares p t : Int) := by
      rw [← hq, cast_sum, List.map_map]
      congr 1
      simp only [List.map_cons, List.map_map]
      congr 1
    rw [a1, a2, a3] at key
    have k2 : (bin p.many t * squares p t = total p t * total p t) ↔ ∀ y ∈ l, y = n := by
      constructor
      · intro h y hy
        have := key.mp (by exact_mod_cast h) (y : Int) (List.mem_map.mpr ⟨y, hy, rfl⟩)
        exact_mod_cast this
      · intro h
        have := key.mpr (fun y hy => by
          obtain ⟨z, hz, rfl⟩ := List.mem_map.mp hy
          rw [h z hz])
        exact_mod_cast this
    rw [k2]
    dsimp only
    by_cases c : l.all (fun m => m == n) = true
    · rw [if_pos c]; simp; simpa using c
    · rw [if_neg c]; simp; simpa using c
end Eb

set_option Elab.async false
namespace Eb
open Dg01 (Plan choices points together counts even common odd rises isSet)
/-! ## Rising -/
def riseB (top : Nat) : Nat → List Nat → Bool
  | _, [] => true
  | b, x :: l => if x ≤ b ∨ top < x then false else riseB top x l
theorem rises_iff : ∀ (l : List Nat), rises l = true ↔ l.Pairwise (· < ·)
  | [] => by simp [rises]
  | [x] => by simp [rises]
  | x :: y :: l => by
    rw [rises, Bool.and_eq_true, rises_iff (y :: l), decide_eq_true_eq, List.pairwise_cons (a := x)]
    constructor
    · rintro ⟨h, q⟩
      refine ⟨fun z hz => ?_, q⟩
      rcases List.mem_cons.mp hz with rfl | hz
      · exact h
      · have := (List.pairwise_cons.mp q).1 z hz; omega
    · rintro ⟨h, q⟩
      exact ⟨h y (by simp), q⟩
theorem riseB_iff (top : Nat) : ∀ (l : List Nat) (b : Nat), riseB top b l = true ↔ (b :: l).Pairwise (· < ·) ∧ ∀ x ∈ l, x ≤ top
  | [], b => by simp [riseB]
  | x :: l, b => by
    unfold riseB
    by_cases c : x ≤ b ∨ top < x
    · rw [if_pos c]
      constructor
      · intro h; cases h
      · rintro ⟨h, q⟩
        have h1 := (List.pairwise_cons.mp h).1 x (by simp)
        have h2 := q x (by simp)
        omega
    · rw [if_neg c, riseB_iff top l x]
      rw [List.pairwise_cons (a := b)]
      constructor
      · rintro ⟨h, q⟩
        refine ⟨⟨fun z hz => ?_, h⟩, fun z hz => ?_⟩
        · rcases List.mem_cons.mp hz with rfl | hz
          · omega
          · have := (List.pairwise_cons.mp h).1 z hz; omega
        · rcases List.mem_cons.mp hz with rfl | hz
          · omega
          · exact q z hz
      · rintro ⟨⟨h1, h2⟩, q⟩
        exact ⟨h2, fun z hz => q z (by simp [hz])⟩
theorem isSet_iff (p : Plan) (l : List Nat) : isSet p l = true ↔ l.Pairwise (· < ·) ∧ ∀ x ∈ l, 1 ≤ x ∧ x ≤ p.many := by
  unfold isSet
  rw [Bool.and_eq_true, rises_iff, List.all_eq_true]
  simp
theorem riseB_isSet (p : Plan) (l : List Nat) : riseB p.many 0 l = isSet p l := by
  rw [Bool.eq_iff_iff, riseB_iff, isSet_iff, List.pairwise_cons]
  constructor
  · rintro ⟨⟨h1, h2⟩, h3⟩
    exact ⟨h2, fun x hx => ⟨h1 x hx, h3 x hx⟩⟩
  · rintro ⟨h1, h2⟩
    exact ⟨⟨fun x hx => by have := (h2 x hx).1; omega, h1⟩, fun x hx => (h2 x hx).2⟩
theorem sorted_ext : ∀ (l k : List Nat), l.Pairwise (· < ·) → k.Pairwise (· < ·) → (∀ x, x ∈ l ↔ x ∈ k) → l = k
  | [], [], _, _, _ => rfl
  | [], y :: k, _, _, h => by have := (h y).mpr (by simp); cases this
  | x :: l, [], _, _, h => by have := (h x).mp (by simp); cases this
  | x :: l, y :: k, h1, h2, h => by
    rw [List.pairwise_cons] at h1 h2
    have e : x = y := by
      rcases List.mem_cons.mp ((h x).mp (by simp)) with e | e
      · exact e
      · rcases List.mem_cons.mp ((h y).mpr (by simp)) with e' | e'
        · exact e'.symm
        · have := h2.1 x e; have := h1.1 y e'; omega
    subst e
    congr 1
    apply sorted_ext l k h1.2 h2.2
    intro z
    constructor
    · intro hz
      rcases List.mem_cons.mp ((h z).mp (by simp [hz])) with e | e
      · have := h1.1 z hz; omega
      · exact e
    · intro hz
      rcases List.mem_cons.mp ((h z).mpr (by simp [hz])) with e | e
      · have := h2.1 z hz; omega
      · exact e
theorem norm_iff (p : Plan) (l : List Nat) : Norm (points p) l ↔ isSet p l = true := by
  rw [isSet_iff]
  constructor
  · intro h
    refine ⟨?_, fun x hx => h.mem hx⟩
    rw [h]; exact (points_pairwise p).sublist List.filter_sublist
  · rintro ⟨h1, h2⟩
    apply sorted_ext _ _ h1 ((points_pairwise p).sublist List.filter_sublist)
    intro x
    rw [List.mem_filter, mem_points]
    constructor
    · intro hx; exact ⟨h2 x hx, by simpa using hx⟩
    · rintro ⟨_, hx⟩; simpa using hx
/-! ## Choices, one longer each time -/
theorem points_range (p : Plan) : points p = List.range' 1 p.many := by
  unfold points
  apply List.ext_getElem
  · simp
  · intro i h1 h2; simp; omega
/-- the last, or another -/
def lastD : List Nat → Nat → Nat
  | [], d => d
  | x :: l, _ => lastD l x
def ext (top d : Nat) (c : List Nat) : List (List Nat) := (List.range' (lastD c d + 1) (top - lastD c d)).map fun q => c ++ [q]
def longer (top : Nat) (cs : List (List Nat)) : List (List Nat) := cs.flatMap (ext top 0)
theorem choices_succ_ne : ∀ (k : Nat) (l c : List Nat), c ∈ choices (k + 1) l → c ≠ []
  | k, [], c, h => by simp [choices] at h
  | k, x :: l, c, h => by
    simp only [choices, List.mem_append, List.mem_map] at h
    rcases h with ⟨d, _, rfl⟩ | h
    · simp
    · exact choices_succ_ne k l c h
theorem lastD_ne : ∀ {c : List Nat} (d e : Nat), c ≠ [] → lastD c d = lastD c e
  | [], _, _, h => absurd rfl h
  | x :: l, _, _, _ => rfl
theorem flatMap_congr_mem {α β : Type} {f g : α → List β} {l : List α} (h : ∀ a ∈ l, f a = g a) : l.flatMap f = l.flatMap g := by
  induction l with
  | nil => rfl
  | cons a l ih => rw [List.flatMap_cons, List.flatMap_cons, h a (by simp), ih (fun b hb => h b (by simp [hb]))]
theorem choices_longer : ∀ (n k s top : Nat), s + n = top → choices (k + 1) (List.range' (s + 1) n) = (choices k (List.range' (s + 1) n)).flatMap (ext top s)
  | 0, 0, s, top, h => by
    subst h
    simp [choices, ext, lastD]
  | 0, k + 1, s, top, h => by simp [choices]
  | n + 1, 0, s, top, h => by
    have ih := choices_longer n 0 (s + 1) top (by omega)
    rw [List.range'_succ]
    simp only [choices, ih]
    have e1 : top - s = n + 1 := by omega
    have e2 : top - (s + 1) = n := by omega
    simp only [choices, List.flatMap_cons, List.flatMap_nil, ext, lastD, e1, e2, List.range'_succ]
    simp
  | n + 1, k + 1, s, top, h => by
    have ih1 := choices_longer n k (s + 1) top (by omega)
    have ih2 := choices_longer n (k + 1) (s + 1) top (by omega)
    rw [List.range'_succ]
    show (choices (k + 1) (List.range' (s + 1 + 1) n)).map (fun c => (s + 1) :: c) ++ choices (k + 2) (List.range' (s + 1 + 1) n) = ((choices k (List.range' (s + 1 + 1) n)).map (fun c => (s + 1) :: c) ++ choices (k + 1) (List.range' (s + 1 + 1) n)).flatMap (ext top s)
    rw [List.flatMap_append]
    congr 1
    · rw [ih1, List.map_flatMap, List.flatMap_map]
      apply flatMap_congr_mem
      intro c _
      simp [ext, lastD, Function.comp_def]
    · rw [ih2]
      apply flatMap_congr_mem
      intro c hc
      have := choices_succ_ne _ _ _ hc
      unfold ext
      rw [lastD_ne s (s + 1) this]
theorem longer_choices (p : Plan) (k : Nat) : longer p.many (choices k (points p)) = choices (k + 1) (points p) := by
  rw [points_range]
  exact (choices_longer p.many k 0 p.many (by omega)).symm
/-! ## The greatest t -/
theorem take_range {k t0 : Nat} {q : Nat → Bool} (h : ∀ t ≤ t0, q t = true) (le : t0 ≤ k) (e : t0 = k ∨ q (t0 + 1) = false) : ((List.range (k + 1)).takeWhile q).length = t0 + 1 := by
  have e1 : k + 1 = (t0 + 1) + (k - t0) := by omega
  rw [e1, List.range_add, List.takeWhile_append_of_pos (fun a ha => h a (by rw [List.mem_range] at ha; omega)), List.length_append, List.length_range]
  have : ((List.range (k - t0)).map fun x => t0 + 1 + x).takeWhile q = [] := by
    rcases e with rfl | e
    · simp
    · cases d : k - t0 with
      | zero => simp
      | succ d =>
        rw [List.range_succ_eq_map, List.map_cons, List.takeWhile_cons]
        simp [e]
  rw [this]; rfl
/-! ## Each two blocks -/
theorem map_getD_range {α : Type} (d : α) : ∀ (l : List α), (List.range l.length).map (fun i => l.getD i d) = l := by
  intro l
  apply List.ext_getElem
  · simp
  · intro i h1 h2
    simp at h1 ⊢
    simp [List.getElem?_eq_getElem h1]
theorem meets_pairs {γ : Type} (g : List Nat → List Nat → γ) : ∀ (B : List (List Nat)),
    ((List.range B.length).flatMap fun i => ((List.range B.length).filter fun j => decide (i < j)).map fun j => g (B.getD i []) (B.getD j [])) = (pairs B).map fun z => g z.1 z.2
  | [] => rfl
  | b :: B => by
    have ih := meets_pairs g B
    rw [List.length_cons, List.range_succ_eq_map, List.flatMap_cons, List.flatMap_map]
    simp only [pairs, List.map_append, List.map_map]
    congr 1
    · rw [List.filter_cons_of_neg (by simp)]
      have : ((List.range B.length).map Nat.succ).filter (fun j => decide (0 < j)) = (List.range B.length).map Nat.succ := by
        rw [List.filter_eq_self]
        intro a ha
        obtain ⟨i, _, rfl⟩ := List.mem_map.mp ha
        simp
      rw [this, List.map_map]
      have e : B.map ((fun z : List Nat × List Nat => g z.1 z.2) ∘ fun y => (b, y)) = ((List.range B.length).map (fun i => B.getD i [])).map (fun y => g b y) := by
        rw [map_getD_range]; rfl
      rw [e, List.map_map]
      rfl
    · rw [← ih]
      apply flatMap_congr_mem
      intro i _
      rw [List.filter_cons_of_neg (by simp), List.filter_map, List.map_map]
      have : (fun j => decide (i.succ < j)) ∘ Nat.succ = fun j => decide (i < j) := by
        funext j; simp
      rw [this]
      rfl
end Eb

set_option Elab.async false
set_option maxRecDepth 100000
set_option linter.all false
namespace Eb
open Dg01 (Plan points isSet)
/-! ### the lowest bit -/
def low (n : Nat) : Nat := if h : n = 0 then 0 else if n % 2 = 1 then 0 else low (n / 2) + 1
theorem low_odd {n : Nat} (h : n % 2 = 1) : low n = 0 := by
  unfold low
  rw [dif_neg (by omega), if_pos h]
theorem low_even {n : Nat} (h0 : 0 < n) (h : n % 2 = 0) : low n = low (n / 2) + 1 := by
  conv => lhs; unfold low
  rw [dif_neg (by omega), if_neg (by omega)]
theorem low_bit (n : Nat) (h : 0 < n) : n.testBit (low n) = true := by
  induction n using Nat.strongRecOn with
  | _ n ih =>
    by_cases o : n % 2 = 1
    · rw [low_odd o, Nat.testBit_zero]; simpa using o
    · rw [low_even h (by omega), Nat.testBit_succ]
      exact ih (n / 2) (by omega) (by omega)
theorem low_min (n : Nat) (h : 0 < n) : ∀ i, i < low n → n.testBit i = false := by
  induction n using Nat.strongRecOn with
  | _ n ih =>
    intro i hi
    by_cases o : n % 2 = 1
    · rw [low_odd o] at hi; omega
    · rw [low_even h (by omega)] at hi
      cases i with
      | zero => rw [Nat.testBit_zero]; simpa using (show ¬ n % 2 = 1 from o)
      | succ i =>
        rw [Nat.testBit_succ]
        exact ih (n / 2) (by omega) (by omega) i (by omega)
/-- the lowest bit by what stands and what doesn't -/
theorem low_eq {n i : Nat} (h : n.testBit i = true) (hm : ∀ j, j < i → n.testBit j = false) : low n = i := by
  have hn : 0 < n := by
    rcases Nat.eq_zero_or_pos n with e | e
    · subst e; simp at h
    · exact e
  rcases Nat.lt_trichotomy (low n) i with c | c | c
  · have := hm _ c
    rw [low_bit n hn] at this; cases this
  · exact c
  · have := low_min n hn i c
    rw [h] at this; cases this
theorem and_odd {n : Nat} (o : n % 2 = 1) : n &&& (n - 1) = n - 1 := by
  apply Nat.eq_of_testBit_eq
  intro i
  rw [Nat.testBit_and]
  cases i with
  | zero =>
    have : (n-1) % 2 = 0 := by omega
    simp [Nat.testBit_zero, this]
  | succ i =>
    rw [Nat.testBit_succ, Nat.testBit_succ]
    have : (n - 1) / 2 = n / 2 := by omega
    rw [this]; simp
theorem low_pow (n : Nat) (h : 0 < n) : n - (n &&& (n - 1)) = 2 ^ low n ∧ (n &&& (n - 1)) ≤ n := by
  induction n using Nat.strongRecOn with
  | _ n ih =>
    by_cases o : n % 2 = 1
    · rw [and_odd o, low_odd o]
      exact ⟨by rw [Nat.pow_zero]; omega, by omega⟩
    · have hm : 0 < n / 2 := by omega
      have e : (n &&& (n - 1)) / 2 = n / 2 &&& (n / 2 - 1) := by
        rw [Nat.and_div_two]
        have : (n - 1) / 2 = n / 2 - 1 := by omega
        rw [this]
      have e2 : (n &&& (n - 1)) % 2 = 0 := by
        have : (n &&& (n-1)).testBit 0 = false := by
          rw [Nat.testBit_and]; simp [Nat.testBit_zero]; omega
        rw [Nat.testBit_zero] at this
        have := of_decide_eq_false this
        omega
      obtain ⟨i1, i2⟩ := ih (n / 2) (by omega) hm
      rw [low_even h (by omega), Nat.pow_succ, ← i1]
      rw [← e] at i2 ⊢
      omega
/-- how many bits a number has -/
def bits (n : Nat) : Nat := if n = 0 then 0 else n.log2 + 1
theorem bits_pow (k : Nat) : bits (2 ^ k) = k + 1 := by
  unfold bits
  rw [if_neg (by have := Nat.two_pow_pos k; omega), Nat.log2_two_pow]
theorem lt_bits {n i : Nat} (h : n.testBit i = true) : i < bits n := by
  have hp := Nat.ge_two_pow_of_testBit h
  have h0 : n ≠ 0 := by have := Nat.two_pow_pos i; omega
  unfold bits
  rw [if_neg h0]
  have := (Nat.le_log2 h0).mpr hp
  omega
/-! ### the points of a mask -/
def ptsOf (m : Nat) : List Nat := (List.range (bits m)).filter fun i => m.testBit i
theorem ptsOf_mask {b : List Nat} (h : b.Pairwise (· < ·)) : ptsOf (maskOf b) = b := by
  apply sorted_ext _ _ ((List.pairwise_lt_range).filter _) h
  intro x
  rw [List.mem_filter, List.mem_range]
  constructor
  · intro z
    have := z.2
    rw [testBit_mask] at this
    simpa using this
  · intro hx
    have : (maskOf b).testBit x = true := by rw [testBit_mask]; simpa using hx
    exact ⟨lt_bits this, this⟩
theorem mask_ext {a b : List Nat} (h : ∀ x, x ∈ a ↔ x ∈ b) : maskOf a = maskOf b := by
  apply Nat.eq_of_testBit_eq
  intro i
  rw [testBit_mask, testBit_mask, Bool.eq_iff_iff]
  simpa using h i
theorem mask_lt {a : List Nat} {k : Nat} (h : ∀ x ∈ a, x < k) : maskOf a < 2 ^ k := by
  apply Nat.lt_pow_two_of_testBit
  intro i hi
  rw [testBit_mask]
  rw [Bool.eq_false_iff]
  intro c
  have := h i (by simpa using c)
  omega
theorem mask_pos {a : List Nat} : maskOf a = 0 ↔ a = [] := by
  constructor
  · intro h
    cases a with
    | nil => rfl
    | cons x a =>
      have : (maskOf (x :: a)).testBit x = true := by rw [testBit_mask]; simp
      rw [h] at this; simp at this
  · rintro rfl; rfl
/-- the rest of all -/
theorem mask_xor {b all : List Nat} (h : ∀ x ∈ b, x ∈ all) : maskOf all ^^^ maskOf b = maskOf (all.filter fun x => !b.contains x) := by
  apply Nat.eq_of_testBit_eq
  intro i
  rw [Nat.testBit_xor, testBit_mask, testBit_mask, testBit_mask]
  have hi := h i
  by_cases c : i ∈ all
  · by_cases d : i ∈ b
    · simp [c, d]
    · simp [c, d]
  · have d : ¬ i ∈ b := fun z => c (hi z)
    simp [c, d]
theorem mask_and_zero (a b : List Nat) : maskOf a &&& maskOf b = 0 ↔ ∀ x ∈ a, x ∉ b := by
  constructor
  · intro h x hx hb
    have : (maskOf a &&& maskOf b).testBit x = true := by
      rw [Nat.testBit_and, testBit_mask, testBit_mask]; simp [hx, hb]
    rw [h] at this; simp at this
  · intro h
    apply Nat.eq_of_testBit_eq
    intro i
    rw [Nat.testBit_and, testBit_mask, testBit_mask, Nat.zero_testBit]
    by_cases c : i ∈ a
    · have := h i c
      simp [this]
    · simp [c]
theorem mask_or (a b : List Nat) : maskOf a ||| maskOf b = maskOf (a ++ b) := by
  apply Nat.eq_of_testBit_eq
  intro i
  rw [Nat.testBit_or, testBit_mask, testBit_mask, testBit_mask, Bool.eq_iff_iff]
  simp
theorem low_mask {b : List Nat} {x : Nat} (hx : x ∈ b) (h : ∀ y ∈ b, x ≤ y) : low (maskOf b) = x := by
  refine low_eq (by rw [testBit_mask]; simpa using hx) fun j hj => ?_
  rw [testBit_mask, Bool.eq_false_iff]
  intro c
  have := h j (by simpa using c)
  omega
end Eb

set_option Elab.async false
set_option maxRecDepth 100000
set_option linter.all false
namespace Eb
open Dg01 (Plan points cover classes)
/-! ### covers -/
abbrev Bk (p : Plan) (i : Nat) : List Nat := p.blocks.getD i []
/-- all of the blocks have points -/
def Full (p : Plan) : Prop := ∀ i, i < p.blocks.length → Bk p i ≠ []
def cov (p : Plan) : Nat → List Nat → List (List Nat)
  | 0, need => if need = [] then [[]] else []
  | n + 1, need => match need with
    | [] => [[]]
    | x :: _ => ((List.range p.blocks.length).filter fun i => (Bk p i).contains x && (Bk p i).all need.contains).flatMap fun i =>
      (cov p n (need.filter fun y => !(Bk p i).contains y)).map fun c => i :: c
theorem filter_lt {l : List Nat} {q : Nat → Bool} {x : Nat} (hx : x ∈ l) (h : q x = false) : (l.filter q).length < l.length := by
  induction l with
  | nil => cases hx
  | cons a l ih =>
    have := List.length_filter_le q l
    rw [List.filter_cons]
    rcases List.mem_cons.mp hx with e | hx
    · subst e
      rw [h]; simp; omega
    · have := ih hx
      split
      · rw [List.length_cons, List.length_cons]; omega
      · rw [List.length_cons]; omega
theorem cov_nil (p : Plan) (n : Nat) : cov p n [] = [[]] := by cases n <;> rfl
theorem cov_cons (p : Plan) (n x : Nat) (r : List Nat) : cov p (n + 1) (x :: r) = ((List.range p.blocks.length).filter fun i => (Bk p i).contains x && (Bk p i).all (x :: r).contains).flatMap fun i =>
      (cov p n ((x :: r).filter fun y => !(Bk p i).contains y)).map fun c => i :: c := rfl
theorem cov_fuel (p : Plan) : ∀ (n m : Nat) (need : List Nat), need.length ≤ n → need.length ≤ m → cov p n need = cov p m need
  | n, m, [], _, _ => by rw [cov_nil, cov_nil]
  | 0, _, x :: r, h, _ => by simp at h
  | _, 0, x :: r, _, h => by simp at h
  | n + 1, m + 1, x :: r, h1, h2 => by
    rw [cov_cons, cov_cons]
    apply flatMap_congr_mem
    intro i hi
    have hc := (List.mem_filter.mp hi).2
    rw [Bool.and_eq_true] at hc
    have hl : ((x :: r).filter fun y => !(Bk p i).contains y).length < (x :: r).length := filter_lt (x := x) (by simp) (by rw [hc.1]; rfl)
    rw [cov_fuel p n m _ (by omega) (by omega)]
theorem cov_mem (p : Plan) : ∀ (n : Nat) (need c : List Nat), c ∈ cov p n need → ∀ i ∈ c, i < p.blocks.length ∧ ∀ y ∈ Bk p i, y ∈ need
  | 0, need, c, h, i, hi => by
    unfold cov at h
    split at h
    · have : c = [] := by simpa using h
      subst this; cases hi
    · cases h
  | n + 1, [], c, h, i, hi => by
    rw [cov_nil] at h
    have : c = [] := by simpa using h
    subst this; cases hi
  | n + 1, x :: r, c, h, i, hi => by
    rw [cov_cons, List.mem_flatMap] at h
    obtain ⟨j, hj, h⟩ := h
    obtain ⟨d, hd, rfl⟩ := List.mem_map.mp h
    obtain ⟨h1, h2⟩ := List.mem_filter.mp hj
    rw [Bool.and_eq_true] at h2
    rcases List.mem_cons.mp hi with e | hi
    · subst e
      refine ⟨List.mem_range.mp h1, fun y hy => ?_⟩
      have := List.all_eq_true.mp h2.2 y hy
      simpa using this
    · have := cov_mem p n _ d hd i hi
      exact ⟨this.1, fun y hy => (List.mem_filter.mp (this.2 y hy)).1⟩
/-- the specification's covers from what is left are those all whose blocks are left -/
theorem filter_flatMap_of {β : Type} (l : List Nat) (q : Nat → Bool) (f : Nat → List β) (h : ∀ i ∈ l, q i = false → f i = []) : (l.filter q).flatMap f = l.flatMap f := by
  induction l with
  | nil => rfl
  | cons a l ih =>
    have ih := ih fun i hi => h i (by simp [hi])
    rw [List.filter_cons]
    by_cases c : q a = true
    · rw [if_pos c, List.flatMap_cons, List.flatMap_cons, ih]
    · rw [if_neg c, List.flatMap_cons, h a (by simp) (by simpa using c), ih]; rfl
theorem cover_cov {p : Plan} (F : Full p) : ∀ (n : Nat) (L : Nat → Bool) (need : List Nat), cover p n ((List.range p.blocks.length).filter L) need = (cov p n need).filter fun c => c.all L
  | 0, L, need => by
    unfold cover cov
    split <;> rfl
  | n + 1, L, [] => by
    unfold cover
    rw [cov_nil]; rfl
  | n + 1, L, x :: r => by
    have e : cover p (n + 1) ((List.range p.blocks.length).filter L) (x :: r) = (((List.range p.blocks.length).filter L).filter fun i => (Bk p i).contains x && (Bk p i).all (x :: r).contains).flatMap fun i =>
      (cover p n (((List.range p.blocks.length).filter L).filter fun j => j != i) ((x :: r).filter fun y => !(Bk p i).contains y)).map fun c => i :: c := rfl
    rw [e, cov_cons, List.filter_flatMap, List.filter_filter]
    refine Eq.trans ?_ (filter_flatMap_of _ L _ ?_)
    · rw [List.filter_filter, show (fun a => ((Bk p a).contains x && (Bk p a).all (x :: r).contains) && L a) = (fun a => L a && ((Bk p a).contains x && (Bk p a).all (x :: r).contains)) from funext fun a => Bool.and_comm _ _]
      apply flatMap_congr_mem
      intro i hi
      obtain ⟨h1, h2⟩ := List.mem_filter.mp hi
      rw [Bool.and_eq_true, Bool.and_eq_true] at h2
      obtain ⟨hL, hx, hall⟩ := h2
      have hn := List.mem_range.mp h1
      rw [List.filter_filter, cover_cov F n, List.filter_map]
      congr 1
      apply List.filter_congr
      intro c hc
      show (c.all fun j => (j != i) && L j) = ((i :: c).all L)
      rw [List.all_cons, hL, Bool.true_and, Bool.eq_iff_iff, List.all_eq_true, List.all_eq_true]
      constructor
      · intro z j hj
        have := z j hj
        rw [Bool.and_eq_true] at this
        exact this.2
      · intro z j hj
        rw [Bool.and_eq_true]
        refine ⟨?_, z j hj⟩
        have hm := (cov_mem p n _ c hc j hj).2
        simp only [bne_iff_ne, ne_eq]
        rintro rfl
        cases hb : Bk p j with
        | nil => exact F j hn hb
        | cons y b =>
          have hy : y ∈ Bk p j := by rw [hb]; simp
          have := (List.mem_filter.mp (hm y hy)).2
          rw [show (Bk p j).contains y = true by simpa using hy] at this
          cases this
    · intro i _ hL
      rw [List.filter_map]
      have : (fun c => c.all L) ∘ (fun c : List Nat => i :: c) = fun _ => false := by
        funext c
        show (i :: c).all L = false
        rw [List.all_cons, hL]; rfl
      rw [this]
      simp
/-! ### the program's covers -/
def withPt (point : Nat) (st : List (Nat × Nat)) (cv : List Nat × Nat) : List (List Nat × Nat) :=
  if cv.2.testBit point = true then [cv] else (st.filter fun s => decide (cv.2 &&& s.2 = 0)).map fun s => (cv.1 ++ [s.1], cv.2 ||| s.2)
def withPoint (point : Nat) (st : List (Nat × Nat)) (cvs : List (List Nat × Nat)) : List (List Nat × Nat) := cvs.flatMap (withPt point st)
def startsAt (ms : List Nat) (point : Nat) : List (Nat × Nat) := ((List.range ms.length).filter fun i => decide (low (ms.getD i 0) = point)).map fun i => (i, ms.getD i 0)
def coversTo (ms : List Nat) : Nat → List (List Nat × Nat)
  | 0 => [([], 0)]
  | k + 1 => withPoint (k + 1) (startsAt ms (k + 1)) (coversTo ms k)
def possible (ms : List Nat) (top : Nat) : List (List Nat) := (coversTo ms top).map (·.1)
def needOf (p : Plan) (m : Nat) : List Nat := (points p).filter fun y => !m.testBit y
theorem getD_map (l : List (List Nat)) (i : Nat) : (l.map maskOf).getD i 0 = maskOf (l.getD i []) := by
  rw [List.getD_eq_getElem?_getD, List.getD_eq_getElem?_getD, List.getElem?_map]
  cases l[i]? <;> rfl
theorem covers_has (ms : List Nat) : ∀ (k : Nat) (cv : List Nat × Nat), cv ∈ coversTo ms k → ∀ q, 1 ≤ q → q ≤ k → cv.2.testBit q = true
  | 0, _, _, q, h1, h2 => by omega
  | k + 1, cv, h, q, h1, h2 => by
    unfold coversTo withPoint at h
    obtain ⟨c, hc, h⟩ := List.mem_flatMap.mp h
    have ih := covers_has ms k c hc
    unfold withPt at h
    split at h
    · rename_i hb
      have : cv = c := by simpa using h
      subst this
      by_cases e : q = k + 1
      · subst e; exact hb
      · exact ih q h1 (by omega)
    · rename_i hb
      obtain ⟨s, hs, rfl⟩ := List.mem_map.mp h
      obtain ⟨hs, _⟩ := List.mem_filter.mp hs
      show (c.2 ||| s.2).testBit q = true
      rw [Nat.testBit_or]
      by_cases e : q = k + 1
      · subst e
        unfold startsAt at hs
        obtain ⟨i, hi, rfl⟩ := List.mem_map.mp hs
        have hl := of_decide_eq_true (List.mem_filter.mp hi).2
        have h0 : 0 < ms.getD i 0 := by
          rcases Nat.eq_zero_or_pos (ms.getD i 0) with e | e
          · rw [e] at hl
            unfold low at hl
            simp at hl
          · exact e
        have := low_bit _ h0
        rw [hl] at this
        show (c.2.testBit (k + 1) || (ms.getD i 0).testBit (k + 1)) = true
        rw [this, Bool.or_true]
      · rw [ih q h1 (by omega), Bool.true_or]
theorem need_head {p : Plan} {m k : Nat} (hk : k + 1 ≤ p.many) (h1 : ∀ q, 1 ≤ q → q ≤ k → m.testBit q = true) (h2 : m.testBit (k + 1) = false) : ∃ r, needOf p m = (k + 1) :: r ∧ ∀ y ∈ r, k + 1 < y := by
  unfold needOf
  rw [points_range, show p.many = k + (1 + (p.many - k - 1)) by omega, ← List.range'_append_1, List.filter_append, ← List.range'_append_1, List.filter_append]
  have e1 : (List.range' 1 k).filter (fun y => !m.testBit y) = [] := by
    rw [List.filter_eq_nil_iff]
    intro y hy
    have := List.mem_range'_1.mp hy
    rw [h1 y (by omega) (by omega)]; simp
  have e2 : (List.range' (1 + k) 1).filter (fun y => !m.testBit y) = [k + 1] := by
    show (List.filter _ [1 + k]) = _
    rw [Nat.add_comm 1 k]
    simp [h2]
  rw [e1, e2]
  refine ⟨_, rfl, fun y hy => ?_⟩
  have := List.mem_range'_1.mp (List.mem_filter.mp hy).1
  omega
theorem need_or (p : Plan) (m : Nat) (b : List Nat) : needOf p (m ||| maskOf b) = (needOf p m).filter fun y => !b.contains y := by
  unfold needOf
  rw [List.filter_filter]
  apply List.filter_congr
  intro y _
  rw [Nat.testBit_or, testBit_mask, Bool.not_or, Bool.and_comm]
theorem covers_flat {p : Plan} (W : Wf p) : ∀ (k : Nat), k ≤ p.many → (coversTo (p.blocks.map maskOf) k).flatMap (fun cv => (cov p p.many (needOf p cv.2)).map (cv.1 ++ ·)) = cov p p.many (points p)
  | 0, _ => by
    show [([], 0)].flatMap _ = _
    rw [List.flatMap_cons, List.flatMap_nil, List.append_nil]
    have : needOf p 0 = points p := by
      unfold needOf
      rw [List.filter_eq_self]
      intro y _
      simp
    simp [this]
  | k + 1, hk => by
    rw [← covers_flat W k (by omega)]
    show (List.flatMap _ (List.flatMap _ _)) = _
    rw [List.flatMap_assoc]
    apply flatMap_congr_mem
    rintro ⟨ns, m⟩ hcv
    have hh := covers_has _ k _ hcv
    simp only at hh
    unfold withPt
    by_cases c : m.testBit (k + 1) = true
    · rw [if_pos c]; simp
    · rw [if_neg c]
      have c' : m.testBit (k + 1) = false := by simpa using c
      obtain ⟨r, hr, hlt⟩ := need_head hk hh c'
      have hlen : (needOf p m).length ≤ p.many := by
        unfold needOf
        rw [← points_length p]
        exact List.length_filter_le _ _
      obtain ⟨f, hf⟩ : ∃ f, p.many = f + 1 := ⟨p.many - 1, by omega⟩
      have e1 : cov p p.many (needOf p m) = ((List.range p.blocks.length).filter fun i => (Bk p i).contains (k + 1) && (Bk p i).all (needOf p m).contains).flatMap fun i =>
          (cov p f ((needOf p m).filter fun y => !(Bk p i).contains y)).map fun c => i :: c := by
        rw [hf, hr]; rfl
      show _ = (cov p p.many (needOf p m)).map (ns ++ ·)
      rw [e1, List.map_flatMap]
      unfold startsAt
      rw [List.filter_map, List.map_map, List.flatMap_map, List.filter_filter, List.length_map]
      have hcond : ∀ i ∈ List.range p.blocks.length, (((fun s : Nat × Nat => decide (m &&& s.2 = 0)) ∘ fun i => (i, (p.blocks.map maskOf).getD i 0)) i && decide (low ((p.blocks.map maskOf).getD i 0) = k + 1)) = ((Bk p i).contains (k + 1) && (Bk p i).all (needOf p m).contains) := by
        intro i hi
        have hi := List.mem_range.mp hi
        have hN := W.norm (Bk p i) (by
          unfold Bk
          rw [List.getD_eq_getElem?_getD, List.getElem?_eq_getElem hi]
          exact List.getElem_mem hi)
        show (decide (m &&& (p.blocks.map maskOf).getD i 0 = 0) && decide (low ((p.blocks.map maskOf).getD i 0) = k + 1)) = _
        rw [getD_map]
        rw [Bool.eq_iff_iff, Bool.and_eq_true, Bool.and_eq_true, decide_eq_true_eq, decide_eq_true_eq, List.all_eq_true]
        have disj : (m &&& maskOf (Bk p i) = 0) ↔ ∀ y ∈ Bk p i, m.testBit y = false := by
          constructor
          · intro h y hy
            have := congrArg (fun z => z.testBit y) h
            simp only [Nat.testBit_and, testBit_mask, Nat.zero_testBit] at this
            rw [show (Bk p i).contains y = true by simpa using hy, Bool.and_true] at this
            exact this
          · intro h
            apply Nat.eq_of_testBit_eq
            intro y
            rw [Nat.testBit_and, testBit_mask, Nat.zero_testBit]
            by_cases c : y ∈ Bk p i
            · rw [h y c]; rfl
            · rw [show (Bk p i).contains y = false by simpa using c, Bool.and_false]
        rw [show ((p.blocks.getD i []) = Bk p i) from rfl, disj]
        constructor
        · rintro ⟨h1, h2⟩
          have h0 : 0 < maskOf (Bk p i) := by
            rcases Nat.eq_zero_or_pos (maskOf (Bk p i)) with e | e
            · rw [e] at h2
              unfold low at h2
              simp at h2
            · exact e
          have hb := low_bit _ h0
          rw [h2, testBit_mask] at hb
          refine ⟨hb, fun y hy => ?_⟩
          have hy' := hN.mem hy
          have : y ∈ needOf p m := by
            unfold needOf
            rw [List.mem_filter]
            exact ⟨(mem_points p y).mpr hy', by rw [h1 y hy]; rfl⟩
          simpa using this
        · rintro ⟨h1, h2⟩
          have hy2 : ∀ y ∈ Bk p i, y ∈ needOf p m := fun y hy => by simpa using h2 y hy
          refine ⟨fun y hy => ?_, ?_⟩
          · have := (List.mem_filter.mp (hy2 y hy)).2
            simpa using this
          · apply low_mask (by simpa using h1)
            intro y hy
            have := hy2 y hy
            rw [hr] at this
            rcases List.mem_cons.mp this with e | e
            · omega
            · have := hlt y e; omega
      rw [List.filter_congr hcond]
      apply flatMap_congr_mem
      intro i hi
      obtain ⟨hi1, hi2⟩ := List.mem_filter.mp hi
      rw [Bool.and_eq_true] at hi2
      show (cov p p.many (needOf p (m ||| (p.blocks.map maskOf).getD i 0))).map ((ns ++ [i]) ++ ·) = ((cov p f _).map (i :: ·)).map (ns ++ ·)
      rw [getD_map, need_or, List.map_map]
      have hr' : (needOf p m).length ≤ f + 1 := by omega
      have hl2 : ((needOf p m).filter fun y => !(Bk p i).contains y).length < (needOf p m).length := filter_lt (x := k + 1) (by rw [hr]; simp) (by rw [hi2.1]; rfl)
      have hl3 : ((needOf p m).filter fun y => !(p.blocks.getD i []).contains y).length < (needOf p m).length := hl2
      rw [cov_fuel p p.many f _ (by omega) (by omega)]
      apply List.map_congr_left
      intro c _
      simp
theorem need_all {p : Plan} {m : Nat} (h : ∀ q, 1 ≤ q → q ≤ p.many → m.testBit q = true) : needOf p m = [] := by
  unfold needOf
  rw [List.filter_eq_nil_iff]
  intro y hy
  have := (mem_points p y).mp hy
  rw [h y this.1 this.2]; simp
theorem possible_cov {p : Plan} (W : Wf p) : possible (p.blocks.map maskOf) p.many = cov p p.many (points p) := by
  rw [← covers_flat W p.many (Nat.le_refl _)]
  unfold possible
  have : ∀ (l : List (List Nat × Nat)), (∀ cv ∈ l, cov p p.many (needOf p cv.2) = [[]]) → l.flatMap (fun cv => (cov p p.many (needOf p cv.2)).map (cv.1 ++ ·)) = l.map (·.1) := by
    intro l h
    induction l with
    | nil => rfl
    | cons a l ih =>
      rw [List.flatMap_cons, ih (fun cv hc => h cv (by simp [hc])), h a (by simp)]
      simp
  rw [this]
  intro cv hcv
  rw [need_all (covers_has _ p.many cv hcv), cov_nil]
end Eb

set_option Elab.async false
set_option maxRecDepth 100000
set_option linter.all false
namespace Eb
open Dg01 (Plan points cover classes)
/-! ### how many covers -/
theorem starts_length (ms : List Nat) (k : Nat) : (startsAt ms k).length = ((List.range ms.length).filter fun i => decide (low (ms.getD i 0) = k)).length := by
  unfold startsAt; rw [List.length_map]
def lowTo (ms : List Nat) (k : Nat) : Nat := ((List.range ms.length).filter fun i => decide (low (ms.getD i 0) ≤ k)).length
theorem lowTo_succ (ms : List Nat) (k : Nat) : lowTo ms (k + 1) = lowTo ms k + (startsAt ms (k + 1)).length := by
  rw [starts_length]
  unfold lowTo
  generalize List.range ms.length = l
  induction l with
  | nil => rfl
  | cons a l ih =>
    simp only [List.filter_cons]
    by_cases c : low (ms.getD a 0) ≤ k
    · have h1 : low (ms.getD a 0) ≤ k + 1 := by omega
      have h2 : ¬ low (ms.getD a 0) = k + 1 := by omega
      simp only [decide_eq_true c, decide_eq_true h1, decide_eq_false h2, if_true, List.length_cons]
      simp only [Bool.false_eq_true, if_false]
      omega
    · by_cases d : low (ms.getD a 0) = k + 1
      · have h1 : low (ms.getD a 0) ≤ k + 1 := by omega
        simp only [decide_eq_false c, decide_eq_true h1, decide_eq_true d, if_true, List.length_cons]
        simp only [Bool.false_eq_true, if_false]
        omega
      · have h1 : ¬ low (ms.getD a 0) ≤ k + 1 := by omega
        simp only [decide_eq_false c, decide_eq_false h1, decide_eq_false d]
        simp only [Bool.false_eq_true, if_false]
        omega
theorem lowTo_le (ms : List Nat) (k : Nat) : lowTo ms k ≤ ms.length := by
  unfold lowTo
  have := List.length_filter_le (fun i => decide (low (ms.getD i 0) ≤ k)) (List.range ms.length)
  rwa [List.length_range] at this
theorem withPt_length (k : Nat) (st : List (Nat × Nat)) (cv : List Nat × Nat) : (withPt k st cv).length ≤ 2 ^ st.length := by
  unfold withPt
  split
  · have := Nat.two_pow_pos st.length
    exact this
  · rw [List.length_map]
    exact Nat.le_trans (List.length_filter_le _ _) (Nat.le_of_lt Nat.lt_two_pow_self)
theorem withPoint_length (k : Nat) (st : List (Nat × Nat)) : ∀ (cvs : List (List Nat × Nat)), (withPoint k st cvs).length ≤ cvs.length * 2 ^ st.length
  | [] => by simp [withPoint]
  | c :: cvs => by
    have ih := withPoint_length k st cvs
    have h := withPt_length k st c
    unfold withPoint at ih ⊢
    rw [List.flatMap_cons, List.length_append, List.length_cons, Nat.add_mul]
    omega
theorem covers_length (ms : List Nat) : ∀ k, (coversTo ms k).length ≤ 2 ^ lowTo ms k
  | 0 => by
    have := Nat.two_pow_pos (lowTo ms 0)
    show 1 ≤ _
    omega
  | k + 1 => by
    have h := withPoint_length (k + 1) (startsAt ms (k + 1)) (coversTo ms k)
    have ih := covers_length ms k
    rw [lowTo_succ, Nat.pow_add]
    exact Nat.le_trans h (Nat.mul_le_mul_right _ ih)
theorem covers_few {ms : List Nat} (h : ms.length ≤ 20) (k : Nat) : (coversTo ms k).length ≤ 1048576 := by
  have h1 := covers_length ms k
  have h2 : 2 ^ lowTo ms k ≤ 2 ^ 20 := Nat.pow_le_pow_right (by decide) (Nat.le_trans (lowTo_le ms k) h)
  exact Nat.le_trans h1 h2
/-- the numbers in a cover -/
theorem covers_nums (ms : List Nat) : ∀ (k : Nat) (cv : List Nat × Nat), cv ∈ coversTo ms k → cv.1.length ≤ k ∧ ∀ i ∈ cv.1, i < ms.length
  | 0, cv, h => by
    have : cv = ([], 0) := by simpa [coversTo] using h
    subst this
    exact ⟨Nat.le_refl _, fun i hi => by cases hi⟩
  | k + 1, cv, h => by
    unfold coversTo withPoint at h
    obtain ⟨c, hc, h⟩ := List.mem_flatMap.mp h
    have ih := covers_nums ms k c hc
    unfold withPt at h
    split at h
    · have : cv = c := by simpa using h
      subst this
      exact ⟨by omega, ih.2⟩
    · obtain ⟨s, hs, rfl⟩ := List.mem_map.mp h
      obtain ⟨hs, _⟩ := List.mem_filter.mp hs
      unfold startsAt at hs
      obtain ⟨i, hi, rfl⟩ := List.mem_map.mp hs
      have hi := List.mem_range.mp (List.mem_filter.mp hi).1
      refine ⟨by simp; omega, fun j hj => ?_⟩
      rcases List.mem_append.mp hj with hj | hj
      · exact ih.2 j hj
      · have : j = i := by simpa using hj
        omega
/-! ### classes -/
/-- the blocks that are not used -/
def leftOf (n u : Nat) : List Nat := (List.range n).filter fun i => !u.testBit i
def every (n : Nat) : Nat := maskOf (List.range n)
theorem every_bit (n i : Nat) : (every n).testBit i = decide (i < n) := by
  unfold every
  rw [testBit_mask, Bool.eq_iff_iff]
  simp
theorem leftOf_or (n u : Nat) (c : List Nat) : (leftOf n u).filter (fun j => !c.contains j) = leftOf n (u ||| maskOf c) := by
  unfold leftOf
  rw [List.filter_filter]
  apply List.filter_congr
  intro i _
  rw [Nat.testBit_or, testBit_mask, Bool.not_or, Bool.and_comm]
theorem classes_cons (p : Plan) (n i : Nat) (r : List Nat) : classes p (n + 1) (i :: r) = (cover p p.many (i :: r) (points p)).findSome? fun c => if c.contains i = true then (classes p n ((i :: r).filter fun j => !c.contains j)).map fun r => c :: r else none := rfl
theorem classes_nil (p : Plan) (n : Nat) : classes p n [] = some [] := by cases n <;> rfl
theorem findSome_congr {α β : Type} {f g : α → Option β} {l : List α} (h : ∀ a ∈ l, f a = g a) : l.findSome? f = l.findSome? g := by
  induction l with
  | nil => rfl
  | cons a l ih =>
    rw [List.findSome?_cons, List.findSome?_cons, h a (by simp), ih fun b hb => h b (by simp [hb])]
theorem classes_fuel (p : Plan) : ∀ (n m : Nat) (left : List Nat), left.length ≤ n → left.length ≤ m → classes p n left = classes p m left
  | n, m, [], _, _ => by rw [classes_nil, classes_nil]
  | 0, _, x :: r, h, _ => by simp at h
  | _, 0, x :: r, _, h => by simp at h
  | n + 1, m + 1, x :: r, h1, h2 => by
    rw [classes_cons, classes_cons]
    apply findSome_congr
    intro c _
    by_cases hc : c.contains x = true
    · rw [if_pos hc, if_pos hc]
      have hl : ((x :: r).filter fun y => !c.contains y).length < (x :: r).length := filter_lt (x := x) (by simp) (by rw [hc]; rfl)
      rw [classes_fuel p n m _ (by omega) (by omega)]
    · rw [if_neg hc, if_neg hc]
/-- how the classes go on where u is used -/
def goOn (p : Plan) (u : Nat) : Option (List (List Nat)) := classes p p.blocks.length (leftOf p.blocks.length u)
/-- the classes that may come next -/
def nexts (ps : List (List Nat)) (n u : Nat) : List (List Nat) := (ps.filter fun c => decide (low (maskOf c) = low (every n ^^^ u))).filter fun c => decide (u &&& maskOf c = 0)
theorem findSome_filter {α β : Type} (q : α → Bool) (f : α → Option β) (l : List α) : (l.filter q).findSome? f = l.findSome? fun a => if q a = true then f a else none := by
  induction l with
  | nil => rfl
  | cons a l ih =>
    rw [List.filter_cons, List.findSome?_cons]
    by_cases c : q a = true
    · rw [if_pos c, if_pos c, List.findSome?_cons, ih]
    · rw [if_neg c, if_neg c, ih]
theorem left_head {n u : Nat} (hu : u < 2 ^ n) (hne : u ≠ every n) : ∃ r, leftOf n u = low (every n ^^^ u) :: r ∧ low (every n ^^^ u) < n ∧ u.testBit (low (every n ^^^ u)) = false := by
  have hbit : ∀ i, (every n ^^^ u).testBit i = (decide (i < n) && !u.testBit i) := by
    intro i
    rw [Nat.testBit_xor, every_bit]
    by_cases c : i < n
    · simp [c]
    · have : u.testBit i = false := Nat.testBit_lt_two_pow (Nat.lt_of_lt_of_le hu (Nat.pow_le_pow_right (by decide) (by omega)))
      simp [c, this]
  have h0 : 0 < every n ^^^ u := by
    rcases Nat.eq_zero_or_pos (every n ^^^ u) with e | e
    · exfalso
      apply hne
      apply Nat.eq_of_testBit_eq
      intro i
      have := congrArg (fun z => z.testBit i) e
      simp only [Nat.testBit_xor, Nat.zero_testBit] at this
      cases h1 : (every n).testBit i <;> cases h2 : u.testBit i <;> simp [h1, h2] at this ⊢
    · exact e
  have hl := low_bit _ h0
  have hm := low_min _ h0
  generalize low (every n ^^^ u) = k at hl hm
  rw [hbit, Bool.and_eq_true, decide_eq_true_eq] at hl
  have hk := hl.1
  have hku : u.testBit k = false := by simpa using hl.2
  refine ⟨(List.range' (k + 1) (n - k - 1)).filter fun i => !u.testBit i, ?_, hk, hku⟩
  unfold leftOf
  rw [List.range_eq_range', show n = k + (1 + (n - k - 1)) by omega, ← List.range'_append_1, List.filter_append, ← List.range'_append_1, List.filter_append]
  have e1 : (List.range' 0 k).filter (fun y => !u.testBit y) = [] := by
    rw [List.filter_eq_nil_iff]
    intro y hy
    have := List.mem_range'_1.mp hy
    have := hm y (by omega)
    rw [hbit, decide_eq_true (show y < n by omega), Bool.true_and] at this
    simpa using this
  have e2 : (List.range' (0 + k) 1).filter (fun y => !u.testBit y) = [k] := by
    show (List.filter _ [0 + k]) = _
    rw [Nat.zero_add]
    simp [hku]
  rw [e1, e2, Nat.zero_add]
  rw [show k + (1 + (n - k - 1)) - k - 1 = n - k - 1 by omega]
  rfl
theorem goOn_every (p : Plan) : goOn p (every p.blocks.length) = some [] := by
  unfold goOn
  have : leftOf p.blocks.length (every p.blocks.length) = [] := by
    unfold leftOf
    rw [List.filter_eq_nil_iff]
    intro i hi
    rw [every_bit, decide_eq_true (List.mem_range.mp hi)]; simp
  rw [this, classes_nil]
theorem left_length (n u : Nat) : (leftOf n u).length ≤ n := by
  unfold leftOf
  have := List.length_filter_le (fun i => !u.testBit i) (List.range n)
  rwa [List.length_range] at this
theorem goOn_next {p : Plan} (W : Wf p) (F : Full p) {u : Nat} (hu : u < 2 ^ p.blocks.length) (hne : u ≠ every p.blocks.length) :
    goOn p u = (nexts (possible (p.blocks.map maskOf) p.many) p.blocks.length u).findSome? fun c => (goOn p (u ||| maskOf c)).map fun r => c :: r := by
  obtain ⟨r, hr, hlt, hbit⟩ := left_head hu hne
  generalize hn : p.blocks.length = n at *
  have hll := left_length n u
  generalize hk : low (every n ^^^ u) = k at *
  obtain ⟨f, hf⟩ : ∃ f, n = f + 1 := ⟨n - 1, by omega⟩
  have e1 : goOn p u = (cover p p.many (leftOf n u) (points p)).findSome? fun c => if c.contains k = true then (classes p f ((leftOf n u).filter fun j => !c.contains j)).map fun r => c :: r else none := by
    unfold goOn
    rw [hn, hf, ← hf, hr, hf]
    rfl
  have e2 : leftOf n u = (List.range p.blocks.length).filter fun i => !u.testBit i := by rw [hn]; rfl
  rw [e1]
  conv => lhs; rw [show cover p p.many (leftOf n u) (points p) = cover p p.many ((List.range p.blocks.length).filter fun i => !u.testBit i) (points p) by rw [← e2], cover_cov F, ← possible_cov W]
  unfold nexts
  rw [hk, List.filter_filter, findSome_filter, findSome_filter]
  apply findSome_congr
  intro c hc
  rw [possible_cov W] at hc
  have hmem := cov_mem p _ _ c hc
  by_cases d : c.contains k = true
  · -- k in c
    have hkc : k ∈ c := by simpa using d
    by_cases a : (c.all fun i => !u.testBit i) = true
    · have a' := List.all_eq_true.mp a
      have h1 : u &&& maskOf c = 0 := by
        apply Nat.eq_of_testBit_eq
        intro y
        rw [Nat.testBit_and, testBit_mask, Nat.zero_testBit]
        by_cases hy : y ∈ c
        · have := a' y hy
          rw [show u.testBit y = false by simpa using this]; rfl
        · rw [show c.contains y = false by simpa using hy, Bool.and_false]
      have h2 : low (maskOf c) = k := by
        apply low_mask hkc
        intro y hy
        have hyl : y ∈ leftOf n u := by
          unfold leftOf
          rw [List.mem_filter, List.mem_range]
          exact ⟨by have := (hmem y hy).1; omega, a' y hy⟩
        have hsort : (leftOf n u).Pairwise (· < ·) := (List.pairwise_lt_range).filter _
        rw [hr] at hyl hsort
        rcases List.mem_cons.mp hyl with e | e
        · omega
        · have := (List.pairwise_cons.mp hsort).1 y e
          omega
      rw [if_pos a, if_pos d, if_pos (by rw [decide_eq_true h1, decide_eq_true h2]; rfl), leftOf_or]
      unfold goOn
      rw [hn]
      have hl : (leftOf n (u ||| maskOf c)).length < (leftOf n u).length := by
        rw [← leftOf_or]
        exact filter_lt (x := k) (by rw [hr]; simp) (by rw [d]; rfl)
      rw [classes_fuel p f n _ (by omega) (by omega)]
    · rw [if_neg a, if_neg]
      intro z
      rw [Bool.and_eq_true, decide_eq_true_eq] at z
      apply a
      rw [List.all_eq_true]
      intro y hy
      have := congrArg (fun w => w.testBit y) z.1
      simp only [Nat.testBit_and, testBit_mask, Nat.zero_testBit] at this
      rw [show c.contains y = true by simpa using hy, Bool.and_true] at this
      rw [this]; rfl
  · rw [if_neg d, if_neg (show ¬ ((decide (u &&& maskOf c = 0) && decide (low (maskOf c) = k)) = true) from ?_)]
    · split <;> rfl
    · intro z
      rw [Bool.and_eq_true, decide_eq_true_eq, decide_eq_true_eq] at z
      apply d
      have h0 : 0 < maskOf c := by
        rcases Nat.eq_zero_or_pos (maskOf c) with e | e
        · exfalso
          -- no class is empty: there is a point
          have hc0 := mask_pos.mp e
          subst hc0
          have hz : p.many = 0 ∨ 0 < p.many := Nat.eq_zero_or_pos _
          rcases hz with hz | hz
          · exact absurd z.2 (by
              have hb : ∀ j, Bk p j = [] := fun j => by
                by_cases hj : j < p.blocks.length
                · have := W.norm (Bk p j) (by
                    unfold Bk
                    rw [List.getD_eq_getElem?_getD, List.getElem?_eq_getElem hj]
                    exact List.getElem_mem hj)
                  cases hbk : Bk p j with
                  | nil => rfl
                  | cons y b =>
                    have hm := this.mem (x := y) (by rw [hbk]; simp)
                    omega
                · unfold Bk
                  rw [List.getD_eq_getElem?_getD, List.getElem?_eq_none (by omega)]; rfl
              exact absurd (hb k) (F k (by omega)))
          · obtain ⟨m, hm⟩ : ∃ m, p.many = m + 1 := ⟨p.many - 1, by omega⟩
            have hp : points p = 1 :: (List.range' 2 m) := by rw [points_range, hm]; rfl
            rw [hp, hm, cov_cons, List.mem_flatMap] at hc
            obtain ⟨j, _, hc⟩ := hc
            obtain ⟨_, _, hc⟩ := List.mem_map.mp hc
            cases hc
        · exact e
      have := low_bit _ h0
      rw [z.2, testBit_mask] at this
      exact this
end Eb

set_option Elab.async false
set_option maxRecDepth 100000
set_option linter.all false
namespace Eb
open Dg01 (Plan points cover classes)
abbrev Way := Nat × List (List Nat)
def hasKey (d : List Way) (k : Nat) : Bool := d.any fun y => y.1 == k
theorem hasKey_iff (d : List Way) (k : Nat) : hasKey d k = true ↔ k ∈ d.map (·.1) := by
  unfold hasKey
  rw [List.any_eq_true, List.mem_map]
  constructor
  · rintro ⟨y, h1, h2⟩; exact ⟨y, h1, by simpa using h2⟩
  · rintro ⟨y, h1, h2⟩; exact ⟨y, h1, by simpa using h2⟩
def put (z : Way) (d : List Way) (c : List Nat) : List Way :=
  if z.1 &&& maskOf c = 0 ∧ hasKey d (z.1 ||| maskOf c) = false then d ++ [(z.1 ||| maskOf c, z.2 ++ [c])] else d
def oneMore (nx : Nat → List (List Nat)) (ws : List Way) : List Way := ws.foldl (fun d z => (nx z.1).foldl (put z) d) []
/-- the classes whose lowest block is the lowest that is not used -/
def nxOf (ps : List (List Nat)) (n u : Nat) : List (List Nat) := ps.filter fun c => decide (low (maskOf c) = low (every n ^^^ u))
def val (p : Plan) (z : Way) : Option (List (List Nat)) := (goOn p z.1).map fun r => z.2 ++ r
def S (p : Plan) (ws : List Way) : Option (List (List Nat)) := ws.findSome? (val p)
theorem S_append (p : Plan) (a b : List Way) : S p (a ++ b) = (S p a).or (S p b) := by unfold S; rw [List.findSome?_append]
theorem S_one (p : Plan) (x : Way) : S p [x] = val p x := by unfold S; rw [List.findSome?_cons, List.findSome?_nil]; cases val p x <;> rfl
def steps (z : Way) (cs : List (List Nat)) : List Way := (cs.filter fun c => decide (z.1 &&& maskOf c = 0)).map fun c => (z.1 ||| maskOf c, z.2 ++ [c])
theorem S_put (p : Plan) (z : Way) (d : List Way) (c : List Nat) : S p (put z d c) = (S p d).or (S p (steps z [c])) := by
  unfold put steps
  by_cases h : z.1 &&& maskOf c = 0
  · rw [List.filter_cons, if_pos (decide_eq_true h), List.filter_nil, List.map_cons, List.map_nil]
    by_cases k : hasKey d (z.1 ||| maskOf c) = false
    · rw [if_pos ⟨h, k⟩, S_append]
    · rw [if_neg (fun y => k y.2), S_one]
      have k' : hasKey d (z.1 ||| maskOf c) = true := by simpa using k
      cases e : S p d with
      | some r => rfl
      | none =>
        unfold S at e
        rw [List.findSome?_eq_none_iff] at e
        unfold hasKey at k'
        obtain ⟨y, hy, hk⟩ := List.any_eq_true.mp k'
        have := e y hy
        have hk : y.1 = z.1 ||| maskOf c := by simpa using hk
        unfold val at this ⊢
        rw [hk] at this
        cases g : goOn p (z.1 ||| maskOf c) with
        | none => rfl
        | some r => rw [g] at this; cases this
  · rw [if_neg (fun y => h y.1), List.filter_cons, if_neg (by simpa using h), List.filter_nil]
    show S p d = (S p d).or none
    cases S p d <;> rfl
theorem S_puts (p : Plan) (z : Way) : ∀ (cs : List (List Nat)) (d : List Way), S p (cs.foldl (put z) d) = (S p d).or (S p (steps z cs))
  | [], d => by
    show S p d = (S p d).or none
    cases S p d <;> rfl
  | c :: cs, d => by
    rw [List.foldl_cons, S_puts p z cs, S_put]
    have : steps z (c :: cs) = steps z [c] ++ steps z cs := by
      unfold steps
      rw [← List.map_append, ← List.filter_append]
      rfl
    rw [this, S_append, Option.or_assoc]
theorem map_findSome {α β γ : Type} (f : α → Option β) (g : β → γ) : ∀ (l : List α), (l.findSome? f).map g = l.findSome? fun a => (f a).map g
  | [] => rfl
  | a :: l => by
    rw [List.findSome?_cons, List.findSome?_cons]
    cases f a with
    | none => exact map_findSome f g l
    | some b => rfl
theorem S_steps {p : Plan} (W : Wf p) (F : Full p) {z : Way} (hu : z.1 < 2 ^ p.blocks.length) (hne : z.1 ≠ every p.blocks.length) :
    S p (steps z (nxOf (possible (p.blocks.map maskOf) p.many) p.blocks.length z.1)) = val p z := by
  unfold S steps val
  rw [goOn_next W F hu hne, List.findSome?_map, map_findSome]
  show List.findSome? _ (nexts _ _ _) = _
  apply findSome_congr
  intro c _
  show Option.map _ (goOn p (z.1 ||| maskOf c)) = _
  cases goOn p (z.1 ||| maskOf c) with
  | none => rfl
  | some r => show some ((z.2 ++ [c]) ++ r) = some (z.2 ++ (c :: r)); simp
theorem S_more {p : Plan} (W : Wf p) (F : Full p) {ws : List Way} (h : ∀ z ∈ ws, z.1 < 2 ^ p.blocks.length ∧ z.1 ≠ every p.blocks.length) :
    S p (oneMore (nxOf (possible (p.blocks.map maskOf) p.many) p.blocks.length) ws) = S p ws := by
  have gen : ∀ (l : List Way) (d : List Way), (∀ z ∈ l, z.1 < 2 ^ p.blocks.length ∧ z.1 ≠ every p.blocks.length) →
      S p (l.foldl (fun d z => (nxOf (possible (p.blocks.map maskOf) p.many) p.blocks.length z.1).foldl (put z) d) d) = (S p d).or (S p l) := by
    intro l
    induction l with
    | nil =>
      intro d _
      show S p d = (S p d).or none
      cases S p d <;> rfl
    | cons z l ih =>
      intro d hl
      rw [List.foldl_cons, ih _ fun y hy => hl y (by simp [hy]), S_puts, S_steps W F (hl z (by simp)).1 (hl z (by simp)).2]
      have : S p (z :: l) = (val p z).or (S p l) := by
        rw [← S_one, ← S_append]; rfl
      rw [this, Option.or_assoc]
  unfold oneMore
  rw [gen ws [] h]
  rfl
/-! ### how often point 1 is used -/
def deg (p : Plan) (u : Nat) : Nat := ((List.range p.blocks.length).filter fun i => u.testBit i && (Bk p i).contains 1).length
theorem filter_or_one (q : Nat → Bool) (i : Nat) (hq : q i = false) : ∀ (l : List Nat), l.Nodup → i ∈ l → (l.filter fun j => q j || j == i).length = (l.filter q).length + 1
  | [], _, h => by cases h
  | a :: l, nd, h => by
    rw [List.nodup_cons] at nd
    simp only [List.filter_cons]
    by_cases e : a = i
    · subst e
      have same : l.filter (fun j => q j || j == a) = l.filter q := by
        apply List.filter_congr
        intro j hj
        have : ¬ j = a := fun z => nd.1 (z ▸ hj)
        simp [this]
      rw [same]
      simp [hq]
    · have hi : i ∈ l := by
        rcases List.mem_cons.mp h with z | z
        · exact absurd z.symm e
        · exact z
      have ih := filter_or_one q i hq l nd.2 hi
      by_cases c : q a = true
      · simp [c, ih]
      · simp only [Bool.not_eq_true] at c
        simp [c, e, ih]
theorem cov_one {p : Plan} (hp : 1 ≤ p.many) {c : List Nat} (hc : c ∈ cov p p.many (points p)) : ∃ i, i < p.blocks.length ∧ i ∈ c ∧ (Bk p i).contains 1 = true ∧ ∀ j ∈ c, (Bk p j).contains 1 = true → j = i := by
  obtain ⟨m, hm⟩ : ∃ m, p.many = m + 1 := ⟨p.many - 1, by omega⟩
  have e : points p = 1 :: (List.range' 2 m) := by rw [points_range, hm]; rfl
  rw [e, hm, cov_cons, List.mem_flatMap] at hc
  obtain ⟨i, hi, hc⟩ := hc
  obtain ⟨d, hd, rfl⟩ := List.mem_map.mp hc
  obtain ⟨h1, h2⟩ := List.mem_filter.mp hi
  rw [Bool.and_eq_true] at h2
  refine ⟨i, List.mem_range.mp h1, by simp, h2.1, fun j hj hj1 => ?_⟩
  rcases List.mem_cons.mp hj with z | z
  · exact z
  · have := (cov_mem p m _ d hd j z).2 1 (by simpa using hj1)
    have := (List.mem_filter.mp this).2
    rw [h2.1] at this
    cases this
theorem deg_class {p : Plan} (hp : 1 ≤ p.many) {c : List Nat} (hc : c ∈ cov p p.many (points p)) {u : Nat} (hu : u &&& maskOf c = 0) : deg p (u ||| maskOf c) = deg p u + 1 := by
  obtain ⟨i, hi, hic, hi1, huq⟩ := cov_one hp hc
  unfold deg
  have hui : u.testBit i = false := by
    have := congrArg (fun w => w.testBit i) hu
    simp only [Nat.testBit_and, testBit_mask, Nat.zero_testBit] at this
    rw [show c.contains i = true by simpa using hic, Bool.and_true] at this
    exact this
  rw [← filter_or_one (fun j => u.testBit j && (Bk p j).contains 1) i (by rw [hui]; rfl) _ List.nodup_range (List.mem_range.mpr hi)]
  congr 1
  apply List.filter_congr
  intro j _
  rw [Nat.testBit_or, testBit_mask]
  by_cases e : j = i
  · subst e
    rw [hi1, hui, show c.contains j = true by simpa using hic]
    simp
  · have hb : (j == i) = false := by simpa using e
    rw [hb, Bool.or_false]
    by_cases h1 : (Bk p j).contains 1 = true
    · have : c.contains j = false := by
        rw [Bool.eq_false_iff]
        intro z
        exact e (huq j (by simpa using z) h1)
      rw [this, Bool.or_false]
    · simp only [Bool.not_eq_true] at h1
      rw [h1, Bool.and_false, Bool.and_false]
theorem deg_le (p : Plan) (u : Nat) : deg p u ≤ deg p (every p.blocks.length) := by
  unfold deg
  have : ∀ (l : List Nat), (∀ i ∈ l, i < p.blocks.length) → (l.filter fun i => u.testBit i && (Bk p i).contains 1).length ≤ (l.filter fun i => (every p.blocks.length).testBit i && (Bk p i).contains 1).length := by
    intro l
    induction l with
    | nil => intro _; exact Nat.le_refl _
    | cons a l ih =>
      intro h
      have ih := ih fun i hi => h i (by simp [hi])
      have ha : (every p.blocks.length).testBit a = true := by rw [every_bit]; exact decide_eq_true (h a (by simp))
      simp only [List.filter_cons, ha, Bool.true_and]
      by_cases c : (Bk p a).contains 1 = true
      · simp only [c, Bool.and_true, if_true, List.length_cons]
        split
        · rw [List.length_cons]; omega
        · omega
      · simp only [Bool.not_eq_true] at c
        simp only [c, Bool.and_false, Bool.false_eq_true, if_false]
        exact ih
  exact this _ fun i hi => List.mem_range.mp hi
theorem deg_few (p : Plan) (u : Nat) : deg p u ≤ p.blocks.length := by
  unfold deg
  have := List.length_filter_le (fun i => u.testBit i && (Bk p i).contains 1) (List.range p.blocks.length)
  rwa [List.length_range] at this
theorem deg_zero (p : Plan) : deg p 0 = 0 := by
  unfold deg
  have : (List.range p.blocks.length).filter (fun i => (0 : Nat).testBit i && (Bk p i).contains 1) = [] := by
    rw [List.filter_eq_nil_iff]
    intro i _
    simp
  rw [this]; rfl
/-! ### the ways so far -/
theorem pigeon : ∀ (N : Nat) (l : List Nat), l.Nodup → (∀ x ∈ l, x < N) → l.length ≤ N
  | 0, l, _, h => by
    cases l with
    | nil => exact Nat.le_refl _
    | cons a l => have := h a (by simp); omega
  | N + 1, l, nd, h => by
    by_cases c : N ∈ l
    · have h1 : (l.erase N).length ≤ N := pigeon N (l.erase N) (nd.erase N) fun x hx => by
        have h2 := (nd.mem_erase_iff).mp hx
        have := h x h2.2
        have := h2.1
        omega
      rw [List.length_erase_of_mem c] at h1
      omega
    · have := pigeon N l nd fun x hx => by
        have := h x hx
        have : x ≠ N := fun z => c (z ▸ hx)
        omega
      omega
/-- what holds of the ways with j classes -/
structure Lv (p : Plan) (j : Nat) (d : List Way) : Prop where
  nd : (d.map (·.1)).Nodup
  lt : ∀ z ∈ d, z.1 < 2 ^ p.blocks.length
  dg : ∀ z ∈ d, deg p z.1 = j
  len : ∀ z ∈ d, z.2.length = j
  cls : ∀ z ∈ d, ∀ c ∈ z.2, c ∈ possible (p.blocks.map maskOf) p.many
theorem Lv.nil (p : Plan) (j : Nat) : Lv p j [] := ⟨List.nodup_nil, fun _ h => (nomatch h), fun _ h => (nomatch h), fun _ h => (nomatch h), fun _ h => (nomatch h)⟩
theorem Lv.start (p : Plan) : Lv p 0 [(0, [])] := by
  have e : ∀ z : Way, z ∈ [((0 : Nat), ([] : List (List Nat)))] → z = (0, []) := fun z h => by simpa using h
  refine ⟨by simp, fun z h => ?_, fun z h => ?_, fun z h => ?_, fun z h c hc => ?_⟩
  · rw [e z h]; exact Nat.two_pow_pos _
  · rw [e z h]; exact deg_zero p
  · rw [e z h]; rfl
  · rw [e z h] at hc; cases hc
theorem Lv.few {p : Plan} {j : Nat} {d : List Way} (h : Lv p j d) (hn : p.blocks.length ≤ 20) : d.length ≤ 1048576 := by
  have := pigeon (2 ^ p.blocks.length) (d.map (·.1)) h.nd fun x hx => by
    obtain ⟨z, hz, rfl⟩ := List.mem_map.mp hx
    exact h.lt z hz
  rw [List.length_map] at this
  have h2 : 2 ^ p.blocks.length ≤ 2 ^ 20 := Nat.pow_le_pow_right (by decide) hn
  exact Nat.le_trans this h2
theorem Lv.put {p : Plan} (W : Wf p) (hp : 1 ≤ p.many) {j : Nat} {d : List Way} (h : Lv p (j + 1) d) {z : Way} (hz : z.1 < 2 ^ p.blocks.length) (hd : deg p z.1 = j) (hl : z.2.length = j)
    (hcls : ∀ c ∈ z.2, c ∈ possible (p.blocks.map maskOf) p.many) {c : List Nat} (hc : c ∈ possible (p.blocks.map maskOf) p.many) : Lv p (j + 1) (put z d c) := by
  unfold Eb.put
  by_cases k : z.1 &&& maskOf c = 0 ∧ hasKey d (z.1 ||| maskOf c) = false
  · rw [if_pos k]
    have hc' := hc
    rw [possible_cov W] at hc'
    have hnk : ¬ (z.1 ||| maskOf c) ∈ d.map (·.1) := fun y => by
      rw [← hasKey_iff, k.2] at y; cases y
    have mem : ∀ y, y ∈ d ++ [(z.1 ||| maskOf c, z.2 ++ [c])] → y ∈ d ∨ y = (z.1 ||| maskOf c, z.2 ++ [c]) := fun y hy => by simpa using hy
    refine ⟨?_, fun y hy => ?_, fun y hy => ?_, fun y hy => ?_, fun y hy e he => ?_⟩
    · rw [List.map_append, List.map_cons, List.map_nil, List.nodup_append]
      refine ⟨h.nd, by simp, fun a ha b hb e => ?_⟩
      have : b = z.1 ||| maskOf c := by simpa using hb
      exact hnk (this ▸ e ▸ ha)
    · rcases mem y hy with hy | rfl
      · exact h.lt y hy
      · refine Nat.or_lt_two_pow hz (mask_lt fun x hx => ?_)
        exact (cov_mem p _ _ c hc' x hx).1
    · rcases mem y hy with hy | rfl
      · exact h.dg y hy
      · show deg p (z.1 ||| maskOf c) = _
        rw [deg_class hp hc' k.1, hd]
    · rcases mem y hy with hy | rfl
      · exact h.len y hy
      · show (z.2 ++ [c]).length = _
        rw [List.length_append, hl]; rfl
    · rcases mem y hy with hy | rfl
      · exact h.cls y hy e he
      · have he : e ∈ z.2 ++ [c] := he
        rcases List.mem_append.mp he with he | he
        · exact hcls e he
        · have : e = c := by simpa using he
          exact this ▸ hc
  · rw [if_neg k]; exact h
theorem goOn_none {p : Plan} (W : Wf p) (F : Full p) (hp : 1 ≤ p.many) {j : Nat} (he : deg p (every p.blocks.length) = j) {u : Nat} (hu : u < 2 ^ p.blocks.length) (hd : deg p u = j) (hne : u ≠ every p.blocks.length) : goOn p u = none := by
  rw [goOn_next W F hu hne, List.findSome?_eq_none_iff]
  intro c hc
  exfalso
  unfold nexts at hc
  obtain ⟨h1, h2⟩ := List.mem_filter.mp hc
  have h3 := (List.mem_filter.mp h1).1
  rw [possible_cov W] at h3
  have := deg_class hp h3 (of_decide_eq_true h2)
  have := deg_le p (u ||| maskOf c)
  omega
/-- what the program answers at the end -/
def found (n : Nat) (ws : List Way) : Option (List (List Nat)) := (ws.find? fun z => z.1 == every n).map (·.2)
theorem S_found {p : Plan} (W : Wf p) (F : Full p) (hp : 1 ≤ p.many) {j : Nat} {ws : List Way} (h : Lv p j ws) (hend : ws = [] ∨ hasKey ws (every p.blocks.length) = true) : S p ws = found p.blocks.length ws := by
  rcases hend with rfl | hk
  · rfl
  · rw [hasKey_iff, List.mem_map] at hk
    obtain ⟨z0, hz0, e0⟩ := hk
    have he : deg p (every p.blocks.length) = j := by rw [← e0]; exact h.dg z0 hz0
    unfold S found
    have : ∀ (l : List Way), (∀ z ∈ l, z ∈ ws) → l.findSome? (val p) = (l.find? fun z => z.1 == every p.blocks.length).map (·.2) := by
      intro l
      induction l with
      | nil => intro _; rfl
      | cons z l ih =>
        intro hl
        have ih := ih fun y hy => hl y (by simp [hy])
        rw [List.findSome?_cons, List.find?_cons]
        by_cases c : z.1 = every p.blocks.length
        · have : val p z = some z.2 := by
            unfold val
            rw [c, goOn_every]
            show some (z.2 ++ []) = _
            rw [List.append_nil]
          rw [this, show (z.1 == every p.blocks.length) = true by simpa using c]
          rfl
        · have : val p z = none := by
            unfold val
            rw [goOn_none W F hp he (h.lt z (hl z (by simp))) (h.dg z (hl z (by simp))) c]; rfl
          rw [this, show (z.1 == every p.blocks.length) = false by simpa using c]
          exact ih
    exact this ws fun z hz => hz
theorem S_start (p : Plan) : S p [(0, [])] = classes p p.blocks.length (List.range p.blocks.length) := by
  rw [S_one]
  unfold val goOn
  have : leftOf p.blocks.length 0 = List.range p.blocks.length := by
    unfold leftOf
    rw [List.filter_eq_self]
    intro i _
    simp
  rw [this]
  cases classes p p.blocks.length (List.range p.blocks.length) with
  | none => rfl
  | some r => rfl
theorem Lv.more {p : Plan} (W : Wf p) (hp : 1 ≤ p.many) {j : Nat} {z : Way} (hz : z.1 < 2 ^ p.blocks.length) (hd : deg p z.1 = j) (hl : z.2.length = j)
    (hcls : ∀ c ∈ z.2, c ∈ possible (p.blocks.map maskOf) p.many) : ∀ (cs : List (List Nat)) {d : List Way}, Lv p (j + 1) d → (∀ c ∈ cs, c ∈ possible (p.blocks.map maskOf) p.many) → Lv p (j + 1) (cs.foldl (Eb.put z) d)
  | [], _, h, _ => h
  | c :: cs, d, h, hc => by
    rw [List.foldl_cons]
    exact Lv.more W hp hz hd hl hcls cs (h.put W hp hz hd hl hcls (hc c (by simp))) fun e he => hc e (by simp [he])
end Eb

set_option Elab.async false
set_option maxRecDepth 100000
set_option maxHeartbeats 2000000
set_option linter.all false
namespace Eb
open PySem PySem.Spec PyProof.Rows L2
def topS (i : Nat) : Stmt := PySem.Challenge.pw_evenblocksdesk_s01_answers.main.body.getD i (.Pass ⟨0, 0, 0, 0⟩)
/-- a def that may be called by its name -/
structure Cl (P : Program) (w : World) (K : PySem.W.Frag) (mg : Str → Option Value) (base : Heap) (k : Nat) (x : Str) (ps : List Str) (sp : Sp) : Prop where
  ex : ∃ (f : Addr) (fd : FuncData), FnOk P w K mg base CX0 k f fd ps sp ∧ mg x = some (.ref f) ∧ PySem.W.keepIn K (.ref f) = true ∧ Binds K fd ps []
section
variable {X : Cx} {k j : Nat} {C : Addr} {x m : Str} {ps : List Str} {sp : Sp} {p pos apos : Pos} {e o : Expr} {es : List Expr} {ta : TE} {t : TA}
theorem pe_cl (c : Cl X.prog X.w X.K X.mg X.base k x ps sp) (hr : Room j X.A) (hk : k ≤ j) (hg : Gl X x) (ha : PA X (e :: es) t)
    (hdb : (x == ("__debug__" : Str)) = false := by decide) (he : starEach (e :: es) X.env = (false, eval e X.env) :: starEach es X.env := by rfl) (hpl : (backTo pos (starEach es X.env)).any (·.1) = false := by rfl) :
    PE X (.Call (.Name x p) (e :: es) [] pos) (tCall sp [] E0 t) := by
  obtain ⟨f, fd, F, hm, kp, b⟩ := c.ex
  exact pe_call F (hr.mono hk) hg hm kp b .nil pass0 ha hdb he hpl
end
theorem same_upd {H : Hp} {p : Addr} {o : HO} (h : H p = none) : Same H (upd H p o) := fun b x e => by
  rw [upd_ne (ne_of_none e h)]
  exact e
/-- whole numbers of Nat as values -/
abbrev vn (n : Nat) : V := .int (n : Int)
theorem bitAnd_nat (a b : Nat) : Builtin.bitAnd (a : Int) (b : Int) = ((a &&& b : Nat) : Int) := by
  rw [bitAnd_pp (by omega) (by omega)]; rfl
theorem bitOr_nat (a b : Nat) : Builtin.bitOr (a : Int) (b : Int) = ((a ||| b : Nat) : Int) := by
  rw [L2.bitOr_nn (by omega) (by omega)]; rfl
section
variable {X : Cx}
theorem op_orN : OpR X (binaryOp .BitOr) (fun x y H Q => ∃ n m : Nat, x = .int (n : Int) ∧ y = .int (m : Int) ∧ Q (.int ((n ||| m : Nat) : Int)) H) := by
  intro pins s σ H x y v u Q I rx ry h
  obtain ⟨n, m, rfl, rfl, q⟩ := h
  rw [← bitOr_nat] at q
  exact op_or pins s σ H _ _ v u Q I rx ry ⟨_, _, rfl, rfl, q⟩
theorem op_andN : OpR X (binaryOp .BitAnd) (fun x y H Q => ∃ n m : Nat, x = .int (n : Int) ∧ y = .int (m : Int) ∧ Q (.int ((n &&& m : Nat) : Int)) H) := by
  intro pins s σ H x y v u Q I rx ry h
  obtain ⟨n, m, rfl, rfl, q⟩ := h
  rw [← bitAnd_nat] at q
  exact op_and pins s σ H _ _ v u Q I rx ry ⟨_, _, rfl, rfl, q⟩
theorem op_ltN : OpR X (compareOp .Lt) (fun x y H Q => ∃ n m : Nat, x = .int (n : Int) ∧ y = .int (m : Int) ∧ Q (.bl (decide (n < m))) H) := by
  intro pins s σ H x y v u Q I rx ry h
  obtain ⟨n, m, rfl, rfl, q⟩ := h
  rw [show decide (n < m) = decide ((n : Int) < (m : Int)) from decide_eq_decide.mpr (by omega)] at q
  exact op_lt pins s σ H _ _ v u Q I rx ry ⟨_, _, rfl, rfl, q⟩
theorem op_leN : OpR X (compareOp .LtE) (fun x y H Q => ∃ n m : Nat, x = .int (n : Int) ∧ y = .int (m : Int) ∧ Q (.bl (decide (n ≤ m))) H) := by
  intro pins s σ H x y v u Q I rx ry h
  obtain ⟨n, m, rfl, rfl, q⟩ := h
  rw [show decide (n ≤ m) = decide ((n : Int) ≤ (m : Int)) from decide_eq_decide.mpr (by omega)] at q
  exact op_le pins s σ H _ _ v u Q I rx ry ⟨_, _, rfl, rfl, q⟩
theorem op_gtN : OpR X (compareOp .Gt) (fun x y H Q => ∃ n m : Nat, x = .int (n : Int) ∧ y = .int (m : Int) ∧ Q (.bl (decide (m < n))) H) := by
  intro pins s σ H x y v u Q I rx ry h
  obtain ⟨n, m, rfl, rfl, q⟩ := h
  rw [show decide (m < n) = decide ((m : Int) < (n : Int)) from decide_eq_decide.mpr (by omega)] at q
  exact op_gt pins s σ H _ _ v u Q I rx ry ⟨_, _, rfl, rfl, q⟩
theorem op_geN : OpR X (compareOp .GtE) (fun x y H Q => ∃ n m : Nat, x = .int (n : Int) ∧ y = .int (m : Int) ∧ Q (.bl (decide (m ≤ n))) H) := by
  intro pins s σ H x y v u Q I rx ry h
  obtain ⟨n, m, rfl, rfl, q⟩ := h
  rw [show decide (m ≤ n) = decide ((m : Int) ≤ (n : Int)) from decide_eq_decide.mpr (by omega)] at q
  exact op_ge pins s σ H _ _ v u Q I rx ry ⟨_, _, rfl, rfl, q⟩
theorem op_eqN : OpR X (compareOp .Eq) (fun x y H Q => ∃ n m : Nat, x = .int (n : Int) ∧ y = .int (m : Int) ∧ Q (.bl (decide (n = m))) H) := by
  intro pins s σ H x y v u Q I rx ry h
  obtain ⟨n, m, rfl, rfl, q⟩ := h
  refine op_eq pins s σ H _ _ v u Q I rx ry ⟨rfl, ?_⟩
  rw [show decide (V.int (n : Int) = V.int (m : Int)) = decide (n = m) from decide_eq_decide.mpr ⟨fun z => by have := V.int.inj z; omega, fun z => by rw [z]⟩]
  exact q
theorem op_neN : OpR X (compareOp .NotEq) (fun x y H Q => ∃ n m : Nat, x = .int (n : Int) ∧ y = .int (m : Int) ∧ Q (.bl (!decide (n = m))) H) := by
  intro pins s σ H x y v u Q I rx ry h
  obtain ⟨n, m, rfl, rfl, q⟩ := h
  refine op_ne pins s σ H _ _ v u Q I rx ry ⟨rfl, ?_⟩
  rw [show decide (V.int (n : Int) = V.int (m : Int)) = decide (n = m) from decide_eq_decide.mpr ⟨fun z => by have := V.int.inj z; omega, fun z => by rw [z]⟩]
  exact q
theorem op_bitN : OpR X (binaryOp .LShift) (fun x y H Q => ∃ k : Nat, x = .int 1 ∧ y = .int (k : Int) ∧ k ≤ 134217727 ∧ Q (.int ((2 ^ k : Nat) : Int)) H) := by
  intro pins s σ H x y v u Q I rx ry h
  obtain ⟨k, rfl, rfl, hk, q⟩ := h
  refine op_oneShl pins s σ H _ _ v u Q I rx ry ⟨k, rfl, rfl, hk, ?_⟩
  rw [show ((2 : Int) ^ k) = ((2 ^ k : Nat) : Int) by simp]
  exact q
end
theorem cut_from (xs : List V) (k : Nat) : cutV xs (some (k : Int)) none = xs.drop k := by
  unfold cutV
  rw [HT.sIx_nat xs.length 0 k, HT.sIx_none]
  by_cases h : k ≤ xs.length
  · rw [Nat.min_eq_left h, List.take_of_length_le (by rw [List.length_drop]; omega)]
  · rw [Nat.min_eq_right (by omega), List.drop_length, List.drop_eq_nil_of_le (by omega), List.take_nil]
theorem cut_both (xs : List V) (i j : Nat) : cutV xs (some (i : Int)) (some (j : Int)) = (xs.drop i).take (j - i) := by
  unfold cutV
  rw [HT.sIx_nat xs.length 0 i, HT.sIx_nat xs.length xs.length j]
  by_cases h : i ≤ xs.length
  · rw [Nat.min_eq_left h]
    by_cases hj : j ≤ xs.length
    · rw [Nat.min_eq_left hj]
    · rw [Nat.min_eq_right (by omega), List.take_of_length_le (by rw [List.length_drop]; omega), List.take_of_length_le (by rw [List.length_drop]; omega)]
  · rw [show min i xs.length = xs.length by omega, List.drop_length, List.drop_eq_nil_of_le (show xs.length ≤ i by omega), List.take_nil, List.take_nil]
theorem get_map {l : List Nat} {i : Nat} {x : V} (h : (l.map vn)[i]? = some x) : ∃ n, l[i]? = some n ∧ x = vn n := by
  rw [List.getElem?_map] at h
  cases e : l[i]? with
  | none => rw [e] at h; cases h
  | some z => rw [e] at h; exact ⟨z, rfl, (Option.some.inj h).symm⟩
theorem take_more {α : Type} {l : List α} {i : Nat} {x : α} (h : l[i]? = some x) : l.take (i + 1) = l.take i ++ [x] := by
  rw [List.take_add_one, h]; rfl
end Eb

set_option Elab.async false
set_option maxRecDepth 100000
set_option maxHeartbeats 2000000
set_option linter.all false
namespace Eb
open PySem PySem.Spec PyProof.Rows L2
abbrev s_rise : Stmt := topS 1
abbrev s_mask : Stmt := topS 2
abbrev s_size : Stmt := topS 7
theorem sc_rise : FnScope ["points", "top", "before", "point"] ["points", "top"] (defScope s_rise) := ⟨rfl, rfl, rfl, by decide +kernel, rfl, by decide +kernel, by decide +kernel⟩
theorem sc_mask : FnScope ["points", "mask", "point"] ["points"] (defScope s_mask) := ⟨rfl, rfl, rfl, by decide +kernel, rfl, by decide +kernel, by decide +kernel⟩
theorem sc_size : FnScope ["mask", "size", "rest"] ["mask"] (defScope s_size) := ⟨rfl, rfl, rfl, by decide +kernel, rfl, by decide +kernel, by decide +kernel⟩
section
variable {P : Program} {w : World} {K : PySem.W.Frag} {mg : Str → Option Value} {base : Heap}
def spRise (K : PySem.W.Frag) : Sp := fun vs H Q _ => ∃ (a : Addr) (l : List Nat) (top : Nat), vs = [.ref a, vn top] ∧ SqL K H a (l.map vn) ∧ Q (.bl (riseB top 0 l)) H
theorem riseB_take (top : Nat) : ∀ (l : List Nat) (b i : Nat) (x : Nat), l[i]? = some x → riseB top b (l.take i) = true → riseB top b (l.take (i + 1)) = !decide (x ≤ lastD (l.take i) b ∨ top < x)
  | [], b, i, x, h, _ => by simp at h
  | y :: l, b, 0, x, h, _ => by
    have e : y = x := by simpa using h
    subst e
    show (if y ≤ b ∨ top < y then false else riseB top y (l.take 0)) = _
    rw [List.take_zero, List.take_zero]
    unfold lastD riseB
    by_cases c : y ≤ b ∨ top < y
    · rw [if_pos c, decide_eq_true c]; rfl
    · rw [if_neg c, decide_eq_false c]; rfl
  | y :: l, b, i + 1, x, h, q => by
    have h' : l[i]? = some x := by simpa using h
    have q' : (if y ≤ b ∨ top < y then false else riseB top y (l.take i)) = true := q
    by_cases c : y ≤ b ∨ top < y
    · rw [if_pos c] at q'; cases q'
    · rw [if_neg c] at q'
      show (if y ≤ b ∨ top < y then false else riseB top y (l.take (i + 1))) = _
      rw [if_neg c, riseB_take top l y i x h' q']
      rfl
theorem riseB_false (top : Nat) : ∀ (l : List Nat) (b i : Nat), riseB top b (l.take i) = false → riseB top b l = false
  | [], b, i, h => by simpa using h
  | y :: l, b, 0, h => by simp [riseB] at h
  | y :: l, b, i + 1, h => by
    have h' : (if y ≤ b ∨ top < y then false else riseB top y (l.take i)) = false := h
    show (if y ≤ b ∨ top < y then false else riseB top y l) = false
    by_cases c : y ≤ b ∨ top < y
    · rw [if_pos c]
    · rw [if_neg c] at h' ⊢; exact riseB_false top l y i h'
theorem lastD_snoc : ∀ (l : List Nat) (b x : Nat), lastD (l ++ [x]) b = x
  | [], _, _ => rfl
  | y :: l, _, x => lastD_snoc l y x
theorem ok_rise {f : Addr} {fd : FuncData} (F : Fun K "rise_within" "rise_within" s_rise f fd) : FnOk P w K mg base CX0 1 f fd ["points", "top"] (spRise K) := by
  refine F.ok sc_rise (fun vs H Q E h => ?_) (fun cdv A outer s H vs Q E hr h => ?_)
  · obtain ⟨a, l, top, rfl, _⟩ := h
    rfl
  · obtain ⟨a, l, top, rfl, hS, q⟩ := h
    refine ⟨_, pss_cons (ps_set (i := 2) sc_rise.nd rfl (.inl rfl) pe_int)
      (pss_cons (ps_for PassesOwn.never rfl (pi_list (pv 0)) (pg_name (i := 3) sc_rise.nd rfl (.inl rfl))
        (pss_cons (ps_if (pw_or (pt_cmpR op_le (pv 3) (pv 2) (nomark _)) (pw_or1 (pt_cmpR op_gt (pv 3) (pv 1) (nomark _)))).pt
            (pss_one (ps_ret pe_bl)) pss_nil)
          (pss_one (ps_set (i := 2) sc_rise.nd rfl (.inl rfl) (pv 3)))))
      (pss_one (ps_ret pe_bl))), ?_⟩
    refine ⟨_, rfl, a, rfl, ⟨_, hS⟩, for_list (K := K) (a := a) (xs := l.map vn)
      (fun i σ H' => ∃ v, σ = [some (.ref a), some (vn top), some (vn (lastD (l.take i) 0)), v] ∧ H' = H ∧ riseB top 0 (l.take i) = true)
      ⟨none, rfl, rfl, by rw [List.take_zero]; rfl⟩ (fun i σ H' _ ⟨_, _, e, _⟩ => e ▸ hS) ?_ ?_⟩
    · rintro i y σ H' hi ⟨v, rfl, rfl, hb⟩
      obtain ⟨n, hn, rfl⟩ := get_map hi
      have st := riseB_take top l 0 i n hn hb
      refine ⟨_, rfl, _, rfl, _, _, rfl, rfl, _, rfl, ite2 (fun c => ?_) (fun c => ?_)⟩
      · have c' : n ≤ lastD (l.take i) 0 := by have := of_decide_eq_true c; omega
        rw [decide_eq_true (Or.inl c')] at st
        have := riseB_false top l 0 (i + 1) st
        refine iteT ?_
        show Q (.bl false) _
        rw [this] at q; exact q
      · refine ⟨_, rfl, _, rfl, _, _, rfl, rfl, _, rfl, ite2 (fun d => ?_) (fun d => ?_)⟩
        · have c' : top < n := by have := of_decide_eq_true d; omega
          rw [decide_eq_true (Or.inr c')] at st
          have := riseB_false top l 0 (i + 1) st
          show Q (.bl false) _
          rw [this] at q; exact q
        · have c' : ¬ (n ≤ lastD (l.take i) 0 ∨ top < n) := by
            rintro (z | z)
            · exact c (decide_eq_true (by omega))
            · exact d (decide_eq_true (by omega))
          rw [decide_eq_false c'] at st
          refine ⟨_, rfl, some (vn n), ?_, rfl, st⟩
          rw [take_more hn, lastD_snoc]
          rfl
    · rintro σ H' ⟨v, rfl, rfl, hb⟩
      rw [List.length_map, List.take_length] at hb
      rw [hb] at q
      exact q

def spMask (K : PySem.W.Frag) : Sp := fun vs H Q _ => ∃ (a : Addr) (l : List Nat), vs = [.ref a] ∧ SqL K H a (l.map vn) ∧ (∀ x ∈ l, x ≤ 1000) ∧ Q (vn (maskOf l)) H
theorem mask_snoc (l : List Nat) (x : Nat) : maskOf (l ++ [x]) = maskOf l ||| 2 ^ x := by
  unfold maskOf; rw [List.foldl_append]; rfl
theorem ok_mask {f : Addr} {fd : FuncData} (F : Fun K "mask_of" "mask_of" s_mask f fd) : FnOk P w K mg base CX0 1 f fd ["points"] (spMask K) := by
  refine F.ok sc_mask (fun vs H Q E h => ?_) (fun cdv A outer s H vs Q E hr h => ?_)
  · obtain ⟨a, l, rfl, _⟩ := h
    rfl
  · obtain ⟨a, l, rfl, hS, hle, q⟩ := h
    refine ⟨_, pss_cons (ps_set (i := 1) sc_mask.nd rfl (.inl rfl) pe_int)
      (pss_cons (ps_for PassesOwn.never rfl (pi_list (pv 0)) (pg_name (i := 2) sc_mask.nd rfl (.inl rfl))
        (pss_one (ps_set (i := 1) sc_mask.nd rfl (.inl rfl) (pe_op op_orN (pv 1) (pe_op op_bitN pe_int (pv 2))))))
      (pss_one (ps_ret (pv 1)))), ?_⟩
    refine ⟨_, rfl, a, rfl, ⟨_, hS⟩, for_list (K := K) (a := a) (xs := l.map vn)
      (fun i σ H' => ∃ v, σ = [some (.ref a), some (vn (maskOf (l.take i))), v] ∧ H' = H)
      ⟨none, rfl, rfl⟩ (fun i σ H' _ ⟨_, _, e⟩ => e ▸ hS) ?_ ?_⟩
    · rintro i y σ H' hi ⟨v, rfl, rfl⟩
      obtain ⟨n, hn, rfl⟩ := get_map hi
      have hx := hle n (List.mem_of_getElem? hn)
      refine ⟨_, rfl, _, rfl, n, rfl, rfl, by omega, _, _, rfl, rfl, some (vn n), ?_, rfl⟩
      rw [take_more hn, mask_snoc]
      rfl
    · rintro σ H' ⟨v, rfl, rfl⟩
      rw [List.length_map, List.take_length]
      exact ⟨_, rfl, q⟩
def spSize : Sp := fun vs H Q _ => ∃ m : Nat, vs = [vn m] ∧ Q (vn (pc m)) H
theorem ok_size {f : Addr} {fd : FuncData} (F : Fun K "size_of" "size_of" s_size f fd) : FnOk P w K mg base CX0 1 f fd ["mask"] spSize := by
  refine F.ok sc_size (fun vs H Q E h => ?_) (fun cdv A outer s H vs Q E hr h => ?_)
  · obtain ⟨m, rfl, _⟩ := h
    rfl
  · obtain ⟨m, rfl, q⟩ := h
    refine ⟨_, pss_cons (ps_set (i := 1) sc_size.nd rfl (.inl rfl) pe_int)
      (pss_cons (ps_set (i := 2) sc_size.nd rfl (.inl rfl) (pv 0))
      (pss_cons (ps_while PassesOwn.never (pt_cmpR op_gtN (pv 2) pe_int (nomark _))
        (pss_cons (ps_set (i := 2) sc_size.nd rfl (.inl rfl) (pe_op op_andN (pv 2) (pe_op op_subN (pv 2) pe_int)))
        (pss_one (ps_set (i := 1) sc_size.nd rfl (.inl rfl) (pe_op op_addN (pv 1) pe_int)))))
      (pss_one (ps_ret (pv 1))))), ?_⟩
    refine ⟨_, rfl, while_by (fun σ H' => ∃ r n : Nat, σ = [some (vn m), some (vn n), some (vn r)] ∧ n + pc r = pc m ∧ H' = H)
      (fun σ _ => match σ with | [_, _, some (.int r)] => r.toNat | _ => 0) ⟨m, 0, rfl, by omega, rfl⟩ ?_ ?_⟩
    · rintro σ H' ⟨r, n, rfl, en, rfl⟩
      refine ⟨_, rfl, r, 0, rfl, rfl, _, rfl, ite2 (fun c => ?_) (fun c => ?_)⟩
      · have hr0 : 0 < r := of_decide_eq_true c
        have e2 := pc_drop r hr0
        refine ⟨_, rfl, _, rfl, r, 1, rfl, rfl, hr0, _, _, rfl, rfl, _, rfl, n, 1, rfl, rfl, ⟨r &&& (r - 1), n + 1, rfl, by omega, rfl⟩, ?_⟩
        show ((r &&& (r - 1) : Nat) : Int).toNat < (r : Int).toNat
        have := Nat.and_le_right (n := r) (m := r - 1)
        omega
      · have hr0 : r = 0 := by
          have : ¬ (0 < r) := fun z => c (decide_eq_true z)
          omega
        subst hr0
        rw [pc_zero] at en
        refine ⟨_, rfl, ?_⟩
        rw [show n = pc m by omega]
        exact q
    · intro σ H Q Q' hQ h
      obtain ⟨v, h1, i, j, e1, e2, b, e3, h2⟩ := h
      exact ⟨v, h1, i, j, e1, e2, b, e3, hQ _ _ h2⟩
end
end Eb

set_option Elab.async false
set_option maxRecDepth 100000
set_option maxHeartbeats 2000000
set_option linter.all false
namespace Eb
open PySem PySem.Spec PyProof.Rows L2
abbrev s_count : Stmt := topS 8
theorem sc_count : FnScope ["blocks", "mask", "block"] ["blocks", "mask"] (defScope s_count) := ⟨rfl, rfl, rfl, by decide +kernel, rfl, by decide +kernel, by decide +kernel⟩
section
variable {P : Program} {w : World} {K : PySem.W.Frag} {mg : Str → Option Value} {base : Heap}
def cntM (bs : List Nat) (m : Nat) : Nat := (bs.filter fun b => decide (b &&& m = m)).length
def spCount (K : PySem.W.Frag) : Sp := fun vs H Q _ => ∃ (a : Addr) (bs : List Nat) (m : Nat), vs = [.ref a, vn m] ∧ SqL K H a (bs.map vn) ∧ bs.length ≤ 1000 ∧ ∀ H', Same H H' → Q (vn (cntM bs m)) H'
theorem ok_count {f : Addr} {fd : FuncData} (F : Fun K "count_together" "count_together" s_count f fd) (ml : mg "len" = none) : FnOk P w K mg base CX0 1 f fd ["blocks", "mask"] (spCount K) := by
  refine F.ok sc_count (fun vs H Q E h => ?_) (fun cdv A outer s H vs Q E hr h => ?_)
  · obtain ⟨a, bs, m, rfl, _⟩ := h
    rfl
  · obtain ⟨a, bs, m, rfl, hS, hl, q⟩ := h
    refine ⟨_, pss_one (ps_ret (pe_callB call_len_seq (by rfl) ml PySem.boot_len (pa_cons
      (pe_lc (own := [("block", 2)]) (g := gName 2) rfl sc_count.nd (pi_list (pv 0)) (blkOk_by (own := [("block", 2)]) (N := ["blocks", "mask", "block"]) (sc := defScope s_count) (by decide +kernel))
        (fun _ _ _ _ _ => pg_name (i := 2) sc_count.nd rfl (Or.inl rfl)) (fun _ _ _ _ _ => pts_one (pt_cmpR op_eqN (pe_op op_andN (pv 2) (pv 1)) (pv 1) (nomark _))) (fun _ _ _ _ _ => pv 2)) pa_nil))), ?_⟩
    refine ⟨_, rfl, a, rfl, ⟨_, hS⟩, fun D nD => lc_list (K := K) (a := a) (xs := bs.map vn)
      (fun i H' => Same H H' ∧ H' D = some (.lst (((bs.take i).filter fun b => decide (b &&& m = m)).map vn))) ⟨same_upd nD, upd_same⟩ (fun i H' _ ⟨s, _⟩ => s.seq hS) ?_ ?_⟩
    · rintro i x H' hi ⟨sm, hD⟩
      obtain ⟨n, hn, rfl⟩ := get_map hi
      refine ⟨rfl, _, rfl, _, rfl, n, m, rfl, rfl, _, rfl, n &&& m, m, rfl, rfl, _, rfl, ite2 (fun c => ?_) (fun c => ?_)⟩
      · refine ⟨_, rfl, _, hD, ?_, ?_, ?_⟩
        · rw [List.length_map]
          have := List.length_filter_le (fun b => decide (b &&& m = m)) (bs.take i)
          rw [List.length_take] at this
          exact small1000 (by omega)
        · intro b o e
          have nb : b ≠ D := ne_of_none e nD
          rw [upd_ne nb]; exact sm _ _ e
        · rw [upd_same, take_more hn, List.filter_append, List.map_append]
          congr 2
          simp only [List.filter_cons, List.filter_nil, c]
          rfl
      · refine ⟨sm, ?_⟩
        rw [hD, take_more hn, List.filter_append]
        simp only [List.filter_cons, List.filter_nil, c]
        simp
    · rintro H' ⟨sm, hD⟩
      rw [List.length_map, List.take_length] at hD
      refine ⟨D, _, rfl, .inl (.inl (.inl hD)), ?_⟩
      rw [List.length_map]
      exact q H' sm

abbrev s_common : Stmt := topS 9
theorem sc_common : FnScope ["blocks", "sizes", "place", "block", "other"] ["blocks"] (defScope s_common) := ⟨rfl, rfl, rfl, by decide +kernel, rfl, by decide +kernel, by decide +kernel⟩
def comRow (bs : List Nat) (i : Nat) : List Nat := (bs.drop (i + 1)).map fun o => pc (bs.getD i 0 &&& o)
def commons (bs : List Nat) : List Nat := (List.range bs.length).flatMap (comRow bs)
theorem commons_pairs : ∀ (bs : List Nat), commons bs = (pairs bs).map fun z => pc (z.1 &&& z.2)
  | [] => rfl
  | b :: bs => by
    have ih := commons_pairs bs
    unfold commons at ih ⊢
    rw [List.length_cons, List.range_succ_eq_map, List.flatMap_cons, List.flatMap_map]
    simp only [pairs, List.map_append, List.map_map]
    congr 1
theorem commons_length (bs : List Nat) : (commons bs).length ≤ bs.length * bs.length := by
  unfold commons
  rw [List.length_flatMap]
  have : ∀ (l : List Nat), (l.map fun i => (comRow bs i).length).sum ≤ l.length * bs.length := by
    intro l
    induction l with
    | nil => simp
    | cons x l ih =>
      simp only [List.map_cons, List.sum_cons, List.length_cons]
      have : (comRow bs x).length ≤ bs.length := by unfold comRow; rw [List.length_map, List.length_drop]; omega
      rw [Nat.add_mul]; omega
  have := this (List.range bs.length)
  rwa [List.length_range] at this
def spCommon (K : PySem.W.Frag) : Sp := fun vs H Q _ => ∃ (a : Addr) (bs : List Nat), vs = [.ref a] ∧ SqL K H a (bs.map vn) ∧ bs.length ≤ 20 ∧ ∀ H' p, Same H H' → H p = none → H' p = some (.lst ((commons bs).map vn)) → Q (.ref p) H'
theorem flat_le {bs : List Nat} (hl : bs.length ≤ 20) {i : Nat} (hi : i ≤ bs.length) : ((List.range i).flatMap (comRow bs)).length ≤ 400 := by
  have h := commons_length bs
  have e : ∃ r, commons bs = (List.range i).flatMap (comRow bs) ++ r := by
    refine ⟨((List.range (bs.length - i)).map fun x => i + x).flatMap (comRow bs), ?_⟩
    unfold commons
    rw [← List.flatMap_append, ← List.range_add, show i + (bs.length - i) = bs.length by omega]
  obtain ⟨r, e⟩ := e
  rw [e, List.length_append] at h
  have : bs.length * bs.length ≤ 20 * 20 := Nat.mul_le_mul hl hl
  omega
theorem ok_common {f : Addr} {fd : FuncData} (F : Fun K "common_sizes" "common_sizes" s_common f fd) (me : mg "enumerate" = none) (cs : Cl P w K mg base 1 "size_of" ["mask"] spSize) : FnOk P w K mg base CX0 2 f fd ["blocks"] (spCommon K) := by
  refine F.ok sc_common (fun vs H Q E h => ?_) (fun cdv A outer s H vs Q E hr h => ?_)
  · obtain ⟨a, bs, rfl, _⟩ := h
    rfl
  · obtain ⟨a, bs, rfl, hS, hl, q⟩ := h
    refine ⟨_, pss_cons (ps_set (i := 1) sc_common.nd rfl (.inl rfl) (pe_lst pa_nil))
      (pss_cons (ps_for PassesOwn.never rfl (pi_enum (by rfl) me (pa_cons (pv 0) pa_nil)) (pg_tup rfl (pgs_cons (pg_name (i := 2) sc_common.nd rfl (.inl rfl)) (pgs_cons (pg_name (i := 3) sc_common.nd rfl (.inl rfl)) pgs_nil)))
        (pss_one (ps_for PassesOwn.never rfl (pi_list (pe_slice sl_list (pv 0) (po_some (pe_op op_addN (pv 2) pe_int)) po_none)) (pg_name (i := 4) sc_common.nd rfl (.inl rfl))
          (pss_one (ps_expr (pe_bm PySem.F.plainAttrs_list PySem.F.slot_list_append PySem.F.type_list_append mt_append (pv 1) (pa_cons
            (pe_cl cs hr (by decide) (by rfl) (pa_cons (pe_op op_andN (pv 3) (pv 4)) pa_nil)) pa_nil)))))))
      (pss_one (ps_ret (pv 1)))), ?_⟩
    refine ⟨Nat.zero_le _, fun o no => ?_⟩
    have s1 : Same H (upd H o (.lst [])) := same_upd no
    refine ⟨_, rfl, a, bs.map vn, rfl, s1.seq hS, for_it walk_enum (fun i σ H' => ∃ v2 v3 v4, σ = [some (.ref a), some (.ref o), v2, v3, v4] ∧ Same H H' ∧ H' o = some (.lst (((List.range i).flatMap (comRow bs)).map vn)))
      ⟨none, none, none, rfl, s1, upd_same⟩ (fun i σ H' _ ⟨_, _, _, _, s2, _⟩ => s2.seq hS) ?_ ?_⟩
    · rintro i x σ H2 H3 hi ⟨v2, v3, v4, rfl, sm, ho⟩ ⟨T, x1, x2, rfl, nT, rfl, e1, e2⟩
      rw [List.length_map] at hi
      obtain rfl : x1 = .int (i : Nat) := (Option.some.inj e1).symm
      obtain ⟨b, hb, rfl⟩ := get_map e2
      have nTo : o ≠ T := ne_of_none ho nT
      have smT : Same H2 (upd H2 T (.tup [.int (i : Nat), vn b])) := same_upd nT
      have hoT : (upd H2 T (.tup [.int (i : Nat), vn b])) o = some (.lst (((List.range i).flatMap (comRow bs)).map vn)) := smT _ _ ho
      refine ⟨T, _, rfl, .inl (.inl upd_same), rfl, _, _, rfl, _, _, rfl, rfl, ?_⟩
      refine ⟨_, rfl, _, rfl, i, 1, rfl, rfl, _, rfl, a, bs.map vn, rfl, smT.seq (sm.seq hS), fun c nc => ?_⟩
      rw [cut_from, ← List.map_drop]
      have smC : Same (upd H2 T (.tup [.int (i : Nat), vn b])) (upd (upd H2 T (.tup [.int (i : Nat), vn b])) c (.lst ((bs.drop (i + 1)).map vn))) := same_upd nc
      have nco : o ≠ c := ne_of_none hoT nc
      have eb : bs.getD i 0 = b := by rw [List.getD_eq_getElem?_getD, hb]; rfl
      refine ⟨c, rfl, ⟨_, .inl (.inl upd_same)⟩, for_list (K := K) (a := c) (xs := (bs.drop (i + 1)).map vn)
        (fun j σ H' => ∃ v4, σ = [some (.ref a), some (.ref o), some (vn i), some (vn b), v4] ∧ Same H H' ∧ H' c = some (.lst ((bs.drop (i + 1)).map vn)) ∧ H' o = some (.lst (((List.range i).flatMap (comRow bs) ++ (comRow bs i).take j).map vn)))
        ⟨v4, rfl, sm.trans (smT.trans smC), upd_same, by rw [upd_ne nco, hoT, List.take_zero, List.append_nil]⟩ (fun j σ H' _ ⟨_, _, _, hc, _⟩ => .inl (.inl hc)) ?_ ?_⟩
      · rintro j y σ H' hj ⟨v4, rfl, sm', hc, ho'⟩
        obtain ⟨d, hd, rfl⟩ := get_map hj
        have hrow : (comRow bs i)[j]? = some (pc (b &&& d)) := by
          unfold comRow; rw [List.getElem?_map, hd, eb]; rfl
        refine ⟨_, rfl, .inl ⟨rfl, _, .inl (.inl ho')⟩, _, rfl, _, rfl, b, d, rfl, rfl, ⟨b &&& d, rfl, ?_⟩⟩
        refine ⟨o, _, _, rfl, rfl, ho', ?_, some (vn d), rfl, ?_, ?_, ?_⟩
        · rw [List.length_map, List.length_append]
          have h1 := flat_le hl (show i ≤ bs.length by omega)
          have h2 : ((comRow bs i).take j).length ≤ 20 := by
            rw [List.length_take]; unfold comRow; rw [List.length_map, List.length_drop]; omega
          exact small1000 (by omega)
        · intro z u e
          have nz : z ≠ o := ne_of_none e no
          rw [upd_ne nz]; exact sm' _ _ e
        · rw [upd_ne nco.symm]; exact hc
        · rw [upd_same, take_more hrow, ← List.append_assoc, List.map_append (l₂ := [pc (b &&& d)])]
          rfl
      · rintro σ H' ⟨v4, rfl, sm', hc, ho'⟩
        refine ⟨_, _, _, rfl, sm', ?_⟩
        rw [ho', List.length_map]
        have e3 : (comRow bs i).take (bs.drop (i + 1)).length = comRow bs i := List.take_of_length_le (by unfold comRow; rw [List.length_map]; exact Nat.le_refl _)
        rw [e3, List.range_succ, List.flatMap_append, List.flatMap_cons, List.flatMap_nil, List.append_nil]
    · rintro σ H' ⟨v2, v3, v4, rfl, sm, ho⟩
      rw [List.length_map] at ho
      exact ⟨_, rfl, q H' o sm no ho⟩
end
end Eb

set_option Elab.async false
set_option maxRecDepth 100000
set_option maxHeartbeats 2000000
set_option linter.all false
namespace Eb
open PySem PySem.Spec PyProof.Rows L2
open Dg01 (choices)
/-! ### lists of lists of numbers -/
def Rows (H : Hp) : List Addr → List (List Nat) → Prop
  | [], [] => True
  | a :: as, c :: cs => H a = some (.lst (c.map vn)) ∧ Rows H as cs
  | _, _ => False
theorem Rows.mono {H H' : Hp} : ∀ {as : List Addr} {cs : List (List Nat)}, (∀ a ∈ as, ∀ o, H a = some o → H' a = some o) → Rows H as cs → Rows H' as cs
  | [], [], _, _ => trivial
  | [], _ :: _, _, h => h
  | _ :: _, [], _, h => h
  | a :: as, c :: cs, s, h => ⟨s a (by simp) _ h.1, Rows.mono (fun b hb => s b (by simp [hb])) h.2⟩
theorem Rows.same {H H' : Hp} {as : List Addr} {cs : List (List Nat)} (s : Same H H') (h : Rows H as cs) : Rows H' as cs := h.mono fun a _ => s a
theorem Rows.length {H : Hp} : ∀ {as : List Addr} {cs : List (List Nat)}, Rows H as cs → as.length = cs.length
  | [], [], _ => rfl
  | [], _ :: _, h => h.elim
  | _ :: _, [], h => h.elim
  | _ :: as, _ :: cs, h => by rw [List.length_cons, List.length_cons, Rows.length h.2]
theorem Rows.get {H : Hp} : ∀ {as : List Addr} {cs : List (List Nat)} {i : Nat} {a : Addr}, Rows H as cs → as[i]? = some a → ∃ c, cs[i]? = some c ∧ H a = some (.lst (c.map vn))
  | [], [], i, a, _, h => by simp at h
  | [], _ :: _, _, _, h, _ => h.elim
  | _ :: _, [], _, _, h, _ => h.elim
  | b :: as, c :: cs, 0, a, h, e => by
    have : b = a := by simpa using e
    subst this
    exact ⟨c, rfl, h.1⟩
  | b :: as, c :: cs, i + 1, a, h, e => by
    obtain ⟨d, h1, h2⟩ := Rows.get (i := i) (a := a) h.2 (by simpa using e)
    exact ⟨d, by simpa using h1, h2⟩
theorem Rows.snoc {H : Hp} {p : Addr} {c : List Nat} (hp : H p = some (.lst (c.map vn))) : ∀ {as : List Addr} {cs : List (List Nat)}, Rows H as cs → Rows H (as ++ [p]) (cs ++ [c])
  | [], [], _ => ⟨hp, trivial⟩
  | [], _ :: _, h => h.elim
  | _ :: _, [], h => h.elim
  | _ :: as, _ :: cs, h => ⟨h.1, Rows.snoc hp h.2⟩
theorem get_ref {l : List Addr} {i : Nat} {x : V} (h : (l.map V.ref)[i]? = some x) : ∃ n, l[i]? = some n ∧ x = .ref n := by
  rw [List.getElem?_map] at h
  cases e : l[i]? with
  | none => rw [e] at h; cases h
  | some z => rw [e] at h; exact ⟨z, rfl, (Option.some.inj h).symm⟩
theorem lastD_getLast : ∀ (l : List Nat) (d : Nat) (h : l ≠ []), lastD l d = l.getLast h
  | [x], _, _ => rfl
  | x :: y :: l, _, _ => by
    show lastD (y :: l) x = _
    rw [lastD_getLast (y :: l) x (by simp)]
    rfl
theorem atI_neg1 (c : List Nat) (h : c ≠ []) : atI (c.map vn) (-1) = some (vn (lastD c 0)) := by
  have hz : c.map vn = (c.dropLast.map vn) ++ [vn (c.getLast h)] := by
    rw [← List.map_singleton, ← List.map_append, List.dropLast_concat_getLast]
  rw [hz, lastD_getLast c 0 h]
  exact atI_last _ _
section
variable {P : Program} {w : World} {K : PySem.W.Frag} {mg : Str → Option Value} {base : Heap}
abbrev s_longer : Stmt := topS 17
theorem sc_longer : FnScope ["choices", "top", "longer", "choice", "lowest", "point"] ["choices", "top"] (defScope s_longer) := ⟨rfl, rfl, rfl, by decide +kernel, rfl, by decide +kernel, by decide +kernel⟩
def spLonger : Sp := fun vs H Q _ => ∃ (a : Addr) (as : List Addr) (cs : List (List Nat)) (top : Nat), vs = [.ref a, vn top] ∧ H a = some (.lst (as.map V.ref)) ∧ Rows H as cs ∧ (longer top cs).length < sizeLine ∧ (∀ c ∈ cs, c.length ≤ 1000 ∧ lastD c 0 ≤ 1000) ∧ top ≤ 1000 ∧
  ∀ H' p bs, Same H H' → H' p = some (.lst (bs.map V.ref)) → Rows H' bs (longer top cs) → Q (.ref p) H'
theorem longer_take {top : Nat} {cs : List (List Nat)} {i : Nat} {c : List Nat} (h : cs[i]? = some c) : longer top (cs.take (i + 1)) = longer top (cs.take i) ++ ext top 0 c := by
  unfold longer
  rw [take_more h, List.flatMap_append, List.flatMap_cons, List.flatMap_nil, List.append_nil]
theorem longer_le {top : Nat} {cs : List (List Nat)} {i : Nat} {c : List Nat} (h : cs[i]? = some c) : (longer top (cs.take i)).length + (ext top 0 c).length ≤ (longer top cs).length := by
  have e := longer_take (top := top) h
  have : longer top cs = longer top (cs.take (i + 1)) ++ longer top (cs.drop (i + 1)) := by
    unfold longer; rw [← List.flatMap_append, List.take_append_drop]
  rw [this, e, List.length_append, List.length_append]; omega
theorem ok_longer {f : Addr} {fd : FuncData} (F : Fun K "one_longer" "one_longer" s_longer f fd) (ml : mg "len" = none) (mr : mg "range" = none) : FnOk P w K mg base CX0 1 f fd ["choices", "top"] spLonger := by
  refine F.ok sc_longer (fun vs H Q E h => ?_) (fun cdv A outer s H vs Q E hr h => ?_)
  · obtain ⟨a, as, cs, top, rfl, _⟩ := h
    rfl
  · obtain ⟨a, as, cs, top, rfl, ha, hR, hsz, hc, ht, q⟩ := h
    refine ⟨_, pss_cons (ps_set (i := 2) sc_longer.nd rfl (.inl rfl) (pe_lst pa_nil))
      (pss_cons (ps_for PassesOwn.never rfl (pi_list (pv 0)) (pg_name (i := 3) sc_longer.nd rfl (.inl rfl))
        (pss_cons (ps_set (i := 4) sc_longer.nd rfl (.inl rfl) (pe_ifExp (pt_cmpR op_gtN (pe_callB call_len_seq (by rfl) ml PySem.boot_len (pa_cons (pv 3) pa_nil)) pe_int (nomark _))
            (pe_op op_addN (pe_ix ix_list (pv 3) (pe_un un_neg pe_int) (fun _ _ => rfl)) pe_int) pe_int))
        (pss_one (ps_for PassesOwn.never rfl (pi_range2 rfl mr (pa_cons (pv 4) (pa_cons (pe_op op_addN (pv 1) pe_int) pa_nil))) (pg_name (i := 5) sc_longer.nd rfl (.inl rfl))
          (pss_one (ps_expr (pe_bm PySem.F.plainAttrs_list PySem.F.slot_list_append PySem.F.type_list_append mt_append (pv 2) (pa_cons
            (pe_op op_cat (pv 3) (pe_lst (pa_cons (pv 5) pa_nil))) pa_nil))))))))
      (pss_one (ps_ret (pv 2)))), ?_⟩
    refine ⟨Nat.zero_le _, fun o no => ?_⟩
    have s1 : Same H (upd H o (.lst [])) := same_upd no
    refine ⟨_, rfl, a, rfl, ⟨_, .inl (.inl (s1 _ _ ha))⟩, for_list (K := K) (a := a) (xs := as.map V.ref)
      (fun i σ H' => ∃ v3 v4 v5 bs, σ = [some (.ref a), some (vn top), some (.ref o), v3, v4, v5] ∧ Same H H' ∧ H' o = some (.lst (bs.map V.ref)) ∧ o ∉ bs ∧ Rows H' bs (longer top (cs.take i)))
      ⟨none, none, none, [], rfl, s1, upd_same, by simp, by rw [List.take_zero]; exact trivial⟩ (fun i σ H' _ ⟨_, _, _, _, _, s2, _⟩ => .inl (.inl (s2 _ _ ha))) ?_ ?_⟩
    · rintro i y σ H' hi ⟨v3, v4, v5, bs, rfl, sm, ho, nb, hB⟩
      obtain ⟨r, hr1, rfl⟩ := get_ref hi
      obtain ⟨c, hc1, hc2⟩ := hR.get hr1
      have hcm := hc c (List.mem_of_getElem? hc1)
      have hle := longer_le (top := top) hc1
      have hcr : H' r = some (.lst (c.map vn)) := sm _ _ hc2
      -- what both ways lead to
      have key : tFor (iRng2 (tCons (tVar 4) (tCons (tOp (fun x y H Q => ∃ n m : Nat, x = .int (n : Int) ∧ y = .int (m : Int) ∧ Q (.int ((n + m : Nat) : Int)) H) (tVar 1) (tC (.int 1))) tNil))) (gName 5)
          (tDrop (tBM K "list" rAppend (tVar 2) (tCons (tOp rCat (tVar 3) (tLst (tCons (tVar 5) tNil))) tNil)))
          { nx := fun σ H' => ∃ v3 v4 v5 bs, σ = [some (.ref a), some (vn top), some (.ref o), v3, v4, v5] ∧ Same H H' ∧ H' o = some (.lst (bs.map V.ref)) ∧ o ∉ bs ∧ Rows H' bs (longer top (cs.take (i + 1))), rt := Q, bk := fun σ H' => False, ct := fun σ H' => False }
          [some (.ref a), some (vn top), some (.ref o), some (.ref r), some (vn (lastD c 0 + 1)), v5] H' := by
        refine ⟨_, rfl, _, rfl, top, 1, rfl, rfl, _, _, rfl, ⟨by omega, by omega, by omega, by omega⟩, ?_⟩
        have en : (((top + 1 : Nat) : Int) - ((lastD c 0 + 1 : Nat) : Int)).toNat = top - lastD c 0 := by omega
        rw [en]
        refine for_range (lo := ((lastD c 0 + 1 : Nat) : Int)) (n := top - lastD c 0) (fun j σ H' => ∃ v5 bs, σ = [some (.ref a), some (vn top), some (.ref o), some (.ref r), some (vn (lastD c 0 + 1)), v5] ∧ Same H H' ∧ H' o = some (.lst (bs.map V.ref)) ∧ o ∉ bs ∧ Rows H' bs (longer top (cs.take i) ++ (ext top 0 c).take j))
          ⟨v5, bs, rfl, sm, ho, nb, by rw [List.take_zero, List.append_nil]; exact hB⟩ ?_ ?_
        · rintro j σ H2 hj ⟨v5, bs, rfl, sm2, ho2, nb2, hB2⟩
          have hx : (ext top 0 c)[j]? = some (c ++ [lastD c 0 + 1 + j]) := by
            unfold ext
            rw [List.getElem?_map, List.getElem?_range' (by omega)]
            simp
          have elen := hB2.length
          have hext : (ext top 0 c).length = top - lastD c 0 := by unfold ext; simp
          rw [List.length_append, List.length_take, hext] at elen
          refine ⟨_, rfl, .inl ⟨rfl, _, .inl (.inl ho2)⟩, _, rfl, _, rfl, (by show 1 ≤ sizeLine; decide), fun p np => ?_⟩
          have smp : Same H2 (upd H2 p (.lst [.int (((lastD c 0 + 1 : Nat) : Int) + j)])) := same_upd np
          refine ⟨r, p, _, _, rfl, rfl, smp _ _ (sm2 _ _ hc2), upd_same, ?_, fun p2 np2 => ?_⟩
          · rw [List.length_map]
            have : c.length + 1 < sizeLine := Nat.lt_of_le_of_lt (show c.length + 1 ≤ 1001 by omega) (by decide)
            exact Nat.le_of_lt this
          · have smq := same_upd (o := .lst (c.map vn ++ [.int (((lastD c 0 + 1 : Nat) : Int) + j)])) np2
            have ho3 := smq _ _ (smp _ _ ho2)
            have np2o : p2 ≠ o := (ne_of_none (smp _ _ ho2) np2).symm
            refine ⟨o, _, _, rfl, rfl, ho3, ?_, _, bs ++ [p2], rfl, ?_, ?_, ?_, ?_⟩
            · rw [List.length_map, elen]; omega
            · intro z u e
              have nz : z ≠ o := ne_of_none e no
              rw [upd_ne nz]; exact smq _ _ (smp _ _ (sm2 _ _ e))
            · rw [upd_same, List.map_append]; rfl
            · intro hm
              rcases List.mem_append.mp hm with hm | hm
              · exact nb2 hm
              · have : o = p2 := by simpa using hm
                exact np2o this.symm
            · rw [take_more hx, ← List.append_assoc]
              refine Rows.snoc ?_ (Rows.mono ?_ hB2)
              · rw [upd_ne np2o, upd_same, List.map_append]
                rfl
              · intro b hb u e
                have nbo : b ≠ o := fun z => nb2 (z ▸ hb)
                rw [upd_ne nbo]; exact smq _ _ (smp _ _ e)
        · rintro σ H2 ⟨v5, bs, rfl, sm2, ho2, nb2, hB2⟩
          refine ⟨_, _, _, bs, rfl, sm2, ho2, nb2, ?_⟩
          rw [longer_take hc1]
          have hext : (ext top 0 c).length = top - lastD c 0 := by unfold ext; simp
          rwa [← hext, List.take_length] at hB2
      refine ⟨_, rfl, r, _, rfl, .inl (.inl (.inl hcr)), (c.map vn).length, 0, rfl, rfl, _, rfl, ite2 (fun d => ?_) (fun d => ?_)⟩
      · have hne : c ≠ [] := by
          rintro rfl
          have := of_decide_eq_true d
          simp at this
        refine ⟨_, rfl, 1, rfl, r, _, -1, _, rfl, rfl, .inl (.inl hcr), atI_neg1 c hne, lastD c 0, 1, rfl, rfl, ?_⟩
        exact key
      · have he : c = [] := by
          cases c with
          | nil => rfl
          | cons x c => exact absurd (decide_eq_true (by simp)) d
        subst he
        exact key
    · rintro σ H' ⟨v3, v4, v5, bs, rfl, sm, ho, nb, hB⟩
      rw [List.length_map, hR.length, List.take_length] at hB
      exact ⟨_, rfl, q H' o bs sm ho hB⟩

abbrev s_choices : Stmt := topS 18
theorem sc_choices : FnScope ["top", "t", "choices", "step"] ["top", "t"] (defScope s_choices) := ⟨rfl, rfl, rfl, by decide +kernel, rfl, by decide +kernel, by decide +kernel⟩
/-- all choices of t of 1 to top -/
def chs (top t : Nat) : List (List Nat) := choices t (List.range' 1 top)
theorem bin_le : ∀ (n k : Nat), bin n k ≤ 2 ^ n
  | n, 0 => by rw [bin_zero_right]; exact Nat.one_le_two_pow
  | 0, k + 1 => by simp [bin]
  | n + 1, k + 1 => by
    show bin n k + bin n (k + 1) ≤ 2 ^ (n + 1)
    have := bin_le n k
    have := bin_le n (k + 1)
    rw [Nat.pow_succ]; omega
theorem chs_zero (top : Nat) : chs top 0 = [[]] := by unfold chs; cases List.range' 1 top <;> rfl
theorem chs_length (top t : Nat) : (chs top t).length = bin top t := by
  unfold chs; rw [choices_length, List.length_range']
theorem bin20 {n k : Nat} (h : n ≤ 20) : bin n k < sizeLine := by
  have h1 := bin_le n k
  have h2 : (2 : Nat) ^ n ≤ 2 ^ 20 := Nat.pow_le_pow_right (by decide) h
  exact Nat.lt_of_le_of_lt (Nat.le_trans h1 h2) (by decide)
theorem chs_longer (top k : Nat) : longer top (chs top k) = chs top (k + 1) := (choices_longer top k 0 top (by omega)).symm
theorem choices_mem : ∀ (k : Nat) (l c : List Nat), c ∈ choices k l → c.length = k ∧ ∀ x ∈ c, x ∈ l
  | 0, l, c, h => by
    have : c = [] := by cases l <;> simpa [choices] using h
    subst this; simp
  | k + 1, [], c, h => by simp [choices] at h
  | k + 1, x :: l, c, h => by
    simp only [choices, List.mem_append, List.mem_map] at h
    rcases h with ⟨d, hd, rfl⟩ | h
    · obtain ⟨h1, h2⟩ := choices_mem k l d hd
      refine ⟨by simp [h1], fun y hy => ?_⟩
      rcases List.mem_cons.mp hy with rfl | hy
      · simp
      · exact List.mem_cons_of_mem _ (h2 y hy)
    · obtain ⟨h1, h2⟩ := choices_mem (k + 1) l c h
      exact ⟨h1, fun y hy => List.mem_cons_of_mem _ (h2 y hy)⟩
theorem chs_mem {top k : Nat} {c : List Nat} (h : c ∈ chs top k) : c.length = k ∧ ∀ x ∈ c, 1 ≤ x ∧ x ≤ top := by
  obtain ⟨h1, h2⟩ := choices_mem _ _ _ h
  refine ⟨h1, fun x hx => ?_⟩
  have := h2 x hx
  rw [List.mem_range'_1] at this
  omega
theorem lastD_mem : ∀ (c : List Nat) (d : Nat), lastD c d = d ∨ lastD c d ∈ c
  | [], _ => .inl rfl
  | x :: l, d => by
    rcases lastD_mem l x with h | h
    · right
      show lastD l x ∈ x :: l
      rw [h]; simp
    · exact .inr (List.mem_cons_of_mem _ h)
def spChoices : Sp := fun vs H Q _ => ∃ (top t : Nat), vs = [vn top, vn t] ∧ top ≤ 20 ∧ t ≤ 4 ∧
  ∀ H' p bs, Same H H' → H' p = some (.lst (bs.map V.ref)) → Rows H' bs (chs top t) → Q (.ref p) H'
theorem ok_choices {f : Addr} {fd : FuncData} (F : Fun K "choices_of" "choices_of" s_choices f fd) (mr : mg "range" = none) (cl : Cl P w K mg base 1 "one_longer" ["choices", "top"] spLonger) : FnOk P w K mg base CX0 2 f fd ["top", "t"] spChoices := by
  refine F.ok sc_choices (fun vs H Q E h => ?_) (fun cdv A outer s H vs Q E hr h => ?_)
  · obtain ⟨top, t, rfl, _⟩ := h
    rfl
  · obtain ⟨top, t, rfl, h20, h4, q⟩ := h
    refine ⟨_, pss_cons (ps_set (i := 2) sc_choices.nd rfl (.inl rfl) (pe_lst (pa_cons (pe_lst pa_nil) pa_nil)))
      (pss_cons (ps_for PassesOwn.never rfl (pi_range1 rfl mr (pa_cons (pv 1) pa_nil)) (pg_name (i := 3) sc_choices.nd rfl (.inl rfl))
        (pss_one (ps_set (i := 2) sc_choices.nd rfl (.inl rfl) (pe_cl cl hr (by decide) (by rfl) (pa_cons (pv 2) (pa_cons (pv 0) pa_nil))))))
      (pss_one (ps_ret (pv 2)))), ?_⟩
    refine ⟨Nat.zero_le _, fun o no => ⟨(by show 1 ≤ sizeLine; decide), fun o2 no2 => ?_⟩⟩
    have s1 : Same H (upd H o (.lst [])) := same_upd no
    have s2 : Same (upd H o (.lst [])) (upd (upd H o (.lst [])) o2 (.lst [.ref o])) := same_upd no2
    refine ⟨_, rfl, (t : Int), rfl, by omega, by omega, ?_⟩
    rw [show ((t : Int)).toNat = t by omega]
    refine for_range (lo := 0) (n := t) (fun i σ H' => ∃ v a bs, σ = [some (vn top), some (vn t), some (.ref a), v] ∧ Same H H' ∧ H' a = some (.lst (bs.map V.ref)) ∧ Rows H' bs (chs top i))
      ⟨none, o2, [o], rfl, s1.trans s2, upd_same, by rw [chs_zero]; exact ⟨s2 _ _ upd_same, trivial⟩⟩ ?_ ?_
    · rintro i σ H' hi ⟨v, a, bs, rfl, sm, ha, hB⟩
      refine ⟨_, rfl, _, rfl, a, bs, chs top i, top, rfl, ha, hB, ?_, fun c hc => ?_, by omega, fun H2 p cs s3 hp hC => ⟨_, p, cs, rfl, sm.trans s3, hp, ?_⟩⟩
      · rw [chs_longer, chs_length]; exact bin20 h20
      · obtain ⟨h1, h2⟩ := chs_mem hc
        refine ⟨by omega, ?_⟩
        rcases lastD_mem c 0 with h | h
        · omega
        · have := h2 _ h; omega
      · rw [← chs_longer]; exact hC
    · rintro σ H' ⟨v, a, bs, rfl, sm, ha, hB⟩
      exact ⟨_, rfl, q H' a bs sm ha hB⟩
abbrev s_evena : Stmt := topS 19
theorem sc_evena : FnScope ["top", "blocks", "t", "choices", "first", "choice", "count"] ["top", "blocks", "t"] (defScope s_evena) := ⟨rfl, rfl, rfl, by decide +kernel, rfl, by decide +kernel, by decide +kernel⟩
/-- what even answers -/
def evenW (bs : List Nat) (first : Nat) : Option (List Nat) → List Nat
  | none => [1, first]
  | some c => [0, first, cntM bs (maskOf c)] ++ c
def evenM (top : Nat) (bs : List Nat) (t : Nat) : List Nat :=
  evenW bs (cntM bs (maskOf ((chs top t).headD []))) ((chs top t).find? fun c => !decide (cntM bs (maskOf c) = cntM bs (maskOf ((chs top t).headD []))))
def spEvena (K : PySem.W.Frag) : Sp := fun vs H Q _ => ∃ (top t : Nat) (a : Addr) (bs : List Nat), vs = [vn top, .ref a, vn t] ∧ SqL K H a (bs.map vn) ∧ bs.length ≤ 20 ∧ top ≤ 20 ∧ t ≤ 4 ∧ t ≤ top ∧
  ∀ H' p, Same H H' → H p = none → H' p = some (.lst ((evenM top bs t).map vn)) → Q (.ref p) H'
theorem find_take {α : Type} {q : α → Bool} : ∀ {l : List α} {i : Nat} {x : α}, l[i]? = some x → q x = true → (∀ y ∈ l.take i, q y = false) → l.find? q = some x
  | [], i, x, h, _, _ => by simp at h
  | a :: l, 0, x, h, hq, _ => by
    have : a = x := by simpa using h
    subst this
    rw [List.find?_cons, hq]
  | a :: l, i + 1, x, h, hq, hb => by
    rw [List.find?_cons, hb a (by simp)]
    exact find_take (i := i) (by simpa using h) hq (fun y hy => hb y (by simp [hy]))
theorem ok_evena {f : Addr} {fd : FuncData} (F : Fun K "even_answer" "even_answer" s_evena f fd) (cc : Cl P w K mg base 2 "choices_of" ["top", "t"] spChoices) (cn : Cl P w K mg base 1 "count_together" ["blocks", "mask"] (spCount K))
    (cm : Cl P w K mg base 1 "mask_of" ["points"] (spMask K)) : FnOk P w K mg base CX0 3 f fd ["top", "blocks", "t"] (spEvena K) := by
  refine F.ok sc_evena (fun vs H Q E h => ?_) (fun cdv A outer s H vs Q E hr h => ?_)
  · obtain ⟨top, t, a, bs, rfl, _⟩ := h
    rfl
  · obtain ⟨top, t, a, bs, rfl, hS, hl, h20, h4, htt, q⟩ := h
    refine ⟨_, pss_cons (ps_set (i := 3) sc_evena.nd rfl (.inl rfl) (pe_cl cc hr (by decide) (by rfl) (pa_cons (pv 0) (pa_cons (pv 2) pa_nil))))
      (pss_cons (ps_set (i := 4) sc_evena.nd rfl (.inl rfl) (pe_cl cn hr (by decide) (by rfl) (pa_cons (pv 1) (pa_cons (pe_cl cm hr (by decide) (by rfl) (pa_cons (pe_ix ix_list (pv 3) pe_int (fun _ _ => rfl)) pa_nil)) pa_nil))))
      (pss_cons (ps_for PassesOwn.never rfl (pi_list (pv 3)) (pg_name (i := 5) sc_evena.nd rfl (.inl rfl))
        (pss_cons (ps_set (i := 6) sc_evena.nd rfl (.inl rfl) (pe_cl cn hr (by decide) (by rfl) (pa_cons (pv 1) (pa_cons (pe_cl cm hr (by decide) (by rfl) (pa_cons (pv 5) pa_nil)) pa_nil))))
        (pss_one (ps_if (pt_cmpR op_neN (pv 6) (pv 4) (nomark _)) (pss_one (ps_ret (pe_op op_cat (pe_lst (pa_cons pe_int (pa_cons (pv 4) (pa_cons (pv 6) pa_nil)))) (pv 5)))) pss_nil))))
      (pss_one (ps_ret (pe_lst (pa_cons pe_int (pa_cons (pv 4) pa_nil))))))), ?_⟩
    refine ⟨_, rfl, _, rfl, top, t, rfl, h20, h4, fun H1 ac as s1 hac hR => ?_⟩
    have hlen := hR.length
    have hne : 0 < (chs top t).length := by rw [chs_length]; exact bin_pos top t htt
    obtain ⟨c0, cr, hcs⟩ : ∃ c0 cr, chs top t = c0 :: cr := by
      cases hh : chs top t with
      | nil => rw [hh] at hne; cases hne
      | cons x y => exact ⟨x, y, rfl⟩
    obtain ⟨a0, ar, has⟩ : ∃ a0 ar, as = a0 :: ar := by
      cases as with
      | nil => rw [hcs] at hlen; cases hlen
      | cons x y => exact ⟨x, y, rfl⟩
    subst has
    rw [hcs] at hR
    have hmem : ∀ {i : Nat} {c : List Nat}, (c0 :: cr)[i]? = some c → c.length = t ∧ ∀ x ∈ c, x ≤ 1000 := by
      intro i c hc
      have : c ∈ chs top t := by rw [hcs]; exact List.mem_of_getElem? hc
      obtain ⟨h1, h2⟩ := chs_mem this
      exact ⟨h1, fun x hx => by have := h2 x hx; omega⟩
    refine ⟨_, rfl, _, rfl, ac, _, 0, _, rfl, rfl, .inl (.inl hac), atI_nat (j := 0) rfl, a0, c0, rfl, .inl (.inl hR.1), (hmem (i := 0) rfl).2, a, bs, maskOf c0, rfl, s1.seq hS, by omega, fun H2 s2 => ?_⟩
    have hh : (chs top t).headD [] = c0 := by rw [hcs]; rfl
    refine ⟨_, rfl, ac, rfl, ⟨_, .inl (.inl (s2 _ _ hac))⟩, for_list (K := K) (a := ac) (xs := (a0 :: ar).map V.ref)
      (fun i σ H' => ∃ v5 v6, σ = [some (vn top), some (.ref a), some (vn t), some (.ref ac), some (vn (cntM bs (maskOf c0))), v5, v6] ∧ Same H1 H' ∧ ∀ c ∈ (c0 :: cr).take i, (!decide (cntM bs (maskOf c) = cntM bs (maskOf c0))) = false)
      ⟨none, none, rfl, s2, by simp⟩ (fun i σ H' _ ⟨_, _, _, s3, _⟩ => .inl (.inl (s3 _ _ hac))) ?_ ?_⟩
    · rintro i y σ H' hi ⟨v5, v6, rfl, sm, hb⟩
      obtain ⟨r, hr1, rfl⟩ := get_ref hi
      obtain ⟨c, hc1, hc2⟩ := hR.get hr1
      have hcm := hmem hc1
      refine ⟨_, rfl, _, rfl, r, c, rfl, .inl (.inl (sm _ _ hc2)), hcm.2, a, bs, maskOf c, rfl, sm.seq (s1.seq hS), by omega, fun H3 s3 => ?_⟩
      refine ⟨_, rfl, _, rfl, cntM bs (maskOf c), cntM bs (maskOf c0), rfl, rfl, _, rfl, ite2 (fun d => ?_) (fun d => ?_)⟩
      · refine ⟨_, rfl, _, rfl, (by show 3 ≤ sizeLine; decide), fun p np => ⟨_, rfl, p, r, _, c.map vn, rfl, rfl, upd_same, ?_, ?_, fun p2 np2 => ?_⟩⟩
        · rw [upd_ne (ne_of_none (s3 _ _ (sm _ _ hc2)) np)]; exact s3 _ _ (sm _ _ hc2)
        · rw [List.length_map]
          exact Nat.le_of_lt (Nat.lt_of_le_of_lt (show 3 + c.length ≤ 1000 by omega) (by decide))
        · refine q _ p2 (s1.trans (sm.trans (s3.trans ((same_upd np).trans (same_upd np2))))) (s1.free (sm.free (s3.free ((same_upd np).free np2)))) ?_
          have fd := find_take hc1 d hb
          have : evenM top bs t = [0, cntM bs (maskOf c0), cntM bs (maskOf c)] ++ c := by
            unfold evenM
            rw [hh, hcs, fd]
            rfl
          rw [upd_same, this, List.map_append]
          rfl
      · refine ⟨some (.ref r), some (vn (cntM bs (maskOf c))), rfl, sm.trans s3, fun e he => ?_⟩
        rw [take_more hc1] at he
        rcases List.mem_append.mp he with he | he
        · exact hb e he
        · have : e = c := by simpa using he
          subst this
          simpa using d
    · rintro σ H' ⟨v5, v6, rfl, sm, hb⟩
      refine ⟨_, rfl, (by show 2 ≤ sizeLine; decide), fun p np => ?_⟩
      refine q _ p (s1.trans (sm.trans (same_upd np))) (s1.free (sm.free np)) ?_
      rw [List.length_map, hR.length, List.take_length] at hb
      have : evenM top bs t = [1, cntM bs (maskOf c0)] := by
        unfold evenM
        rw [hh, hcs, List.find?_eq_none.mpr (fun c hc => by simpa using hb c hc)]
        rfl
      rw [upd_same, this]
      rfl
end
end Eb

set_option Elab.async false
set_option maxRecDepth 100000
set_option maxHeartbeats 2000000
set_option linter.all false
namespace Eb
open PySem PySem.Spec PyProof.Rows L2
theorem ite_false_go {A B : Prop} (h : B) : if false = true then A else B := by
  rw [if_neg Bool.false_ne_true]
  exact h
section
variable {P : Program} {w : World} {K : PySem.W.Frag} {mg : Str → Option Value} {base : Heap}
abbrev s_ways : Stmt := topS 20
theorem sc_ways : FnScope ["count", "t", "product", "step"] ["count", "t"] (defScope s_ways) := ⟨rfl, rfl, rfl, by decide +kernel, rfl, by decide +kernel, by decide +kernel⟩
def spWays : Sp := fun vs H Q _ => ∃ (n t : Nat), vs = [vn n, vn t] ∧ n ≤ 20 ∧ t ≤ 1000 ∧ Q (vn (bin n t)) H
theorem bin64 {n k : Nat} (h : n ≤ 20) : bin n k ≤ 1048576 := by
  have h1 := bin_le n k
  have h2 : (2 : Nat) ^ n ≤ 2 ^ 20 := Nat.pow_le_pow_right (by decide) h
  exact Nat.le_trans h1 h2
theorem ok_ways {f : Addr} {fd : FuncData} (F : Fun K "ways" "ways" s_ways f fd) (mr : mg "range" = none) : FnOk P w K mg base CX0 1 f fd ["count", "t"] spWays := by
  refine F.ok sc_ways (fun vs H Q E h => ?_) (fun cdv A outer s H vs Q E hr h => ?_)
  · obtain ⟨n, t, rfl, _⟩ := h
    rfl
  · obtain ⟨n, t, rfl, h20, ht, q⟩ := h
    refine ⟨_, pss_cons (ps_set (i := 2) sc_ways.nd rfl (.inl rfl) pe_int)
      (pss_cons (ps_for PassesOwn.never rfl (pi_range1 rfl mr (pa_cons (pv 1) pa_nil)) (pg_name (i := 3) sc_ways.nd rfl (.inl rfl))
        (pss_one (ps_set (i := 2) sc_ways.nd rfl (.inl rfl) (pe_op op_fdiv (pe_op op_mul (pv 2) (pe_op op_sub (pv 0) (pv 3))) (pe_op op_add (pv 3) pe_int)))))
      (pss_one (ps_ret (pv 2)))), ?_⟩
    refine ⟨_, rfl, (t : Int), rfl, by omega, by omega, ?_⟩
    rw [show ((t : Int)).toNat = t by omega]
    refine for_range (lo := 0) (n := t) (fun i σ H' => ∃ v, σ = [some (vn n), some (vn t), some (vn (bin n i)), v] ∧ H' = H)
      ⟨none, by rw [bin_zero_right]; rfl, rfl⟩ ?_ ?_
    · rintro i σ H' hi ⟨v, rfl, rfl⟩
      have hb := bin64 (k := i) h20
      refine ⟨_, rfl, _, rfl, _, rfl, (n : Int), (0 : Int) + (i : Int), rfl, rfl, _, _, rfl, rfl, .inl ⟨by omega, by omega⟩, _, rfl, (0 : Int) + (i : Int), 1, rfl, rfl, _, _, rfl, rfl, ⟨by omega, by omega⟩, some (.int ((0 : Int) + (i : Int))), ?_, rfl⟩
      have e := ways_step n i
      show [some (vn n), some (vn t), some (V.int (((bin n i : Int) * ((n : Int) - ((0 : Int) + (i : Int)))) / ((0 : Int) + (i : Int) + 1))), some (.int ((0 : Int) + (i : Int)))] = _
      rw [show (0 : Int) + (i : Int) = (i : Int) by omega, e]
    · rintro σ H' ⟨v, rfl, rfl⟩
      exact ⟨_, rfl, q⟩
abbrev s_iseven : Stmt := topS 21
theorem sc_iseven : FnScope ["top", "sizes", "commons", "t", "total", "squares", "size", "common"] ["top", "sizes", "commons", "t"] (defScope s_iseven) := ⟨rfl, rfl, rfl, by decide +kernel, rfl, by decide +kernel, by decide +kernel⟩
def isEvenM (top : Nat) (sizes coms : List Nat) (t : Nat) : Bool :=
  decide (bin top t * ((sizes.map fun z => bin z t).sum + 2 * (coms.map fun z => bin z t).sum) = (sizes.map fun z => bin z t).sum * (sizes.map fun z => bin z t).sum)
def spIsEven (K : PySem.W.Frag) : Sp := fun vs H Q _ => ∃ (top t : Nat) (a b : Addr) (sizes coms : List Nat), vs = [vn top, .ref a, .ref b, vn t] ∧ SqL K H a (sizes.map vn) ∧ SqL K H b (coms.map vn) ∧
  (∀ z ∈ sizes, z ≤ 20) ∧ (∀ z ∈ coms, z ≤ 20) ∧ sizes.length ≤ 1000 ∧ coms.length ≤ 1000 ∧ top ≤ 20 ∧ t ≤ 1000 ∧ ∀ H', Same H H' → Q (.bl (isEvenM top sizes coms t)) H'
theorem sum_le {l : List Nat} {m : Nat} : (∀ z ∈ l, z ≤ m) → l.sum ≤ l.length * m := by
  induction l with
  | nil => simp
  | cons x l ih =>
    intro h
    rw [List.sum_cons, List.length_cons, Nat.add_mul]
    have := ih fun z hz => h z (by simp [hz])
    have := h x (by simp)
    omega
theorem cast_map (l : List Nat) : (l.map vn) = (l.map fun (n : Nat) => (n : Int)).map V.int := by rw [List.map_map]; rfl
theorem ok_iseven {f : Addr} {fd : FuncData} (F : Fun K "is_even" "is_even" s_iseven f fd) (ms : mg "sum" = none) (cw : Cl P w K mg base 1 "ways" ["count", "t"] spWays) : FnOk P w K mg base CX0 2 f fd ["top", "sizes", "commons", "t"] (spIsEven K) := by
  refine F.ok sc_iseven (fun vs H Q E h => ?_) (fun cdv A outer s H vs Q E hr h => ?_)
  · obtain ⟨top, t, a, b, sizes, coms, rfl, _⟩ := h
    rfl
  · obtain ⟨top, t, a, b, sizes, coms, rfl, hA, hB, zA, zB, lA, lB, h20, ht, q⟩ := h
    refine ⟨_, pss_cons (ps_set (i := 4) sc_iseven.nd rfl (.inl rfl) (pe_callB (cr_sum rfl) (by rfl) ms (by decide +kernel) (pa_cons
        (pe_lc (own := [("size", 6)]) (g := gName 6) (tt := tYes) rfl sc_iseven.nd (pi_list (pv 1)) (blkOk_by (own := [("size", 6)]) (N := ["top", "sizes", "commons", "t", "total", "squares", "size", "common"]) (sc := defScope s_iseven) (by decide +kernel))
          (fun _ _ _ _ _ => pg_name (i := 6) sc_iseven.nd rfl (Or.inl rfl)) (fun _ _ _ _ _ => pts_nil) (fun _ _ _ _ _ => pe_cl cw hr (by decide) (by rfl) (pa_cons (pv 6) (pa_cons (pv 3) pa_nil)))) pa_nil)))
      (pss_cons (ps_set (i := 5) sc_iseven.nd rfl (.inl rfl) (pe_op op_addN (pv 4) (pe_op op_mulN pe_int (pe_callB (cr_sum rfl) (by rfl) ms (by decide +kernel) (pa_cons
        (pe_lc (own := [("common", 7)]) (g := gName 7) (tt := tYes) rfl sc_iseven.nd (pi_list (pv 2)) (blkOk_by (own := [("common", 7)]) (N := ["top", "sizes", "commons", "t", "total", "squares", "size", "common"]) (sc := defScope s_iseven) (by decide +kernel))
          (fun _ _ _ _ _ => pg_name (i := 7) sc_iseven.nd rfl (Or.inl rfl)) (fun _ _ _ _ _ => pts_nil) (fun _ _ _ _ _ => pe_cl cw hr (by decide) (by rfl) (pa_cons (pv 7) (pa_cons (pv 3) pa_nil)))) pa_nil)))))
      (pss_one (ps_ret (pe_cmpR op_eqN (pe_op op_mulN (pe_cl cw hr (by decide) (by rfl) (pa_cons (pv 0) (pa_cons (pv 3) pa_nil))) (pv 5)) (pe_op op_mulN (pv 4) (pv 4)) (nomark _))))), ?_⟩
    refine ⟨_, rfl, a, rfl, ⟨_, hA⟩, fun D nD => lc_list (K := K) (a := a) (xs := sizes.map vn)
      (fun i H' => Same H H' ∧ H' D = some (.lst ((((sizes.take i).map fun z => bin z t)).map vn))) ⟨same_upd nD, upd_same⟩ (fun i H' _ ⟨s, _⟩ => s.seq hA) ?_ ?_⟩
    · rintro i x H' hi ⟨sm, hD⟩
      obtain ⟨n, hn, rfl⟩ := get_map hi
      refine ⟨rfl, _, rfl, _, rfl, n, t, rfl, zA n (List.mem_of_getElem? hn), ht, _, hD, ?_, ?_, ?_⟩
      · rw [List.length_map, List.length_map, List.length_take]
        exact small1000 (by omega)
      · intro b o e
        rw [upd_ne (ne_of_none e nD)]; exact sm _ _ e
      · rw [upd_same, take_more hn, List.map_append, List.map_append]; rfl
    · rintro H1 ⟨s1, hD⟩
      rw [List.length_map, List.take_length] at hD
      rw [cast_map] at hD
      refine ⟨D, _, rfl, .inl (.inl hD), ?_⟩
      rw [← cast_sum]
      refine ⟨_, rfl, _, rfl, b, rfl, ⟨_, s1.seq hB⟩, fun D2 nD2 => lc_list (K := K) (a := b) (xs := coms.map vn)
        (fun i H' => Same H1 H' ∧ H' D2 = some (.lst ((((coms.take i).map fun z => bin z t)).map vn))) ⟨same_upd nD2, upd_same⟩ (fun i H' _ ⟨s, _⟩ => s.seq (s1.seq hB)) ?_ ?_⟩
      · rintro i x H' hi ⟨sm, hD2⟩
        obtain ⟨n, hn, rfl⟩ := get_map hi
        refine ⟨rfl, _, rfl, _, rfl, n, t, rfl, zB n (List.mem_of_getElem? hn), ht, _, hD2, ?_, ?_, ?_⟩
        · rw [List.length_map, List.length_map, List.length_take]
          exact small1000 (by omega)
        · intro b o e
          rw [upd_ne (ne_of_none e nD2)]; exact sm _ _ e
        · rw [upd_same, take_more hn, List.map_append, List.map_append]; rfl
      · rintro H2 ⟨s2, hD2⟩
        rw [List.length_map, List.take_length] at hD2
        rw [cast_map] at hD2
        refine ⟨D2, _, rfl, .inl (.inl hD2), ?_⟩
        rw [← cast_sum]
        have b1 : (sizes.map fun z => bin z t).sum ≤ 1000 * 1048576 := by
          have := sum_le (l := sizes.map fun z => bin z t) (m := 1048576) (fun z hz => by
            obtain ⟨y, hy, rfl⟩ := List.mem_map.mp hz
            exact bin64 (zA y hy))
          rw [List.length_map] at this
          exact Nat.le_trans this (Nat.mul_le_mul_right _ lA)
        have b2 := bin64 (k := t) h20
        refine ⟨2, _, rfl, rfl, by decide, _, _, rfl, rfl, ?_⟩
        refine ⟨_, rfl, _, rfl, top, t, rfl, h20, ht, _, rfl, _, _, rfl, rfl, by omega, _, rfl, _, rfl, _, _, rfl, rfl, by omega, _, _, rfl, rfl, ?_⟩
        exact q H2 (s1.trans s2)

abbrev s_great : Stmt := topS 22
theorem sc_great : FnScope ["top", "blocks", "sizes", "commons", "t", "block"] ["top", "blocks"] (defScope s_great) := ⟨rfl, rfl, rfl, by decide +kernel, rfl, by decide +kernel, by decide +kernel⟩
def spGreat (K : PySem.W.Frag) : Sp := fun vs H Q _ => ∃ (top : Nat) (a : Addr) (b0 : Nat) (br : List Nat), vs = [vn top, .ref a] ∧ SqL K H a ((b0 :: br).map vn) ∧ (b0 :: br).length ≤ 20 ∧ (∀ b ∈ b0 :: br, pc b ≤ 20) ∧ top ≤ 20 ∧
  ∀ H' t0, Same H H' → t0 ≤ pc b0 → (∀ t, 1 ≤ t → t ≤ t0 → isEvenM top ((b0 :: br).map pc) (commons (b0 :: br)) t = true) → (t0 = pc b0 ∨ isEvenM top ((b0 :: br).map pc) (commons (b0 :: br)) (t0 + 1) = false) → Q (vn t0) H'
theorem pc_and_le : ∀ (a b : Nat), pc (a &&& b) ≤ pc a := by
  intro a
  induction a using Nat.strongRecOn with
  | _ a ih =>
    intro b
    by_cases h : a = 0
    · subst h; simp [pc_zero]
    · rw [pc_step (a &&& b), pc_step a, Nat.and_div_two]
      have := ih (a / 2) (by omega) (b / 2)
      have : (a &&& b) % 2 ≤ a % 2 := by
        rcases Nat.mod_two_eq_zero_or_one a with e | e
        · have : (a &&& b).testBit 0 = false := by rw [Nat.testBit_and, Nat.testBit_zero, e]; simp
          rw [Nat.testBit_zero] at this
          have := of_decide_eq_false this
          omega
        · omega
      omega
theorem commons_le {bs : List Nat} {m : Nat} (h : ∀ b ∈ bs, pc b ≤ m) : ∀ z ∈ commons bs, z ≤ m := by
  intro z hz
  rw [commons_pairs] at hz
  obtain ⟨y, hy, rfl⟩ := List.mem_map.mp hz
  have hm : ∀ (B : List Nat), y ∈ pairs B → y.1 ∈ B := by
    intro B
    induction B with
    | nil => simp [pairs]
    | cons x B ih =>
      intro h
      simp only [pairs, List.mem_append, List.mem_map] at h
      rcases h with ⟨y, _, rfl⟩ | h
      · simp
      · exact List.mem_cons_of_mem _ (ih h)
  exact Nat.le_trans (pc_and_le _ _) (h _ (hm _ hy))
theorem ok_great {f : Addr} {fd : FuncData} (F : Fun K "greatest_even" "greatest_even" s_great f fd) (cs : Cl P w K mg base 1 "size_of" ["mask"] spSize) (cc : Cl P w K mg base 2 "common_sizes" ["blocks"] (spCommon K))
    (ci : Cl P w K mg base 2 "is_even" ["top", "sizes", "commons", "t"] (spIsEven K)) : FnOk P w K mg base CX0 3 f fd ["top", "blocks"] (spGreat K) := by
  refine F.ok sc_great (fun vs H Q E h => ?_) (fun cdv A outer s H vs Q E hr h => ?_)
  · obtain ⟨top, a, b0, br, rfl, _⟩ := h
    rfl
  · obtain ⟨top, a, b0, br, rfl, hA, hl, hb, h20, q⟩ := h
    refine ⟨_, pss_cons (ps_setLc (i := 2) (own := [("block", 5)]) (g := gName 5) (tt := tYes) rfl sc_great.nd rfl rfl (sw_true rfl rfl rfl (by decide +kernel)) (pi_list (pv 1)) (blkOk_by (own := [("block", 5)]) (N := ["top", "blocks", "sizes", "commons", "t", "block"]) (sc := defScope s_great) (by decide +kernel))
          (fun _ _ _ _ _ => pg_name (i := 5) sc_great.nd rfl (Or.inl rfl)) (fun _ _ _ _ _ => pts_nil) (fun _ _ _ _ _ => pe_cl cs hr (by decide) (by rfl) (pa_cons (pv 5) pa_nil)))
      (pss_cons (ps_set (i := 3) sc_great.nd rfl (.inl rfl) (pe_cl cc hr (by decide) (by rfl) (pa_cons (pv 1) pa_nil)))
      (pss_cons (ps_set (i := 4) sc_great.nd rfl (.inl rfl) pe_int)
      (pss_cons (ps_while PassesOwn.never (pw_and (pt_cmpR op_ltN (pv 4) (pe_ix ix_list (pv 2) pe_int (fun _ _ => rfl)) (nomark _)) (pw_and1 (pt_val (pe_cl ci hr (by decide) (by rfl) (pa_cons (pv 0) (pa_cons (pv 2) (pa_cons (pv 3) (pa_cons (pe_op op_addN (pv 4) pe_int) pa_nil)))))))).pt
        (pss_one (ps_set (i := 4) sc_great.nd rfl (.inl rfl) (pe_op op_addN (pv 4) pe_int))))
      (pss_one (ps_ret (pv 4)))))), ?_⟩
    refine ⟨_, rfl, a, rfl, ⟨_, hA⟩, fun D nD => lc_list (K := K) (a := a) (xs := (b0 :: br).map vn)
      (fun i H' => Same H H' ∧ H' D = some (.lst ((((b0 :: br).take i).map pc).map vn))) ⟨same_upd nD, upd_same⟩ (fun i H' _ ⟨s, _⟩ => s.seq hA) ?_ ?_⟩
    · rintro i x H' hi ⟨sm, hD⟩
      obtain ⟨n, hn, rfl⟩ := get_map hi
      refine ⟨rfl, _, rfl, n, rfl, _, hD, ?_, ?_, ?_⟩
      · rw [List.length_map, List.length_map, List.length_take]
        exact small1000 (by omega)
      · intro b o e
        rw [upd_ne (ne_of_none e nD)]; exact sm _ _ e
      · rw [upd_same, take_more hn, List.map_append, List.map_append]; rfl
    · rintro H1 ⟨s1, hD⟩
      rw [List.length_map, List.take_length] at hD
      refine ⟨_, rfl, a, b0 :: br, rfl, s1.seq hA, hl, fun H2 c s2 nc hc => ?_⟩
      have hsz : ∀ z ∈ (b0 :: br).map pc, z ≤ 20 := fun z hz => by
        obtain ⟨y, hy, rfl⟩ := List.mem_map.mp hz
        exact hb y hy
      refine ⟨fun m σ H' => ∃ t, σ = [some (vn top), some (.ref a), some (.ref D), some (.ref c), some (vn t), none] ∧ m + t = pc b0 ∧ Same H2 H' ∧ (∀ u, 1 ≤ u → u ≤ t → isEvenM top ((b0 :: br).map pc) (commons (b0 :: br)) u = true),
        ⟨pc b0, 0, rfl, by omega, Same.refl _, fun u h1 h2 => by omega⟩, ?_⟩
      rintro m σ H' ⟨t, rfl, hm, sm, hall⟩
      have hD' := sm _ _ (s2 _ _ hD)
      have hc' := sm _ _ hc
      have hb0 := hb b0 (by simp)
      refine ⟨_, rfl, _, rfl, D, _, 0, _, rfl, rfl, .inl (.inl hD'), atI_nat (j := 0) rfl, t, pc b0, rfl, rfl, _, rfl, ite2 (fun d => ?_) (fun d => ?_)⟩
      · have hlt : t < pc b0 := of_decide_eq_true d
        have hcl : (commons (b0 :: br)).length ≤ 400 := by
          have h := commons_length (b0 :: br)
          have : (b0 :: br).length * (b0 :: br).length ≤ 20 * 20 := Nat.mul_le_mul hl hl
          omega
        refine ⟨_, rfl, _, rfl, _, rfl, _, rfl, t, 1, rfl, rfl, top, t + 1, D, c, _, _, rfl, .inl (.inl hD'), .inl (.inl hc'), hsz, commons_le hb, by rw [List.length_map]; omega, by omega, h20, by omega, fun H3 s3 => ⟨_, rfl, ite2 (fun e => ?_) (fun e => ?_)⟩⟩
        · refine ⟨fun σ H' => ∃ t, σ = [some (vn top), some (.ref a), some (.ref D), some (.ref c), some (vn t), none] ∧ (m - 1) + t = pc b0 ∧ Same H2 H' ∧ (∀ u, 1 ≤ u → u ≤ t → isEvenM top ((b0 :: br).map pc) (commons (b0 :: br)) u = true), fun σ' H' h => ⟨m - 1, by omega, h⟩, ?_⟩
          refine ⟨_, rfl, t, 1, rfl, rfl, t + 1, rfl, by omega, sm.trans s3, fun u h1 h2 => ?_⟩
          by_cases h3 : u = t + 1
          · subst h3; exact e
          · exact hall u h1 (by omega)
        · refine ⟨_, rfl, q H3 t (s1.trans (s2.trans (sm.trans s3))) (by omega) hall (.inr ?_)⟩
          simpa using e
      · have hge : t = pc b0 := by
          have : ¬ t < pc b0 := fun z => d (decide_eq_true z)
          omega
        refine ite_false_go ?_
        exact ⟨_, rfl, q H' t (s1.trans (s2.trans sm)) (by omega) hall (.inl hge)⟩
end
end Eb

set_option Elab.async false
set_option maxRecDepth 100000
set_option maxHeartbeats 2000000
set_option linter.all false
namespace Eb
open PySem PySem.Spec PyProof.Rows L2
/-- xs[i](e, ..): of several defs -/
def tCallT (tf : TE) (S : Addr → Sp → Prop) (t : TA) : TE := fun σ H Q => tf σ H fun x H0 => ∃ f sp, x = .ref f ∧ S f sp ∧ t σ H0 fun vs H1 => sp vs H1 Q (fun _ _ _ => False)
section
variable {X : Cx} {k j : Nat} {p0 pos : Pos} {a b e : Expr} {es : List Expr} {t : TA} {tf : TE}
theorem arm_call_sub (a b : Expr) (p0 : Pos) (args : List Expr) (keywords : List Keyword) (pos : Pos) (env : Env) : eval (.Call (.Subscript a b p0) args keywords pos) env = (do
    callWith pos (← eval (.Subscript a b p0) env) [] (backTo pos (starEach args env)) (backToKw pos (keywordEach keywords env))) := rfl
theorem pe_callT {S : Addr → Sp → Prop} (A : ∀ f sp, S f sp → Held X.prog X.w X.K X.mg X.base k f sp) (hr : Room j X.A) (hk : k ≤ j) (hf : PE X (.Subscript a b p0) tf) (ha : PA X (e :: es) t)
    (he : starEach (e :: es) X.env = (false, eval e X.env) :: starEach es X.env := by rfl) (hpl : (backTo pos (starEach es X.env)).any (·.1) = false := by rfl) : PE X (.Call (.Subscript a b p0) (e :: es) [] pos) (tCallT tf S t) := by
  refine ⟨fun pins s σ H Q I h => ?_⟩
  rw [arm_call_sub]
  refine wpAny_bind (thn (hf.run pins s σ H _ I h) fun u s1 ⟨v, H1, I1, r1, q1⟩ => ?_)
  obtain ⟨f, sp, rfl, hS, ht⟩ := q1
  cases r1
  obtain ⟨fd, ps, F, hk', hb⟩ := (A f sp hS).ex
  refine PySem.W.callWith_K (h₀ := X.base) I.ok.mod.kin hk' (thn (ha.run pos pins s1 σ _ _ I1 ht) fun us s2 ⟨vs, H2, I2, r, q⟩ => ⟨I2.kIn, ?_⟩) he hpl
  exact run_fn (dvs := []) F (hr.mono hk) hb .nil (fun _ _ _ _ _ _ _ z => z.elim) I2 r (by rw [List.append_nil]; exact q)
end
end Eb

set_option Elab.async false
set_option maxRecDepth 100000
set_option linter.all false
/-! The specification by masks. -/
namespace Eb
open Dg01 (Plan choices points together counts even common odd rises isSet)
def masks (p : Plan) : List Nat := p.blocks.map maskOf
/-- what holds of every plan -/
structure Ok (p : Plan) : Prop where
  wf : Wf p
  lo : 1 ≤ p.many
  hi : p.many ≤ 20
  few : p.blocks.length ≤ 20
theorem masks_length (p : Plan) : (masks p).length = p.blocks.length := by unfold masks; rw [List.length_map]
theorem cnt_together (p : Plan) (s : List Nat) : cntM (masks p) (maskOf s) = together p s := by
  unfold cntM masks together
  rw [List.filter_map, List.length_map]
  congr 1
  apply List.filter_congr
  intro b _
  show decide (maskOf b &&& maskOf s = maskOf s) = _
  rw [Bool.eq_iff_iff, decide_eq_true_eq]
  exact mask_and_eq b s
theorem chs_points (p : Plan) (t : Nat) : chs p.many t = choices t (points p) := by unfold chs; rw [points_range]
theorem cnt_one (p : Plan) (x : Nat) : cntM (masks p) (maskOf [x]) = (Dg01.blocksWith p x).length := by
  rw [cnt_together]
  unfold together Dg01.blocksWith
  congr 1
  apply List.filter_congr
  intro b _
  simp
theorem ints_map (l : List Nat) : Dg01.ints l = l.map fun (n : Nat) => (n : Int) := rfl
/-- even's answer -/
theorem even_is (p : Plan) (t : Nat) (ht : t ≤ p.many) :
    (match Dg01.odd p t with
      | none => match Dg01.even p t with
        | none => [-3]
        | some n => Dg01.ints [1, n]
      | some s => Dg01.ints ([0, (counts p t).headD 0, Dg01.together p s] ++ s)) = Dg01.ints (evenM p.many (masks p) t) := by
  have hl := counts_length p t
  have hpos := bin_pos p.many t ht
  have hcs : counts p t = (chs p.many t).map (together p) := by unfold counts; rw [chs_points]
  cases hc : chs p.many t with
  | nil => rw [hcs, hc] at hl; simp at hl; omega
  | cons c0 cr =>
    rw [hc] at hcs
    have h0 : cntM (masks p) (maskOf c0) = together p c0 := cnt_together p c0
    have hf : (fun c => !decide (cntM (masks p) (maskOf c) = cntM (masks p) (maskOf c0))) = fun s => together p s != together p c0 := by
      funext c
      rw [cnt_together, cnt_together]
      rw [Bool.eq_iff_iff]; simp
    have ho : odd p t = (c0 :: cr).find? (fun s => together p s != together p c0) := by
      unfold odd
      rw [hcs, ← chs_points, hc]
      rfl
    unfold evenM
    rw [hc]
    show _ = Dg01.ints (evenW (masks p) (cntM (masks p) (maskOf c0)) ((c0 :: cr).find? fun c => !decide (cntM (masks p) (maskOf c) = cntM (masks p) (maskOf c0))))
    rw [hf, ← ho, h0]
    cases h : odd p t with
    | some s =>
      show Dg01.ints ([0, (counts p t).headD 0, together p s] ++ s) = Dg01.ints ([0, together p c0, cntM (masks p) (maskOf s)] ++ s)
      rw [cnt_together, hcs]
      rfl
    | none =>
      rw [ho, List.find?_eq_none] at h
      have he : even p t = some (together p c0) := by
        unfold even
        rw [hcs]
        show (if (cr.map (together p)).all (fun m => m == together p c0) = true then some (together p c0) else none) = _
        rw [if_pos]
        rw [List.all_eq_true]
        intro m hm
        obtain ⟨s, hs, rfl⟩ := List.mem_map.mp hm
        have := h s (by simp [hs])
        simpa using this
      rw [he]
      rfl
/-- strength -/
theorem sizes_len {p : Plan} (W : Wf p) : (masks p).map pc = p.blocks.map List.length := by
  unfold masks
  rw [List.map_map]
  apply List.map_congr_left
  intro b hb
  exact pc_mask b (W.norm b hb).nodup
theorem mem_pairs {β : Type} {z : β × β} : ∀ {B : List β}, z ∈ pairs B → z.1 ∈ B ∧ z.2 ∈ B
  | [], h => by simp [pairs] at h
  | x :: B, h => by
    simp only [pairs, List.mem_append, List.mem_map] at h
    rcases h with ⟨y, hy, rfl⟩ | h
    · simp [hy]
    · have := mem_pairs h
      exact ⟨List.mem_cons_of_mem _ this.1, List.mem_cons_of_mem _ this.2⟩
theorem pairs_map {α β : Type} (f : α → β) : ∀ (l : List α), pairs (l.map f) = (pairs l).map fun z => (f z.1, f z.2)
  | [] => rfl
  | x :: l => by
    simp only [List.map_cons, pairs, List.map_append, List.map_map, pairs_map f l]
    rfl
theorem commons_len {p : Plan} (W : Wf p) : commons (masks p) = (pairs p.blocks).map fun z => (common z.1 z.2).length := by
  rw [commons_pairs]
  unfold masks
  rw [pairs_map, List.map_map]
  apply List.map_congr_left
  intro z hz
  exact pc_common _ _ (W.norm _ (mem_pairs hz).1).nodup
theorem isEven_even {p : Plan} (W : Wf p) (t : Nat) (ht : t ≤ p.many) : isEvenM p.many ((masks p).map pc) (commons (masks p)) t = (even p t).isSome := by
  rw [Bool.eq_iff_iff, even_iff W t ht]
  unfold isEvenM
  rw [decide_eq_true_eq, sizes_len W, commons_len W, List.map_map, List.map_map]
  exact Iff.rfl
theorem even_zero (p : Plan) : (even p 0).isSome = true := by
  have : counts p 0 = [together p []] := by
    unfold counts
    cases points p <;> rfl
  unfold even
  rw [this]
  rfl
theorem len_le {p : Plan} (W : Wf p) {b : List Nat} (hb : b ∈ p.blocks) : b.length ≤ p.many := by
  have h := W.norm b hb
  have : b.length = ((points p).filter b.contains).length := congrArg List.length h
  rw [this, ← points_length p]
  exact List.length_filter_le _ _
theorem strength_is {p : Plan} (W : Wf p) {b0 : List Nat} {br : List (List Nat)} (hb : p.blocks = b0 :: br) (hs : Dg01.size p = some b0.length) {t0 : Nat} (h1 : t0 ≤ b0.length)
    (h2 : ∀ t, 1 ≤ t → t ≤ t0 → isEvenM p.many ((masks p).map pc) (commons (masks p)) t = true) (h3 : t0 = b0.length ∨ isEvenM p.many ((masks p).map pc) (commons (masks p)) (t0 + 1) = false) : Dg01.strength p = t0 := by
  have hl : b0.length ≤ p.many := len_le W (by rw [hb]; simp)
  unfold Dg01.strength
  rw [hs]
  show ((List.range (b0.length + 1)).takeWhile fun t => (even p t).isSome).length - 1 = t0
  rw [take_range (t0 := t0)]
  · omega
  · intro t ht
    by_cases h0 : t = 0
    · subst h0; exact even_zero p
    · rw [← isEven_even W t (by omega)]
      exact h2 t (by omega) ht
  · exact h1
  · by_cases h4 : t0 = b0.length
    · exact .inl h4
    · right
      rw [← isEven_even W (t0 + 1) (by omega)]
      rcases h3 with h3 | h3
      · exact absurd h3 h4
      · exact h3
/-- meets -/
theorem meets_is {p : Plan} (W : Wf p) : ((List.range p.blocks.length).flatMap fun i => ((List.range p.blocks.length).filter fun j => decide (i < j)).map fun j => (common (p.blocks.getD i []) (p.blocks.getD j [])).length) = commons (masks p) := by
  rw [meets_pairs (fun a b => (common a b).length), commons_len W]
/-! what each call makes of a good plan is a good plan: the first calls -/
theorem ok_init0 : Ok Dg01.init := ⟨⟨fun b hb => by cases hb⟩, by decide, by decide, by decide⟩
theorem Ok.points {v : Nat} (h1 : 1 ≤ v) (h2 : v ≤ 16) : Ok ⟨v, []⟩ := ⟨⟨fun b hb => by cases hb⟩, h1, by show v ≤ 20; omega, by show 0 ≤ 20; omega⟩
theorem Ok.block {p : Plan} (h : Ok p) {l : List Nat} (hs : isSet p l = true) (hf : p.blocks.length < 20) : Ok { p with blocks := p.blocks ++ [l] } := by
  refine ⟨⟨fun b hb => ?_⟩, h.lo, h.hi, ?_⟩
  · rcases List.mem_append.mp hb with hb | hb
    · exact h.wf.norm b hb
    · have : b = l := by simpa using hb
      subst this
      exact (norm_iff p b).mpr hs
  · show (p.blocks ++ [l]).length ≤ 20
    rw [List.length_append]; simp; omega
theorem Ok.gone {p : Plan} (h : Ok p) (n : Nat) : Ok { p with blocks := p.blocks.take n ++ p.blocks.drop (n + 1) } := by
  refine ⟨⟨fun b hb => ?_⟩, h.lo, h.hi, ?_⟩
  · apply h.wf.norm b
    rcases List.mem_append.mp hb with hb | hb
    · exact List.mem_of_mem_take hb
    · exact List.mem_of_mem_drop hb
  · show (p.blocks.take n ++ p.blocks.drop (n + 1)).length ≤ 20
    have := h.few
    rw [List.length_append, List.length_take, List.length_drop]; omega
end Eb

set_option Elab.async false
set_option maxRecDepth 100000
set_option maxHeartbeats 2000000
set_option linter.all false
namespace Eb
open PySem PySem.Spec PyProof.Rows L2
/-- a name of the module that stands for a value -/
structure G (mg : Str → Option Value) (x : Str) (v : V) : Prop where
  ex : ∃ u, mg x = some u ∧ RelV v u
theorem pe_g {X : Cx} {x : Str} {v : V} {pos : Pos} (h : G X.mg x v) (hg : Gl X x := by rfl) (hdb : (x == ("__debug__" : Str)) = false := by decide) : PE X (.Name x pos) (tC v) := by
  obtain ⟨u, h1, h2⟩ := h.ex
  exact pe_glob hg h1 h2 hdb
/-- what the module's top has left -/
structure Tx (K : PySem.W.Frag) (mg : Str → Option Value) (C : Addr) : Prop where
  cl : Cls K C
  nT : NoAttr K C "top"
  nB : NoAttr K C "blocks"
  len : mg "len" = none
  range : mg "range" = none
  min : mg "min" = none
  max : mg "max" = none
  mp : G mg "MOST_POINTS" (.int 16)
  mb : G mg "MOST_BLOCKS" (.int 20)
  me : G mg "MOST_EVEN" (.int 4)
  wp : G mg "WRONG_POINTS" (.int (-1))
  nb : G mg "NO_BLOCK" (.int (-2))
  tm : G mg "TOO_MANY" (.int (-5))
  na : G mg "NOT_ALIKE" (.int (-6))
def pF (s : Dg01.Plan) (bl : Addr) : List (Str × V) := [("top", vn s.many), ("blocks", .ref bl)]
structure PlanAt (C : Addr) (H : Hp) (pl bl : Addr) (s : Dg01.Plan) : Prop where
  ins : ∃ dx, H pl = some (.ins C dx (pF s bl))
  lst : H bl = some (.lst ((masks s).map vn))
theorem lk_here {k : Str} {v : V} {r : List (Str × V)} : List.lookup k ((k, v) :: r) = some v := by
  have e : (k == k) = true := beq_self_eq_true k
  simp only [List.lookup, e]
theorem lk_past {k g : Str} {v : V} {r : List (Str × V)} (h : (k == g) = false) : List.lookup k ((g, v) :: r) = List.lookup k r := by
  simp only [List.lookup, h]
theorem put_here {f : Str} {v x : V} {r : List (Str × V)} : putF f v ((f, x) :: r) = (f, v) :: r := if_pos rfl
theorem put_past {f g : Str} {v x : V} {r : List (Str × V)} (h : ¬ g = f) : putF f v ((g, x) :: r) = (g, x) :: putF f v r := if_neg h
theorem pF_top (s : Dg01.Plan) (bl : Addr) : (pF s bl).lookup ("top" : Str) = some (vn s.many) := lk_here
theorem pF_blocks (s : Dg01.Plan) (bl : Addr) : (pF s bl).lookup ("blocks" : Str) = some (.ref bl) := (lk_past (by decide +kernel)).trans lk_here
theorem pF_put_top (s : Dg01.Plan) (bl : Addr) (n : Nat) : putF "top" (vn n) (pF s bl) = ([("top", vn n), ("blocks", .ref bl)] : List (Str × V)) := put_here
theorem pF_put_blocks (v : V) (x : V) (bl : Addr) : putF ("blocks" : Str) (.ref bl) ([("top", v), ("blocks", x)] : List (Str × V)) = ([("top", v), ("blocks", .ref bl)] : List (Str × V)) :=
  (put_past (f := ("blocks" : Str)) (g := ("top" : Str)) (by decide +kernel)).trans (congrArg _ put_here)
/-- the specification's step by a call's number and its numbers -/
def stepX (s : Dg01.Plan) : Option Dg01.Call → Dg01.Plan × List Int
  | none => (s, [])
  | some x => Dg01.step s x
def stepN (k : Nat) (l : List Nat) (s : Dg01.Plan) : Dg01.Plan × List Int := stepX s (Dg01Neutral.callIn (k :: l))
/-- the promise of the k-th call's def -/
def spC (K : PySem.W.Frag) (C : Addr) (k : Nat) : Sp := fun vs H Q _ => ∃ (pl bl a : Addr) (s : Dg01.Plan) (l : List Nat), vs = [.ref pl, .ref a] ∧ PlanAt C H pl bl s ∧ Ok s ∧ SqL K H a (l.map vn) ∧ (Dg01Neutral.callIn (k :: l)).isSome = true ∧
  ∀ H' r bl', PlanAt C H' pl bl' (stepN k l s).1 → (bl' = bl ∨ H bl' = none) → (∀ b o, H b = some o → b ≠ pl → b ≠ bl → H' b = some o) → H r = none → H' r = some (.lst ((stepN k l s).2.map V.int)) → Q (.ref r) H'
theorem PlanAt.ne {C : Addr} {H : Hp} {pl bl : Addr} {s : Dg01.Plan} (h : PlanAt C H pl bl s) : pl ≠ bl := by
  obtain ⟨dx, h1⟩ := h.ins
  exact ne_of h1 h.lst (by intro z; cases z)
theorem PlanAt.same {C : Addr} {H H' : Hp} {pl bl : Addr} {s : Dg01.Plan} (h : PlanAt C H pl bl s) (sm : Same H H') : PlanAt C H' pl bl s := by
  obtain ⟨dx, h1⟩ := h.ins
  exact ⟨⟨dx, sm _ _ h1⟩, sm _ _ h.lst⟩
theorem SqL.keep {K : PySem.W.Frag} {H H' : Hp} {a : Addr} {xs : List V} (e : ∀ o, H a = some o → H' a = some o) (h : SqL K H a xs) : SqL K H' a xs := by
  rcases h with (h | ⟨o, h⟩) | h
  · exact .inl (.inl (e _ h))
  · exact .inl (.inr ⟨o, e _ h⟩)
  · exact .inr h
section
variable {P : Program} {w : World} {K : PySem.W.Frag} {mg : Str → Option Value} {base : Heap} {C : Addr}
abbrev N2 : List Str := ["plan", "numbers"]
/-! ### points -/
abbrev s_points : Stmt := topS 43
theorem sc_points : FnScope ["plan", "numbers", "top"] ["plan", "numbers"] (defScope s_points) := ⟨rfl, rfl, rfl, by decide +kernel, rfl, by decide +kernel, by decide +kernel⟩
theorem ok_points {f : Addr} {fd : FuncData} (F : Fun K "points_call" "points_call" s_points f fd) (T : Tx K mg C) : FnOk P w K mg base CX0 1 f fd ["plan", "numbers"] (spC K C 0) := by
  refine F.ok sc_points (fun vs H Q E h => ?_) (fun cdv A outer s H vs Q E hr h => ?_)
  · obtain ⟨pl, bl, a, p, l, rfl, _⟩ := h
    rfl
  · obtain ⟨pl, bl, a, p, l, rfl, hP, hO, hA, hk, q⟩ := h
    obtain ⟨v, rfl⟩ : ∃ v, l = [v] := by
      match l, hk with
      | [v], _ => exact ⟨v, rfl⟩
      | [], h => cases h
      | _ :: _ :: _, h => cases h
    obtain ⟨dx, hpl⟩ := hP.ins
    refine ⟨_, pss_cons (ps_set (i := 2) sc_points.nd rfl (.inl rfl) (pe_ix ix_list (pv 1) pe_int (fun _ _ => rfl)))
      (pss_cons (ps_if (pw_or (pt_cmpR op_ltN (pv 2) pe_int (nomark _)) (pw_or1 (pt_cmpR op_gtN (pv 2) (pe_g T.mp) (nomark _)))).pt (pss_one (ps_ret (pe_lst (pa_cons (pe_g T.wp) pa_nil)))) pss_nil)
      (pss_cons (ps_fld (pv 0) (pv 2) rfl)
      (pss_cons (ps_fld (pv 0) (pe_lst pa_nil) rfl)
      (pss_one (ps_ret (pe_lst (pa_cons pe_int pa_nil))))))), ?_⟩
    refine ⟨_, rfl, a, _, 0, _, rfl, rfl, hA, atI_nat (j := 0) rfl, ?_⟩
    have st : stepN 0 [v] p = if v = 0 ∨ 16 < v then (p, [-1]) else (⟨v, []⟩, [0]) := rfl
    have bad : (v = 0 ∨ 16 < v) → tRet (tLst (tCons (tC (.int (-1))) tNil)) { nx := fun _ H' => Q .non H', rt := Q } [some (.ref pl), some (.ref a), some (vn v)] H := fun c => by
      refine ⟨(by show 1 ≤ sizeLine; decide), fun r nr => ?_⟩
      rw [if_pos c] at st
      refine q _ r bl ?_ (.inl rfl) (fun b o e _ _ => same_upd nr _ _ e) nr ?_
      · rw [st]; exact hP.same (same_upd nr)
      · rw [st, upd_same]; rfl
    refine ⟨_, rfl, v, 1, rfl, rfl, _, rfl, ite2 (fun c => ?_) (fun c => ?_)⟩
    · exact iteT (bad (.inl (by have := of_decide_eq_true c; omega)))
    · refine ⟨_, rfl, v, 16, rfl, rfl, _, rfl, ite2 (fun d => ?_) (fun d => ?_)⟩
      · exact bad (.inr (of_decide_eq_true d))
      · have hv : ¬ (v = 0 ∨ 16 < v) := by
          have h1 : ¬ v < 1 := fun z => c (decide_eq_true z)
          have h2 : ¬ 16 < v := fun z => d (decide_eq_true z)
          omega
        rw [if_neg hv] at st
        refine ⟨_, rfl, _, rfl, pl, C, dx, _, rfl, hpl, T.cl, T.nT, (by show 2 < 1000; decide), ?_⟩
        refine ⟨Nat.zero_le _, fun o no => ?_⟩
        have nopl : pl ≠ o := by
          intro e
          rw [← e, upd_same] at no
          cases no
        refine ⟨_, rfl, pl, C, dx, _, rfl, (upd_ne nopl).trans upd_same, T.cl, T.nB, (by show 2 < 1000; decide), ?_⟩
        · refine ⟨(by show 1 ≤ sizeLine; decide), fun r nr => ?_⟩
          have nor : r ≠ pl := by
            intro e
            rw [e, upd_same] at nr
            cases nr
          have noo : r ≠ o := by
            intro e
            rw [e, upd_ne nopl.symm, upd_same] at nr
            cases nr
          have hno : H o = none := by
            rw [upd_ne nopl.symm] at no; exact no
          have hnr : H r = none := by
            rw [upd_ne nor, upd_ne noo, upd_ne nor] at nr; exact nr
          refine q _ r o ?_ (.inr hno) (fun b u e h1 h2 => ?_) hnr ?_
          · rw [st]
            refine ⟨⟨dx, ?_⟩, ?_⟩
            · rw [upd_ne nor.symm, upd_same, pF_put_top, pF_put_blocks]
              rfl
            · rw [upd_ne noo.symm, upd_ne nopl.symm, upd_same]
              rfl
          · have e1 : b ≠ o := ne_of_none e hno
            have e2 : H r = none := by
              rw [upd_ne nor, upd_ne noo, upd_ne nor] at nr; exact nr
            rw [upd_ne (ne_of_none e e2), upd_ne h1, upd_ne e1, upd_ne h1]
            exact e
          · rw [st, upd_same]; rfl
end
end Eb

set_option Elab.async false
set_option maxRecDepth 100000
set_option maxHeartbeats 2000000
set_option linter.all false
namespace Eb
open PySem PySem.Spec PyProof.Rows L2
/-- what a call's def must reach -/
abbrev Goes (C : Addr) (H : Hp) (pl bl : Addr) (k : Nat) (l : List Nat) (s : Dg01.Plan) (Q : VK) : Prop := ∀ H' r bl', PlanAt C H' pl bl' (stepN k l s).1 → (bl' = bl ∨ H bl' = none) → (∀ b o, H b = some o → b ≠ pl → b ≠ bl → H' b = some o) → H r = none → H' r = some (.lst ((stepN k l s).2.map V.int)) → Q (.ref r) H'
theorem Goes.pure {C : Addr} {H : Hp} {pl bl : Addr} {k : Nat} {l : List Nat} {s : Dg01.Plan} {Q : VK} (q : Goes C H pl bl k l s Q) (hP : PlanAt C H pl bl s) {ans : List Int} (st : stepN k l s = (s, ans)) {H' : Hp} {r : Addr} (sm : Same H H') (nr : H r = none) (hr : H' r = some (.lst (ans.map V.int))) : Q (.ref r) H' :=
  q H' r bl (by rw [st]; exact hP.same sm) (.inl rfl) (fun b o e _ _ => sm _ _ e) nr (by rw [st]; exact hr)
/-- a list of one value, given back -/
theorem Goes.one {C : Addr} {H : Hp} {pl bl : Addr} {k : Nat} {l : List Nat} {s : Dg01.Plan} {Q : VK} (q : Goes C H pl bl k l s Q) (hP : PlanAt C H pl bl s) {z : Int} (st : stepN k l s = (s, [z])) {H1 : Hp} (sm : Same H H1) : [V.int z].length ≤ sizeLine ∧ ∀ p, H1 p = none → Q (.ref p) (upd H1 p (.lst [V.int z])) :=
  ⟨by show 1 ≤ sizeLine; decide, fun p np => q.pure hP st (sm.trans (same_upd np)) (sm.free np) upd_same⟩
theorem one_num {k : Nat} (hk : k = 0 ∨ k = 2 ∨ k = 4 ∨ k = 10 ∨ k = 11 ∨ k = 12 ∨ k = 13) {l : List Nat} (h : (Dg01Neutral.callIn (k :: l)).isSome = true) : ∃ v, l = [v] := by
  match l, h with
  | [v], _ => exact ⟨v, rfl⟩
  | [], h => rcases hk with rfl | rfl | rfl | rfl | rfl | rfl | rfl <;> cases h
  | _ :: _ :: _, h => rcases hk with rfl | rfl | rfl | rfl | rfl | rfl | rfl <;> cases h
theorem no_num {k : Nat} (hk : 5 ≤ k ∧ k ≤ 9 ∨ 14 ≤ k) {l : List Nat} (h : (Dg01Neutral.callIn (k :: l)).isSome = true) : l = [] := by
  match l, h with
  | [], _ => rfl
  | x :: y, h =>
    exfalso
    have : Dg01Neutral.callIn (k :: x :: y) = none := by
      unfold Dg01Neutral.callIn
      split <;> first | rfl | (exfalso; simp_all; try omega)
    rw [this] at h; cases h
theorem step_block (l : List Nat) (s : Dg01.Plan) : stepN 1 l s = Dg01.step s (.block l) := by cases l <;> rfl
theorem step_together (l : List Nat) (s : Dg01.Plan) : stepN 3 l s = Dg01.step s (.together l) := by
  match l with
  | [] => rfl
  | [_] => rfl
  | _ :: _ :: _ => rfl
section
variable {P : Program} {w : World} {K : PySem.W.Frag} {mg : Str → Option Value} {base : Heap} {C : Addr}
/-! ### block -/
abbrev s_block : Stmt := topS 44
theorem sc_block : FnScope ["plan", "numbers"] ["plan", "numbers"] (defScope s_block) := ⟨rfl, rfl, rfl, by decide +kernel, rfl, by decide +kernel, by decide +kernel⟩
theorem isSet_mem {p : Dg01.Plan} {l : List Nat} (hO : Ok p) (h : Dg01.isSet p l = true) : ∀ x ∈ l, x ≤ 1000 := fun x hx => by
  have := ((isSet_iff p l).mp h).2 x hx
  have := hO.hi
  omega
theorem ok_block {f : Addr} {fd : FuncData} (F : Fun K "block_call" "block_call" s_block f fd) (T : Tx K mg C) (cr : Cl P w K mg base 1 "rise_within" ["points", "top"] (spRise K)) (cm : Cl P w K mg base 1 "mask_of" ["points"] (spMask K)) : FnOk P w K mg base CX0 2 f fd ["plan", "numbers"] (spC K C 1) := by
  refine F.ok sc_block (fun vs H Q E h => ?_) (fun cdv A outer s H vs Q E hr h => ?_)
  · obtain ⟨pl, bl, a, p, l, rfl, _⟩ := h
    rfl
  · obtain ⟨pl, bl, a, p, l, rfl, hP, hO, hA, hk, q⟩ := h
    obtain ⟨dx, hpl⟩ := hP.ins
    have hbl := hP.lst
    refine ⟨_, pss_cons (ps_if (pt_not (pt_val (pe_cl cr hr (by decide) (by rfl) (pa_cons (pv 1) (pa_cons (pe_fld (pv 0) rfl) pa_nil))))) (pss_one (ps_ret (pe_lst (pa_cons (pe_g T.wp) pa_nil)))) pss_nil)
      (pss_cons (ps_if (pt_cmpR op_geN (pe_callB call_len_seq (by rfl) T.len PySem.boot_len (pa_cons (pe_fld (pv 0) rfl) pa_nil)) (pe_g T.mb) (nomark _)) (pss_one (ps_ret (pe_lst (pa_cons (pe_g T.tm) pa_nil)))) pss_nil)
      (pss_cons (ps_expr (pe_bm PySem.F.plainAttrs_list PySem.F.slot_list_append PySem.F.type_list_append mt_append (pe_fld (pv 0) rfl) (pa_cons (pe_cl cm hr (by decide) (by rfl) (pa_cons (pv 1) pa_nil)) pa_nil)))
      (pss_one (ps_ret (pe_lst (pa_cons (pe_op op_sub (pe_callB call_len_seq (by rfl) T.len PySem.boot_len (pa_cons (pe_fld (pv 0) rfl) pa_nil)) pe_int) pa_nil)))))), ?_⟩
    have st : stepN 1 l p = if Dg01.isSet p l = false then (p, [-1]) else if 20 ≤ p.blocks.length then (p, [-5]) else ({ p with blocks := p.blocks ++ [l] }, Dg01.ints [p.blocks.length]) := step_block l p
    refine ⟨_, rfl, _, rfl, pl, C, dx, _, _, rfl, hpl, T.cl, T.nT, pF_top p bl, a, l, p.many, rfl, hA, ⟨_, rfl, ite2 (fun c => ?_) (fun c => ?_)⟩⟩
    · have hs : Dg01.isSet p l = false := by
        rw [← riseB_isSet]; simpa using c
      rw [if_pos hs] at st
      exact Goes.one q hP st (Same.refl H)
    · have hs : ¬ Dg01.isSet p l = false := by
        rw [← riseB_isSet]; simpa using c
      rw [if_neg hs] at st
      refine ⟨_, rfl, pl, C, dx, _, _, rfl, hpl, T.cl, T.nB, pF_blocks p bl, bl, _, rfl, .inl (.inl (.inl hbl)), _, 20, rfl, rfl, _, rfl, ite2 (fun d => ?_) (fun d => ?_)⟩
      · have hd : 20 ≤ p.blocks.length := by
          have := of_decide_eq_true d
          rwa [List.length_map, masks_length] at this
        rw [if_pos hd] at st
        exact Goes.one q hP st (Same.refl H)
      · have hd : ¬ 20 ≤ p.blocks.length := fun z => d (decide_eq_true (by rw [List.length_map, masks_length]; exact z))
        rw [if_neg hd] at st
        have hs' : Dg01.isSet p l = true := by simpa using hs
        refine ⟨_, rfl, pl, C, dx, _, _, rfl, hpl, T.cl, T.nB, pF_blocks p bl, .inl ⟨rfl, _, .inl (.inl hbl)⟩, _, rfl, a, l, rfl, hA, isSet_mem hO hs', ?_⟩
        refine ⟨bl, _, _, rfl, rfl, hbl, ?_, ?_⟩
        · rw [List.length_map, masks_length]; exact small1000 (by omega)
        · have hpl' : (upd H bl (.lst ((masks p).map vn ++ [vn (maskOf l)]))) pl = some (.ins C dx (pF p bl)) := by rw [upd_ne hP.ne]; exact hpl
          refine ⟨_, rfl, pl, C, dx, _, _, rfl, hpl', T.cl, T.nB, pF_blocks p bl, bl, _, rfl, .inl (.inl (.inl upd_same)), _, 1, rfl, rfl, (by show 1 ≤ sizeLine; decide), fun r nr => ?_⟩
          have hnr : H r = none := by
            have : r ≠ bl := by
              intro e
              rw [e, upd_same] at nr
              cases nr
            rw [upd_ne this] at nr; exact nr
          have em : (masks p).map vn ++ [vn (maskOf l)] = (masks { p with blocks := p.blocks ++ [l] }).map vn := by
            unfold masks
            simp only [List.map_append, List.map_cons, List.map_nil]
          refine q _ r bl ?_ (.inl rfl) (fun b o e h1 h2 => ?_) hnr ?_
          · rw [st]
            refine ⟨⟨dx, ?_⟩, ?_⟩
            · rw [upd_ne (ne_of_none hpl hnr)]; exact hpl'
            · rw [upd_ne (ne_of_none hbl hnr), upd_same, em]
          · rw [upd_ne (ne_of_none e hnr), upd_ne h2]; exact e
          · rw [st, upd_same, List.length_append, List.length_map, masks_length]
            show some (HO.lst [V.int (((p.blocks.length + 1 : Nat) : Int) - 1)]) = some (HO.lst [V.int (p.blocks.length : Int)])
            rw [show ((p.blocks.length + 1 : Nat) : Int) - 1 = (p.blocks.length : Int) by omega]
/-! ### gone -/
abbrev s_gone : Stmt := topS 45
theorem sc_gone : FnScope ["plan", "numbers", "number"] ["plan", "numbers"] (defScope s_gone) := ⟨rfl, rfl, rfl, by decide +kernel, rfl, by decide +kernel, by decide +kernel⟩
theorem ok_gone {f : Addr} {fd : FuncData} (F : Fun K "gone_call" "gone_call" s_gone f fd) (T : Tx K mg C) : FnOk P w K mg base CX0 1 f fd ["plan", "numbers"] (spC K C 2) := by
  refine F.ok sc_gone (fun vs H Q E h => ?_) (fun cdv A outer s H vs Q E hr h => ?_)
  · obtain ⟨pl, bl, a, p, l, rfl, _⟩ := h
    rfl
  · obtain ⟨pl, bl, a, p, l, rfl, hP, hO, hA, hk, q⟩ := h
    obtain ⟨n, rfl⟩ := one_num (by simp) hk
    obtain ⟨dx, hpl⟩ := hP.ins
    have hbl := hP.lst
    refine ⟨_, pss_cons (ps_set (i := 2) sc_gone.nd rfl (.inl rfl) (pe_ix ix_list (pv 1) pe_int (fun _ _ => rfl)))
      (pss_cons (ps_if (pt_cmpR op_geN (pv 2) (pe_callB call_len_seq (by rfl) T.len PySem.boot_len (pa_cons (pe_fld (pv 0) rfl) pa_nil)) (nomark _)) (pss_one (ps_ret (pe_lst (pa_cons (pe_g T.nb) pa_nil)))) pss_nil)
      (pss_cons (ps_expr (pe_bm PySem.F.plainAttrs_list PySem.F.slot_list_pop PySem.F.type_list_pop mt_popAt (pe_fld (pv 0) rfl) (pa_cons (pv 2) pa_nil)))
      (pss_one (ps_ret (pe_lst (pa_cons (pe_callB call_len_seq (by rfl) T.len PySem.boot_len (pa_cons (pe_fld (pv 0) rfl) pa_nil)) pa_nil)))))), ?_⟩
    have st : stepN 2 [n] p = if p.blocks.length ≤ n then (p, [-2]) else ({ p with blocks := p.blocks.take n ++ p.blocks.drop (n + 1) }, Dg01.ints [p.blocks.length - 1]) := rfl
    refine ⟨_, rfl, a, _, 0, _, rfl, rfl, hA, atI_nat (j := 0) rfl, ?_⟩
    refine ⟨_, rfl, _, rfl, pl, C, dx, _, _, rfl, hpl, T.cl, T.nB, pF_blocks p bl, bl, _, rfl, .inl (.inl (.inl hbl)), n, _, rfl, rfl, _, rfl, ite2 (fun c => ?_) (fun c => ?_)⟩
    · have hc : p.blocks.length ≤ n := by
        have := of_decide_eq_true c
        rwa [List.length_map, masks_length] at this
      rw [if_pos hc] at st
      exact Goes.one q hP st (Same.refl H)
    · have hc : ¬ p.blocks.length ≤ n := fun z => c (decide_eq_true (by rw [List.length_map, masks_length]; exact z))
      rw [if_neg hc] at st
      have hfew := hO.few
      have hn : n < (masks p).length := by rw [masks_length]; omega
      refine ⟨_, rfl, pl, C, dx, _, _, rfl, hpl, T.cl, T.nB, pF_blocks p bl, .inl ⟨rfl, _, .inl (.inl hbl)⟩, _, rfl, bl, _, (n : Int), n, vn (masks p)[n], rfl, rfl, hbl, by omega, by omega, ?_, ?_, ?_⟩
      · rw [List.length_map]
        unfold seqIndex?
        simp only [if_neg (show ¬ (n : Int) < 0 by omega)]
        rw [if_pos (by rw [Bool.and_eq_true, decide_eq_true_eq, decide_eq_true_eq]; exact ⟨by omega, by omega⟩)]
        rfl
      · rw [List.getElem?_map, List.getElem?_eq_getElem hn]; rfl
      · have em : ((masks p).map vn).eraseIdx n = (masks { p with blocks := p.blocks.take n ++ p.blocks.drop (n + 1) }).map vn := by
          rw [List.eraseIdx_eq_take_drop_succ]
          unfold masks
          simp only [List.map_append, List.map_take, List.map_drop]
        have hpl' : (upd H bl (.lst (((masks p).map vn).eraseIdx n))) pl = some (.ins C dx (pF p bl)) := by rw [upd_ne hP.ne]; exact hpl
        refine ⟨_, rfl, pl, C, dx, _, _, rfl, hpl', T.cl, T.nB, pF_blocks p bl, bl, _, rfl, .inl (.inl (.inl upd_same)), (by show 1 ≤ sizeLine; decide), fun r nr => ?_⟩
        have hnr : H r = none := by
          have : r ≠ bl := by
            intro e
            rw [e, upd_same] at nr
            cases nr
          rw [upd_ne this] at nr; exact nr
        refine q _ r bl ?_ (.inl rfl) (fun b o e h1 h2 => ?_) hnr ?_
        · rw [st]
          refine ⟨⟨dx, ?_⟩, ?_⟩
          · rw [upd_ne (ne_of_none hpl hnr)]; exact hpl'
          · rw [upd_ne (ne_of_none hbl hnr), upd_same, em]
        · rw [upd_ne (ne_of_none e hnr), upd_ne h2]; exact e
        · rw [st, upd_same, em, List.length_map, masks_length]
          show some (HO.lst [V.int (((p.blocks.take n ++ p.blocks.drop (n + 1)).length : Nat) : Int)]) = some (HO.lst [V.int ((p.blocks.length - 1 : Nat) : Int)])
          rw [List.length_append, List.length_take, List.length_drop, show min n p.blocks.length + (p.blocks.length - (n + 1)) = p.blocks.length - 1 by omega]
end
end Eb

set_option Elab.async false
set_option maxRecDepth 100000
set_option maxHeartbeats 2000000
set_option linter.all false
namespace Eb
open PySem PySem.Spec PyProof.Rows L2
section
variable {P : Program} {w : World} {K : PySem.W.Frag} {mg : Str → Option Value} {base : Heap} {C : Addr}
theorem ints_vn (l : List Nat) : (Dg01.ints l).map V.int = l.map vn := by
  unfold Dg01.ints; rw [List.map_map]; rfl
/-! ### together -/
abbrev s_together : Stmt := topS 46
theorem sc_together : FnScope ["plan", "numbers"] ["plan", "numbers"] (defScope s_together) := ⟨rfl, rfl, rfl, by decide +kernel, rfl, by decide +kernel, by decide +kernel⟩
theorem ok_together {f : Addr} {fd : FuncData} (F : Fun K "together_call" "together_call" s_together f fd) (T : Tx K mg C) (cr : Cl P w K mg base 1 "rise_within" ["points", "top"] (spRise K)) (cm : Cl P w K mg base 1 "mask_of" ["points"] (spMask K)) (cn : Cl P w K mg base 1 "count_together" ["blocks", "mask"] (spCount K)) : FnOk P w K mg base CX0 2 f fd ["plan", "numbers"] (spC K C 3) := by
  refine F.ok sc_together (fun vs H Q E h => ?_) (fun cdv A outer s H vs Q E hr h => ?_)
  · obtain ⟨pl, bl, a, p, l, rfl, _⟩ := h
    rfl
  · obtain ⟨pl, bl, a, p, l, rfl, hP, hO, hA, hk, q⟩ := h
    obtain ⟨dx, hpl⟩ := hP.ins
    have hbl := hP.lst
    refine ⟨_, pss_cons (ps_if (pt_not (pt_val (pe_cl cr hr (by decide) (by rfl) (pa_cons (pv 1) (pa_cons (pe_fld (pv 0) rfl) pa_nil))))) (pss_one (ps_ret (pe_lst (pa_cons (pe_g T.wp) pa_nil)))) pss_nil)
      (pss_one (ps_ret (pe_lst (pa_cons (pe_cl cn hr (by decide) (by rfl) (pa_cons (pe_fld (pv 0) rfl) (pa_cons (pe_cl cm hr (by decide) (by rfl) (pa_cons (pv 1) pa_nil)) pa_nil))) pa_nil)))), ?_⟩
    have st : stepN 3 l p = (p, if Dg01.isSet p l = false then [-1] else Dg01.ints [Dg01.together p l]) := step_together l p
    refine ⟨_, rfl, _, rfl, pl, C, dx, _, _, rfl, hpl, T.cl, T.nT, pF_top p bl, a, l, p.many, rfl, hA, ⟨_, rfl, ite2 (fun c => ?_) (fun c => ?_)⟩⟩
    · have hs : Dg01.isSet p l = false := by
        rw [← riseB_isSet]; simpa using c
      rw [if_pos hs] at st
      exact Goes.one q hP st (Same.refl H)
    · have hs : ¬ Dg01.isSet p l = false := by
        rw [← riseB_isSet]; simpa using c
      rw [if_neg hs] at st
      have hs' : Dg01.isSet p l = true := by simpa using hs
      have hfew := hO.few
      refine ⟨_, rfl, pl, C, dx, _, _, rfl, hpl, T.cl, T.nB, pF_blocks p bl, _, rfl, a, l, rfl, hA, isSet_mem hO hs', ?_⟩
      refine ⟨bl, masks p, maskOf l, rfl, .inl (.inl hbl), by rw [masks_length]; omega, fun H1 s1 => ?_⟩
      rw [cnt_together]
      exact Goes.one q hP st s1
/-! ### even -/
abbrev s_even : Stmt := topS 47
theorem sc_even : FnScope ["plan", "numbers", "t"] ["plan", "numbers"] (defScope s_even) := ⟨rfl, rfl, rfl, by decide +kernel, rfl, by decide +kernel, by decide +kernel⟩
theorem ok_even {f : Addr} {fd : FuncData} (F : Fun K "even_call" "even_call" s_even f fd) (T : Tx K mg C) (ce : Cl P w K mg base 3 "even_answer" ["top", "blocks", "t"] (spEvena K)) : FnOk P w K mg base CX0 4 f fd ["plan", "numbers"] (spC K C 4) := by
  refine F.ok sc_even (fun vs H Q E h => ?_) (fun cdv A outer s H vs Q E hr h => ?_)
  · obtain ⟨pl, bl, a, p, l, rfl, _⟩ := h
    rfl
  · obtain ⟨pl, bl, a, p, l, rfl, hP, hO, hA, hk, q⟩ := h
    obtain ⟨t, rfl⟩ := one_num (by simp) hk
    obtain ⟨dx, hpl⟩ := hP.ins
    have hbl := hP.lst
    refine ⟨_, pss_cons (ps_set (i := 2) sc_even.nd rfl (.inl rfl) (pe_ix ix_list (pv 1) pe_int (fun _ _ => rfl)))
      (pss_cons (ps_if (pw_or (pt_cmpR op_gtN (pv 2) (pe_g T.me) (nomark _)) (pw_or1 (pt_cmpR op_gtN (pv 2) (pe_fld (pv 0) rfl) (nomark _)))).pt (pss_one (ps_ret (pe_lst (pa_cons (pe_g T.wp) pa_nil)))) pss_nil)
      (pss_one (ps_ret (pe_cl ce hr (by decide) (by rfl) (pa_cons (pe_fld (pv 0) rfl) (pa_cons (pe_fld (pv 0) rfl) (pa_cons (pv 2) pa_nil))))))), ?_⟩
    have st : stepN 4 [t] p = (p, if 4 < t ∨ p.many < t then [-1] else match Dg01.odd p t with
      | none => match Dg01.even p t with
        | none => [-3]
        | some n => Dg01.ints [1, n]
      | some s => Dg01.ints ([0, (Dg01.counts p t).headD 0, Dg01.together p s] ++ s)) := rfl
    refine ⟨_, rfl, a, _, 0, _, rfl, rfl, hA, atI_nat (j := 0) rfl, ?_⟩
    refine ⟨_, rfl, t, 4, rfl, rfl, _, rfl, ite2 (fun c => ?_) (fun c => ?_)⟩
    · rw [if_pos (Or.inl (of_decide_eq_true c))] at st
      exact iteT (Goes.one q hP st (Same.refl H))
    · refine ⟨_, rfl, _, rfl, pl, C, dx, _, _, rfl, hpl, T.cl, T.nT, pF_top p bl, t, p.many, rfl, rfl, _, rfl, ite2 (fun d => ?_) (fun d => ?_)⟩
      · rw [if_pos (Or.inr (of_decide_eq_true d))] at st
        exact Goes.one q hP st (Same.refl H)
      · have h1 : ¬ 4 < t := fun z => c (decide_eq_true z)
        have h2 : ¬ p.many < t := fun z => d (decide_eq_true z)
        rw [if_neg (by omega)] at st
        have st := st.trans (congrArg (fun z => (p, z)) (even_is p t (by omega)))
        have hfew := hO.few
        refine ⟨_, rfl, pl, C, dx, _, _, rfl, hpl, T.cl, T.nT, pF_top p bl, _, rfl, pl, C, dx, _, _, rfl, hpl, T.cl, T.nB, pF_blocks p bl, _, rfl, p.many, t, bl, masks p, rfl, .inl (.inl hbl), by rw [masks_length]; omega, hO.hi, by omega, by omega, fun H1 r s1 nr hr => ?_⟩
        exact Goes.pure q hP st s1 nr (by rw [ints_vn]; exact hr)
/-! ### strength -/
abbrev s_strength : Stmt := topS 48
theorem sc_strength : FnScope ["plan", "numbers", "sizes", "block"] ["plan", "numbers"] (defScope s_strength) := ⟨rfl, rfl, rfl, by decide +kernel, rfl, by decide +kernel, by decide +kernel⟩
theorem size_none {p : Dg01.Plan} (h : p.blocks = []) : Dg01.size p = none := by unfold Dg01.size; rw [h]
theorem size_some {p : Dg01.Plan} {b0 : List Nat} {br : List (List Nat)} (h : p.blocks = b0 :: br) (ha : ∀ b ∈ br, b.length = b0.length) : Dg01.size p = some b0.length := by
  unfold Dg01.size
  rw [h]
  show (if br.all (fun c => c.length == b0.length) = true then some b0.length else none) = _
  rw [if_pos]
  rw [List.all_eq_true]
  intro b hb
  simpa using ha b hb
theorem size_differ {p : Dg01.Plan} {b0 : List Nat} {br : List (List Nat)} (h : p.blocks = b0 :: br) (ha : ¬ ∀ b ∈ br, b.length = b0.length) : Dg01.size p = none := by
  unfold Dg01.size
  rw [h]
  show (if br.all (fun c => c.length == b0.length) = true then some b0.length else none) = _
  rw [if_neg]
  intro z
  rw [List.all_eq_true] at z
  exact ha fun b hb => by simpa using z b hb
theorem ok_strength {f : Addr} {fd : FuncData} (F : Fun K "strength_call" "strength_call" s_strength f fd) (T : Tx K mg C) (cs : Cl P w K mg base 1 "size_of" ["mask"] spSize) (cg : Cl P w K mg base 3 "greatest_even" ["top", "blocks"] (spGreat K)) : FnOk P w K mg base CX0 4 f fd ["plan", "numbers"] (spC K C 5) := by
  refine F.ok sc_strength (fun vs H Q E h => ?_) (fun cdv A outer s H vs Q E hr h => ?_)
  · obtain ⟨pl, bl, a, p, l, rfl, _⟩ := h
    rfl
  · obtain ⟨pl, bl, a, p, l, rfl, hP, hO, hA, hk, q⟩ := h
    obtain rfl := no_num (by simp) hk
    obtain ⟨dx, hpl⟩ := hP.ins
    have hbl := hP.lst
    have hfew := hO.few
    refine ⟨_, pss_cons (ps_setLc (i := 2) (own := [("block", 3)]) (g := gName 3) (tt := tYes) rfl sc_strength.nd rfl rfl (sw_true rfl rfl rfl (by decide +kernel)) (pi_list (pe_fld (pv 0) rfl)) (blkOk_by (own := [("block", 3)]) (N := ["plan", "numbers", "sizes", "block"]) (sc := defScope s_strength) (by decide +kernel))
          (fun _ _ _ _ _ => pg_name (i := 3) sc_strength.nd rfl (Or.inl rfl)) (fun _ _ _ _ _ => pts_nil) (fun _ _ _ _ _ => pe_cl cs hr (by decide) (by rfl) (pa_cons (pv 3) pa_nil)))
      (pss_cons (ps_if (pw_or (pt_cmpR op_eqN (pe_callB call_len_seq (by rfl) T.len PySem.boot_len (pa_cons (pv 2) pa_nil)) pe_int (nomark _)) (pw_or1 (pt_cmpR op_ne (pe_callB (cr_min rfl) (by rfl) T.min (by decide +kernel) (pa_cons (pv 2) pa_nil)) (pe_callB (cr_max rfl) (by rfl) T.max (by decide +kernel) (pa_cons (pv 2) pa_nil)) (nomark _)))).pt (pss_one (ps_ret (pe_lst (pa_cons (pe_g T.na) pa_nil)))) pss_nil)
      (pss_one (ps_ret (pe_lst (pa_cons (pe_ix ix_list (pv 2) pe_int (fun _ _ => rfl)) (pa_cons (pe_cl cg hr (by decide) (by rfl) (pa_cons (pe_fld (pv 0) rfl) (pa_cons (pe_fld (pv 0) rfl) pa_nil))) pa_nil)))))), ?_⟩
    have st : stepN 5 [] p = (p, match Dg01.size p with
      | none => [-6]
      | some k => Dg01.ints [k, Dg01.strength p]) := rfl
    refine ⟨_, rfl, pl, C, dx, _, _, rfl, hpl, T.cl, T.nB, pF_blocks p bl, bl, rfl, ⟨_, .inl (.inl hbl)⟩, fun D nD => lc_list (K := K) (a := bl) (xs := (masks p).map vn)
      (fun i H' => Same H H' ∧ H' D = some (.lst ((((masks p).take i).map pc).map vn))) ⟨same_upd nD, upd_same⟩ (fun i H' _ ⟨s, _⟩ => .inl (.inl (s _ _ hbl))) ?_ ?_⟩
    · rintro i x H' hi ⟨sm, hD⟩
      obtain ⟨n, hn, rfl⟩ := get_map hi
      refine ⟨rfl, _, rfl, n, rfl, _, hD, ?_, ?_, ?_⟩
      · rw [List.length_map, List.length_map, List.length_take, masks_length]
        exact small1000 (by omega)
      · intro b o e
        rw [upd_ne (ne_of_none e nD)]; exact sm _ _ e
      · rw [upd_same, take_more hn, List.map_append, List.map_append]; rfl
    · rintro H1 ⟨s1, hD⟩
      rw [List.length_map, List.take_length, sizes_len hO.wf] at hD
      have hDi : H1 D = some (.lst ((((p.blocks.map List.length).map fun (n : Nat) => (n : Int))).map V.int)) := by rw [← cast_map]; exact hD
      refine ⟨_, rfl, D, _, rfl, .inl (.inl (.inl hD)), _, 0, rfl, rfl, _, rfl, ite2 (fun c => ?_) (fun c => ?_)⟩
      · have hz : p.blocks = [] := by
          have := of_decide_eq_true c
          rw [List.length_map, List.length_map] at this
          exact List.length_eq_zero_iff.mp this
        rw [size_none hz] at st
        exact iteT (Goes.one q hP st s1)
      · have hz : p.blocks ≠ [] := by
          intro z
          exact c (decide_eq_true (by rw [z]; rfl))
        obtain ⟨b0, br, hb⟩ := List.exists_cons_of_ne_nil hz
        have hlen : 0 < ((p.blocks.map List.length).map fun (n : Nat) => (n : Int)).length := by rw [hb]; simp
        refine ⟨_, rfl, D, _, rfl, .inl (.inl hDi), hlen, fun mn hmn hmn2 => ?_⟩
        refine ⟨_, rfl, D, _, rfl, .inl (.inl hDi), hlen, fun mx hmx hmx2 => ?_⟩
        have hmem : ∀ b ∈ p.blocks, ((b.length : Nat) : Int) ∈ ((p.blocks.map List.length).map fun (n : Nat) => (n : Int)) := fun b hb => List.mem_map.mpr ⟨b.length, List.mem_map.mpr ⟨b, hb, rfl⟩, rfl⟩
        refine ⟨rfl, _, rfl, ite2 (fun d => ?_) (fun d => ?_)⟩
        · have hne : mn ≠ mx := by
            intro e
            rw [e] at d
            simp at d
          have : Dg01.size p = none := by
            refine size_differ hb fun hall => hne ?_
            have hi : ∀ y ∈ ((p.blocks.map List.length).map fun (n : Nat) => (n : Int)), y = (b0.length : Int) := by
              intro y hy
              obtain ⟨n, hn, rfl⟩ := List.mem_map.mp hy
              obtain ⟨b, hb', rfl⟩ := List.mem_map.mp hn
              rw [hb] at hb'
              rcases List.mem_cons.mp hb' with rfl | hb'
              · rfl
              · rw [hall b hb']
            rw [hi mn hmn, hi mx hmx]
          rw [this] at st
          exact Goes.one q hP st s1
        · have heq : mn = mx := by
            simpa using d
          have hall : ∀ b ∈ br, b.length = b0.length := by
            intro b hb'
            have h1 := hmem b (by rw [hb]; simp [hb'])
            have h2 := hmem b0 (by rw [hb]; simp)
            have := hmn2 _ h1
            have := hmx2 _ h1
            have := hmn2 _ h2
            have := hmx2 _ h2
            omega
          have hsz := size_some hb hall
          rw [hsz] at st
          have hmk : masks p = maskOf b0 :: br.map maskOf := by unfold masks; rw [hb]; rfl
          have hp0 : pc (maskOf b0) = b0.length := pc_mask b0 (hO.wf.norm b0 (by rw [hb]; simp)).nodup
          have hpc : ∀ b ∈ masks p, pc b ≤ 20 := by
            intro b hb'
            unfold masks at hb'
            obtain ⟨c, hc, rfl⟩ := List.mem_map.mp hb'
            rw [pc_mask c (hO.wf.norm c hc).nodup]
            exact Nat.le_trans (len_le hO.wf hc) hO.hi
          have hD0 : atI ((p.blocks.map List.length).map vn) 0 = some (vn b0.length) := by
            rw [hb]; exact atI_nat (j := 0) rfl
          refine ⟨_, rfl, D, _, 0, _, rfl, rfl, .inl (.inl hD), hD0, ?_⟩
          refine ⟨_, rfl, pl, C, dx, _, _, rfl, s1 _ _ hpl, T.cl, T.nT, pF_top p bl, _, rfl, pl, C, dx, _, _, rfl, s1 _ _ hpl, T.cl, T.nB, pF_blocks p bl, p.many, bl, maskOf b0, br.map maskOf, rfl, ?_, ?_, ?_, hO.hi, fun H2 t0 s2 g1 g2 g3 => ?_⟩
          · rw [← hmk]; exact .inl (.inl (s1 _ _ hbl))
          · rw [← hmk, masks_length]; exact hfew
          · rw [← hmk]; exact hpc
          · rw [← hmk] at g2 g3
            rw [hp0] at g1 g3
            have := strength_is hO.wf hb hsz g1 g2 g3
            subst this
            refine ⟨(by show 2 ≤ sizeLine; decide), fun r nr => ?_⟩
            exact Goes.pure q hP st (s1.trans (s2.trans (same_upd nr))) (s1.free (s2.free nr)) upd_same
/-! ### degrees -/
abbrev s_degrees : Stmt := topS 49
theorem sc_degrees : FnScope ["plan", "numbers", "point"] ["plan", "numbers"] (defScope s_degrees) := ⟨rfl, rfl, rfl, by decide +kernel, rfl, by decide +kernel, by decide +kernel⟩
theorem ok_degrees {f : Addr} {fd : FuncData} (F : Fun K "degrees_call" "degrees_call" s_degrees f fd) (T : Tx K mg C) (cm : Cl P w K mg base 1 "mask_of" ["points"] (spMask K)) (cn : Cl P w K mg base 1 "count_together" ["blocks", "mask"] (spCount K)) : FnOk P w K mg base CX0 2 f fd ["plan", "numbers"] (spC K C 6) := by
  refine F.ok sc_degrees (fun vs H Q E h => ?_) (fun cdv A outer s H vs Q E hr h => ?_)
  · obtain ⟨pl, bl, a, p, l, rfl, _⟩ := h
    rfl
  · obtain ⟨pl, bl, a, p, l, rfl, hP, hO, hA, hk, q⟩ := h
    obtain rfl := no_num (by simp) hk
    obtain ⟨dx, hpl⟩ := hP.ins
    have hbl := hP.lst
    have hfew := hO.few
    have hhi := hO.hi
    refine ⟨_, pss_one (ps_ret (pe_lc (own := [("point", 2)]) (g := gName 2) (tt := tYes) (te := tCall (spCount K) [] E0 (tCons (tFld K (tVar 0) "blocks") (tCons (tCall (spMask K) [] E0 (tCons (tLst (tCons (tVar 2) tNil)) tNil)) tNil))) rfl sc_degrees.nd (by exact pi_range2 rfl T.range (pa_cons pe_int (pa_cons (pe_op op_addN (pe_fld (pv 0) rfl) pe_int) pa_nil))) (blkOk_by (own := [("point", 2)]) (N := ["plan", "numbers", "point"]) (sc := defScope s_degrees) (by decide +kernel))
        (fun _ _ _ _ _ => pg_name (i := 2) sc_degrees.nd rfl (Or.inl rfl)) (fun _ _ _ _ _ => pts_nil) (fun _ _ _ _ _ => pe_cl cn hr (by decide) (by rfl) (by exact (pa_cons (pe_fld (pv 0) rfl) (pa_cons (pe_cl cm hr (by decide) (by rfl) (pa_cons (pe_lst (pa_cons (pv 2) pa_nil)) pa_nil)) pa_nil)))))), ?_⟩
    have st : stepN 6 [] p = (p, Dg01.ints ((Dg01.points p).map fun x => (Dg01.blocksWith p x).length)) := rfl
    refine ⟨_, rfl, pl, C, dx, _, _, rfl, hpl, T.cl, T.nT, pF_top p bl, p.many, 1, rfl, rfl, 1, _, rfl, ⟨by omega, by omega, by omega, by omega⟩, fun D nD => ?_⟩
    have en : (((p.many + 1 : Nat) : Int) - 1).toNat = p.many := by omega
    rw [en]
    refine lc_range (lo := 1) (n := p.many) (fun i H' => Same H H' ∧ H' D = some (.lst (((List.range' 1 i).map fun x => (Dg01.blocksWith p x).length).map vn))) ⟨same_upd nD, upd_same⟩ ?_ ?_
    · rintro i H' hi ⟨sm, hD⟩
      refine ⟨rfl, _, rfl, pl, C, dx, _, _, rfl, sm _ _ hpl, T.cl, T.nT |> fun _ => T.nB, pF_blocks p bl, _, rfl, (by show 1 ≤ sizeLine; decide), fun o no => ?_⟩
      have ei : V.int (1 + (i : Int)) = vn (1 + i) := by
        show V.int _ = V.int _
        congr 1
      have so := same_upd (o := .lst [V.int (1 + (i : Int))]) no
      refine ⟨o, [1 + i], rfl, .inl (.inl (by rw [upd_same, ei]; rfl)), by simp; omega, ?_⟩
      refine ⟨bl, masks p, maskOf [1 + i], rfl, .inl (.inl (so _ _ (sm _ _ hbl))), by rw [masks_length]; omega, fun H2 s2 => ?_⟩
      refine ⟨_, s2 _ _ (so _ _ hD), ?_, ?_, ?_⟩
      · rw [List.length_map, List.length_map, List.length_range']; exact small1000 (by omega)
      · intro b u e
        rw [upd_ne (ne_of_none e nD)]
        exact s2 _ _ (so _ _ (sm _ _ e))
      · rw [upd_same, cnt_one, List.range'_concat, List.map_append, List.map_append]
        simp
    · rintro H' ⟨sm, hD⟩
      refine Goes.pure q hP st sm nD ?_
      rw [ints_vn, points_range]
      exact hD
/-! ### meets -/
abbrev s_meets : Stmt := topS 50
theorem sc_meets : FnScope ["plan", "numbers"] ["plan", "numbers"] (defScope s_meets) := ⟨rfl, rfl, rfl, by decide +kernel, rfl, by decide +kernel, by decide +kernel⟩
theorem ok_meets {f : Addr} {fd : FuncData} (F : Fun K "meets_call" "meets_call" s_meets f fd) (T : Tx K mg C) (cc : Cl P w K mg base 2 "common_sizes" ["blocks"] (spCommon K)) : FnOk P w K mg base CX0 3 f fd ["plan", "numbers"] (spC K C 7) := by
  refine F.ok sc_meets (fun vs H Q E h => ?_) (fun cdv A outer s H vs Q E hr h => ?_)
  · obtain ⟨pl, bl, a, p, l, rfl, _⟩ := h
    rfl
  · obtain ⟨pl, bl, a, p, l, rfl, hP, hO, hA, hk, q⟩ := h
    obtain rfl := no_num (by simp) hk
    obtain ⟨dx, hpl⟩ := hP.ins
    have hbl := hP.lst
    have hfew := hO.few
    refine ⟨_, pss_one (ps_ret (pe_cl cc hr (by decide) (by rfl) (pa_cons (pe_fld (pv 0) rfl) pa_nil))), ?_⟩
    have st : stepN 7 [] p = (p, Dg01.ints (commons (masks p))) := by
      rw [← meets_is hO.wf]; rfl
    refine ⟨_, rfl, pl, C, dx, _, _, rfl, hpl, T.cl, T.nB, pF_blocks p bl, bl, masks p, rfl, .inl (.inl hbl), by rw [masks_length]; exact hfew, fun H' r sm nr hr => ?_⟩
    exact Goes.pure q hP st sm nr (by rw [ints_vn]; exact hr)
end
end Eb

set_option Elab.async false
set_option maxRecDepth 100000
set_option linter.all false
/-! The list of calls, read call by call. -/
namespace Eb
def up (l : List Nat) : List Int := l.map fun (n : Nat) => (n : Int)
def rowK (k : Nat) : Bool := k == 1 || k == 3
def oneK (k : Nat) : Bool := k == 0 || k == 2 || k == 4 || k == 10 || k == 11 || k == 12 || k == 13
theorem shape_row {k : Nat} (h : rowK k = true) : PyDg01.shape (k : Int) = some (0, 1) := by
  unfold rowK at h
  have : k = 1 ∨ k = 3 := by simpa using h
  rcases this with rfl | rfl <;> rfl
theorem shape_one {k : Nat} (h : oneK k = true) : PyDg01.shape (k : Int) = some (1, 0) := by
  unfold oneK at h
  have : k = 0 ∨ k = 2 ∨ k = 4 ∨ k = 10 ∨ k = 11 ∨ k = 12 ∨ k = 13 := by simpa [or_assoc] using h
  rcases this with rfl | rfl | rfl | rfl | rfl | rfl | rfl <;> rfl
theorem shape_cases {k : Nat} {z : Nat × Nat} (h : PyDg01.shape (k : Int) = some z) : k ≤ 15 ∧ (rowK k = true ∧ oneK k = false ∨ rowK k = false ∧ oneK k = true ∨ rowK k = false ∧ oneK k = false ∧ z = (0, 0)) := by
  have hk : k ≤ 15 := by
    apply Classical.byContradiction
    intro hn
    have e : ∀ m : Nat, m ≤ 15 → ¬ ((k : Int) = (m : Int)) := fun m hm h => by omega
    unfold PyDg01.shape at h
    simp only [show ¬ ((k : Int) = 0) by omega, show ¬ ((k : Int) = 1) by omega, show ¬ ((k : Int) = 2) by omega, show ¬ ((k : Int) = 3) by omega, show ¬ ((k : Int) = 4) by omega, show ¬ ((k : Int) = 5) by omega, show ¬ ((k : Int) = 6) by omega,
      show ¬ ((k : Int) = 7) by omega, show ¬ ((k : Int) = 8) by omega, show ¬ ((k : Int) = 9) by omega, show ¬ ((k : Int) = 10) by omega, show ¬ ((k : Int) = 11) by omega, show ¬ ((k : Int) = 12) by omega, show ¬ ((k : Int) = 13) by omega, show ¬ ((k : Int) = 14) by omega, show ¬ ((k : Int) = 15) by omega, if_false] at h
    cases h
  refine ⟨hk, ?_⟩
  have : k = 0 ∨ k = 1 ∨ k = 2 ∨ k = 3 ∨ k = 4 ∨ k = 5 ∨ k = 6 ∨ k = 7 ∨ k = 8 ∨ k = 9 ∨ k = 10 ∨ k = 11 ∨ k = 12 ∨ k = 13 ∨ k = 14 ∨ k = 15 := by omega
  rcases this with rfl | rfl | rfl | rfl | rfl | rfl | rfl | rfl | rfl | rfl | rfl | rfl | rfl | rfl | rfl | rfl <;> first
    | exact .inl ⟨rfl, rfl⟩
    | exact .inr (.inl ⟨rfl, rfl⟩)
    | exact .inr (.inr ⟨rfl, rfl, (Option.some.inj h).symm⟩)
theorem up_length (l : List Nat) : (up l).length = l.length := by unfold up; rw [List.length_map]
theorem up_take (l : List Nat) (n : Nat) : (up l).take n = up (l.take n) := by unfold up; rw [List.map_take]
theorem up_drop (l : List Nat) (n : Nat) : (up l).drop n = up (l.drop n) := by unfold up; rw [List.map_drop]
theorem whole_one {k v : Nat} (h : oneK k = true) : PyDg01.whole [[(k : Int), (v : Int)]] = [up [k, v]] := by
  unfold oneK at h
  have : k = 0 ∨ k = 2 ∨ k = 4 ∨ k = 10 ∨ k = 11 ∨ k = 12 ∨ k = 13 := by simpa [or_assoc] using h
  rcases this with rfl | rfl | rfl | rfl | rfl | rfl | rfl <;> rfl
theorem whole_row {k : Nat} {l : List Nat} (h : rowK k = true) : PyDg01.whole [[(k : Int)], up l] = [up (k :: l)] := by
  unfold rowK at h
  have : k = 1 ∨ k = 3 := by simpa using h
  rcases this with rfl | rfl <;> rfl
theorem whole_none {k : Nat} (hk : k ≤ 15) (h1 : rowK k = false) (h2 : oneK k = false) : PyDg01.whole [[(k : Int)]] = [up [k]] := by
  have : k = 0 ∨ k = 1 ∨ k = 2 ∨ k = 3 ∨ k = 4 ∨ k = 5 ∨ k = 6 ∨ k = 7 ∨ k = 8 ∨ k = 9 ∨ k = 10 ∨ k = 11 ∨ k = 12 ∨ k = 13 ∨ k = 14 ∨ k = 15 := by omega
  rcases this with rfl | rfl | rfl | rfl | rfl | rfl | rfl | rfl | rfl | rfl | rfl | rfl | rfl | rfl | rfl | rfl <;> first | (exact absurd h1 (by decide)) | (exact absurd h2 (by decide)) | rfl
theorem callIn_row {k : Nat} {l : List Nat} (h : rowK k = true) : (Dg01Neutral.callIn (k :: l)).isSome = true := by
  unfold rowK at h
  have : k = 1 ∨ k = 3 := by simpa using h
  rcases this with rfl | rfl
  · cases l <;> rfl
  · match l with
    | [] => rfl
    | [_] => rfl
    | _ :: _ :: _ => rfl
theorem callIn_one {k v : Nat} (h : oneK k = true) : (Dg01Neutral.callIn [k, v]).isSome = true := by
  unfold oneK at h
  have : k = 0 ∨ k = 2 ∨ k = 4 ∨ k = 10 ∨ k = 11 ∨ k = 12 ∨ k = 13 := by simpa [or_assoc] using h
  rcases this with rfl | rfl | rfl | rfl | rfl | rfl | rfl <;> rfl
theorem callIn_none {k : Nat} (hk : k ≤ 15) (h1 : rowK k = false) (h2 : oneK k = false) : (Dg01Neutral.callIn [k]).isSome = true := by
  have : k = 0 ∨ k = 1 ∨ k = 2 ∨ k = 3 ∨ k = 4 ∨ k = 5 ∨ k = 6 ∨ k = 7 ∨ k = 8 ∨ k = 9 ∨ k = 10 ∨ k = 11 ∨ k = 12 ∨ k = 13 ∨ k = 14 ∨ k = 15 := by omega
  rcases this with rfl | rfl | rfl | rfl | rfl | rfl | rfl | rfl | rfl | rfl | rfl | rfl | rfl | rfl | rfl | rfl <;> first | (exact absurd h1 (by decide)) | (exact absurd h2 (by decide)) | rfl
/-- the next call of the list -/
structure Turn (f : Nat) (k : Nat) (r : List Nat) (rs : List (List (List Int))) : Prop where
  ex : ∃ (l rest : List Nat) (c : List (List Int)) (rs2 : List (List (List Int))), k ≤ 15 ∧ (Dg01Neutral.callIn (k :: l)).isSome = true ∧
    (rowK k = true ∧ r = l.length :: (l ++ rest) ∨ rowK k = false ∧ oneK k = true ∧ (∃ v, l = [v]) ∧ r = l ++ rest ∨ rowK k = false ∧ oneK k = false ∧ l = [] ∧ r = rest) ∧
    rs = c :: rs2 ∧ PyFlat.calls PyDg01.shape f (up rest) = some rs2 ∧ (PyDg01.whole c).headD [] = up (k :: l)
theorem turn_of {f k : Nat} {r : List Nat} {rs : List (List (List Int))} (h : PyFlat.calls PyDg01.shape (f + 1) (up (k :: r)) = some rs) : Turn f k r rs := by
  have h' : (match PyFlat.call PyDg01.shape ((k : Int) :: up r) with
    | none => none
    | some (c, t) => match PyFlat.calls PyDg01.shape f t with
      | none => none
      | some cs => some (c :: cs)) = some rs := h
  cases hc : PyFlat.call PyDg01.shape ((k : Int) :: up r) with
  | none => rw [hc] at h'; cases h'
  | some ct =>
    obtain ⟨c, t⟩ := ct
    rw [hc] at h'
    have h2 : (match PyFlat.calls PyDg01.shape f t with
      | none => none
      | some cs => some (c :: cs)) = some rs := h'
    cases ht : PyFlat.calls PyDg01.shape f t with
    | none => rw [ht] at h2; cases h2
    | some rs2 =>
      rw [ht] at h2
      have ers : rs = c :: rs2 := (Option.some.inj h2).symm
      have hc' : (match PyDg01.shape (k : Int) with
        | none => none
        | some (n, j) => if (up r).length < n then none else match PyFlat.rows j ((up r).drop n) with
          | none => none
          | some (xs, t) => some (((k : Int) :: (up r).take n) :: xs, t)) = some (c, t) := hc
      cases hs : PyDg01.shape (k : Int) with
      | none => rw [hs] at hc'; cases hc'
      | some z =>
        obtain ⟨hk, hcase⟩ := shape_cases hs
        rcases hcase with ⟨h1, h2⟩ | ⟨h1, h2⟩ | ⟨h1, h2, hz⟩
        · -- a row
          rw [shape_row h1] at hc'
          have hc2 : (match PyFlat.rows 1 (up r) with
            | none => none
            | some (xs, t) => some ([(k : Int)] :: xs, t)) = some (c, t) := hc'
          match r, hc2 with
          | [], hc2 => cases hc2
          | n :: r', hc2 =>
            have hrow : PyFlat.row (up (n :: r')) = if 0 ≤ (n : Int) ∧ ((n : Int)).toNat ≤ (up r').length then some ((up r').take ((n : Int)).toNat, (up r').drop ((n : Int)).toNat) else none := rfl
            rw [up_length, up_take, up_drop, show ((n : Int)).toNat = n by omega] at hrow
            by_cases hn : 0 ≤ (n : Int) ∧ n ≤ r'.length
            · rw [if_pos hn] at hrow
              have hrows : PyFlat.rows 1 (up (n :: r')) = some ([up (r'.take n)], up (r'.drop n)) := by
                show (match PyFlat.row (up (n :: r')) with
                  | none => none
                  | some (x, s) => match PyFlat.rows 0 s with
                    | none => none
                    | some (xs, t) => some (x :: xs, t)) = _
                rw [hrow]
                rfl
              rw [hrows] at hc2
              have e := Option.some.inj hc2
              have e1 : c = [[(k : Int)], up (r'.take n)] := (congrArg Prod.fst e).symm
              have e2 : t = up (r'.drop n) := (congrArg Prod.snd e).symm
              refine ⟨r'.take n, r'.drop n, c, rs2, hk, callIn_row h1, .inl ⟨h1, ?_⟩, ers, by rw [← e2]; exact ht, ?_⟩
              · rw [List.take_append_drop, List.length_take, Nat.min_eq_left hn.2]
              · rw [e1, whole_row h1]; rfl
            · rw [if_neg hn] at hrow
              have hrows : PyFlat.rows 1 (up (n :: r')) = none := by
                show (match PyFlat.row (up (n :: r')) with
                  | none => none
                  | some (x, s) => match PyFlat.rows 0 s with
                    | none => none
                    | some (xs, t) => some (x :: xs, t)) = _
                rw [hrow]
              rw [hrows] at hc2
              cases hc2
        · -- one number
          rw [shape_one h2] at hc'
          have hc2 : (if (up r).length < 1 then none else some (((k : Int) :: (up r).take 1) :: [], (up r).drop 1)) = some (c, t) := hc'
          match r, hc2 with
          | [], hc2 => cases hc2
          | v :: r', hc2 =>
            have e := Option.some.inj hc2
            have e1 : c = [[(k : Int), (v : Int)]] := (congrArg Prod.fst e).symm
            have e2 : t = up r' := (congrArg Prod.snd e).symm
            refine ⟨[v], r', c, rs2, hk, callIn_one h2, .inr (.inl ⟨h1, h2, ⟨v, rfl⟩, rfl⟩), ers, by rw [← e2]; exact ht, ?_⟩
            rw [e1, whole_one h2]; rfl
        · rw [hs, hz] at hc'
          have hc2 : some ([[(k : Int)]], up r) = some (c, t) := hc'
          have e := Option.some.inj hc2
          have e1 : c = [[(k : Int)]] := (congrArg Prod.fst e).symm
          have e2 : t = up r := (congrArg Prod.snd e).symm
          refine ⟨[], r, c, rs2, hk, callIn_none hk h1 h2, .inr (.inr ⟨h1, h2, rfl, rfl⟩), ers, by rw [← e2]; exact ht, ?_⟩
          rw [e1, whole_none hk h1 h2]; rfl
theorem e32 : (2 : Int) ^ 32 = 4294967296 := rfl
theorem nat_ok {x : Nat} (h : x < 4294967296) : Dg01Neutral.nat (x : Int) = true := by
  have g2 : (x : Int) < 2 ^ 32 := by rw [e32]; omega
  unfold Dg01Neutral.nat
  simp only [Bool.and_eq_true, decide_eq_true_eq]
  exact ⟨by omega, g2⟩
theorem up_toNat (l : List Nat) : (up l).map Int.toNat = l := by
  unfold up
  rw [List.map_map]
  have : (Int.toNat ∘ fun (n : Nat) => (n : Int)) = id := by funext n; simp
  rw [this, List.map_id]
theorem callOf_up {l : List Nat} (h : ∀ x ∈ l, x < 4294967296) : Dg01Neutral.callOf (up l) = Dg01Neutral.callIn l := by
  have h1 : (up l).all Dg01Neutral.nat = true := by
    rw [List.all_eq_true]
    intro z hz
    unfold up at hz
    obtain ⟨x, hx, rfl⟩ := List.mem_map.mp hz
    exact nat_ok (h x hx)
  unfold Dg01Neutral.callOf
  rw [h1, up_toNat]
  rfl
theorem step_is (s : Dg01.Plan) (l : List Int) : Dg01Neutral.step s l = stepX s (Dg01Neutral.callOf l) := by
  unfold Dg01Neutral.step
  generalize Dg01Neutral.callOf l = z
  cases z <;> rfl
theorem step_up {k : Nat} {l : List Nat} (s : Dg01.Plan) (h : ∀ x ∈ k :: l, x < 4294967296) : Dg01Neutral.step s (up (k :: l)) = stepN k l s :=
  (step_is s _).trans (congrArg (stepX s) (callOf_up h))
/-- what is told of raw calls, from a plan on -/
def toldR (s : Dg01.Plan) (rs : List (List (List Int))) : List Int := PyFlat.told (PyFlat.played (fun s c => Dg01Neutral.step s (c.headD [])) s (rs.map PyDg01.whole))
theorem toldR_nil (s : Dg01.Plan) : toldR s [] = [] := rfl
theorem toldR_cons (s : Dg01.Plan) (c : List (List Int)) (rs : List (List (List Int))) {k : Nat} {l : List Nat} (hw : (PyDg01.whole c).headD [] = up (k :: l)) (h : ∀ x ∈ k :: l, x < 4294967296) :
    toldR s (c :: rs) = (((stepN k l s).2.length : Int) :: (stepN k l s).2) ++ toldR (stepN k l s).1 rs := by
  have : toldR s (c :: rs) = (((Dg01Neutral.step s ((PyDg01.whole c).headD [])).2.length : Int) :: (Dg01Neutral.step s ((PyDg01.whole c).headD [])).2) ++ toldR (Dg01Neutral.step s ((PyDg01.whole c).headD [])).1 rs := rfl
  rw [this, hw, step_up s h]
theorem answers_toldR {l : List Int} {rs : List (List (List Int))} (h : PyFlat.calls PyDg01.shape l.length l = some rs) : PyDg01.answers l = toldR Dg01.init rs := by
  unfold PyDg01.answers PyDg01.calls
  rw [h]
  rfl
end Eb

set_option Elab.async false
set_option maxRecDepth 100000
set_option maxHeartbeats 2000000
set_option linter.all false
namespace Eb
open PySem PySem.Spec PyProof.Rows L2
/-- a tuple of the module's top -/
structure Tp (K : PySem.W.Frag) (mg : Str → Option Value) (x : Str) (xs : List V) : Prop where
  ex : ∃ a, G mg x (.ref a) ∧ ∀ H, SqT K H a xs
/-- x in a tuple of the top -/
theorem eqV_nat (a k : Nat) : eqV (vn a) (vn k) = (k == a) := by
  have h : eqV (vn a) (vn k) = ((a : Int) == (k : Int)) := rfl
  rw [h]
  by_cases c : a = k
  · subst c
    rw [beq_self_eq_true, beq_self_eq_true]
  · rw [beq_eq_false_iff_ne.mpr (show ((a : Int)) ≠ (k : Int) by omega), beq_eq_false_iff_ne.mpr (show k ≠ a from fun z => c z.symm)]
def rowVs : List V := [vn 1, vn 3]
theorem in_row (k : Nat) : inV (vn k) rowVs = rowK k := by
  unfold inV rowVs rowK
  simp only [List.any_cons, List.any_nil, eqV_nat, Bool.or_false]
def oneVs : List V := [vn 0, vn 2, vn 4, vn 10, vn 11, vn 12, vn 13]
theorem in_one (k : Nat) : inV (vn k) oneVs = oneK k := by
  unfold inV oneVs oneK
  simp only [List.any_cons, List.any_nil, eqV_nat, Bool.or_false, Bool.or_assoc]
section
variable {P : Program} {w : World} {K : PySem.W.Frag} {mg : Str → Option Value} {base : Heap} {C : Addr}
/-! ### where a call's numbers stand -/
abbrev s_start : Stmt := topS 65
theorem sc_start : FnScope ["call", "place"] ["call", "place"] (defScope s_start) := ⟨rfl, rfl, rfl, by decide +kernel, rfl, by decide +kernel, by decide +kernel⟩
def startN (k place : Nat) : Nat := if rowK k = true then place + 2 else place + 1
def spStart : Sp := fun vs H Q _ => ∃ (k place : Nat), vs = [vn k, vn place] ∧ Q (vn (startN k place)) H
theorem ok_start {f : Addr} {fd : FuncData} (F : Fun K "numbers_start" "numbers_start" s_start f fd) (R : Tp K mg "ROW_CALLS" rowVs) : FnOk P w K mg base CX0 1 f fd ["call", "place"] spStart := by
  refine F.ok sc_start (fun vs H Q E h => ?_) (fun cdv A outer s H vs Q E hr h => ?_)
  · obtain ⟨k, place, rfl, _⟩ := h
    rfl
  · obtain ⟨k, place, rfl, q⟩ := h
    obtain ⟨aR, gR, sR⟩ := R.ex
    refine ⟨_, pss_cons (ps_if (pt_cmpR op_in_seq (pv 0) (pe_g gR) rfl) (pss_one (ps_ret (pe_op op_addN (pv 1) pe_int))) pss_nil) (pss_one (ps_ret (pe_op op_addN (pv 1) pe_int))), ?_⟩
    refine ⟨_, rfl, aR, rowVs, rfl, .inr (sR H), rfl, rfl, _, rfl, ?_⟩
    show if inV (vn k) rowVs = true then _ else _
    rw [in_row]
    unfold startN at q
    refine ite2 (fun c => ?_) (fun c => ?_)
    · rw [if_pos c] at q
      exact ⟨_, rfl, place, 2, rfl, rfl, q⟩
    · rw [if_neg c] at q
      exact ⟨_, rfl, place, 1, rfl, rfl, q⟩
abbrev s_length : Stmt := topS 66
theorem sc_length : FnScope ["calls", "place"] ["calls", "place"] (defScope s_length) := ⟨rfl, rfl, rfl, by decide +kernel, rfl, by decide +kernel, by decide +kernel⟩
def lengthN (L : List Nat) (k place : Nat) : Nat := if rowK k = true then L.getD (place + 1) 0 else if oneK k = true then 1 else 0
def spLength (K : PySem.W.Frag) : Sp := fun vs H Q _ => ∃ (a : Addr) (L : List Nat) (k place : Nat), vs = [.ref a, vn place] ∧ SqL K H a (L.map vn) ∧ L[place]? = some k ∧ (rowK k = true → place + 1 < L.length) ∧ Q (vn (lengthN L k place)) H
theorem ok_length {f : Addr} {fd : FuncData} (F : Fun K "numbers_length" "numbers_length" s_length f fd) (R : Tp K mg "ROW_CALLS" rowVs) (O : Tp K mg "NUMBER_CALLS" oneVs) : FnOk P w K mg base CX0 1 f fd ["calls", "place"] (spLength K) := by
  refine F.ok sc_length (fun vs H Q E h => ?_) (fun cdv A outer s H vs Q E hr h => ?_)
  · obtain ⟨a, L, k, place, rfl, _⟩ := h
    rfl
  · obtain ⟨a, L, k, place, rfl, hA, hk, hrow, q⟩ := h
    obtain ⟨aR, gR, sR⟩ := R.ex
    obtain ⟨aO, gO, sO⟩ := O.ex
    refine ⟨_, pss_cons (ps_if (pt_cmpR op_in_seq (pe_ix ix_list (pv 0) (pv 1) (fun _ _ => rfl)) (pe_g gR) rfl) (pss_one (ps_ret (pe_ix ix_list (pv 0) (pe_op op_addN (pv 1) pe_int) (fun _ _ => rfl)))) pss_nil)
      (pss_cons (ps_if (pt_cmpR op_in_seq (pe_ix ix_list (pv 0) (pv 1) (fun _ _ => rfl)) (pe_g gO) rfl) (pss_one (ps_ret pe_int)) pss_nil)
      (pss_one (ps_ret pe_int))), ?_⟩
    have hat : atI (L.map vn) (place : Int) = some (vn k) := atI_nat (by rw [List.getElem?_map, hk]; rfl)
    unfold lengthN at q
    refine ⟨_, rfl, _, rfl, a, _, (place : Int), _, rfl, rfl, hA, hat, aR, rowVs, rfl, .inr (sR H), rfl, rfl, _, rfl, ?_⟩
    show if inV (vn k) rowVs = true then _ else _
    rw [in_row]
    refine ite2 (fun c => ?_) (fun c => ?_)
    · rw [if_pos c] at q
      have hlt := hrow c
      have hat2 : atI (L.map vn) ((place + 1 : Nat) : Int) = some (vn (L.getD (place + 1) 0)) := atI_nat (by
        rw [List.getElem?_map, List.getElem?_eq_getElem hlt, List.getD_eq_getElem?_getD, List.getElem?_eq_getElem hlt]; rfl)
      exact ⟨_, rfl, _, rfl, place, 1, rfl, rfl, a, _, _, _, rfl, rfl, hA, hat2, q⟩
    · rw [if_neg c] at q
      refine ⟨_, rfl, _, rfl, a, _, (place : Int), _, rfl, rfl, hA, hat, aO, oneVs, rfl, .inr (sO H), rfl, rfl, _, rfl, ?_⟩
      show if inV (vn k) oneVs = true then _ else _
      rw [in_one]
      refine ite2 (fun d => ?_) (fun d => ?_)
      · rw [if_pos d] at q
        exact q
      · rw [if_neg d] at q
        exact q
/-! ### a new plan -/
abbrev s_init : Stmt := inClass (topS 42) 0
theorem sc_init : FnScope ["self"] ["self"] (defScope s_init) := ⟨rfl, rfl, rfl, by decide +kernel, rfl, by decide +kernel, by decide +kernel⟩
def spInit (C : Addr) : Sp := fun vs H Q _ => ∃ (p dx : Addr), vs = [.ref p] ∧ H p = some (.ins C dx []) ∧
  ∀ (H' : Hp) bl, PlanAt C H' p bl Dg01.init → H bl = none → (∀ b o, H b = some o → b ≠ p → H' b = some o) → Q .non H'
theorem pF_new (bl : Addr) : putF ("blocks" : Str) (.ref bl) (putF ("top" : Str) (.int 1) []) = pF Dg01.init bl := (put_past (f := ("blocks" : Str)) (g := ("top" : Str)) (by decide +kernel)).trans rfl
theorem ok_init {f : Addr} {fd : FuncData} (F : Fun K "__init__" "Plan.__init__" s_init f fd) (T : Tx K mg C) : FnOk P w K mg base CX0 1 f fd ["self"] (spInit C) := by
  refine F.ok sc_init (fun vs H Q E h => ?_) (fun cdv A outer s H vs Q E hr h => ?_)
  · obtain ⟨p, dx, rfl, _⟩ := h
    rfl
  · obtain ⟨p, dx, rfl, hp, q⟩ := h
    refine ⟨_, pss_cons (ps_fld (pv 0) pe_int rfl) (pss_one (ps_fld (pv 0) (pe_lst pa_nil) rfl)), ?_⟩
    refine ⟨_, rfl, p, C, dx, [], rfl, hp, T.cl, T.nT, (by show 0 < 1000; decide), ?_⟩
    refine ⟨Nat.zero_le _, fun o no => ?_⟩
    have nop : p ≠ o := by
      intro e
      rw [← e, upd_same] at no
      cases no
    have hno : H o = none := by rw [upd_ne nop.symm] at no; exact no
    refine ⟨_, rfl, p, C, dx, _, rfl, (upd_ne nop).trans upd_same, T.cl, T.nB, (by show 1 < 1000; decide), ?_⟩
    refine q _ o ⟨⟨dx, Eq.trans upd_same (congrArg (fun z => some (HO.ins C dx z)) (pF_new o))⟩, ?_⟩ hno (fun b u e h1 => ?_)
    · rw [upd_ne nop.symm, upd_same]
      rfl
    · rw [upd_ne h1, upd_ne (ne_of_none e hno), upd_ne h1]
      exact e
/-! ### answers -/
abbrev s_answers : Stmt := topS 67
theorem sc_answers : FnScope ["calls", "plan", "told", "place", "call", "start", "end", "answer"] ["calls"] (defScope s_answers) := ⟨rfl, rfl, rfl, by decide +kernel, rfl, by decide +kernel, by decide +kernel⟩
def spAns (K : PySem.W.Frag) : Sp := fun vs H Q _ => ∃ (a : Addr) (ns : List Int), vs = [.ref a] ∧ SqL K H a (ns.map V.int) ∧ (∀ x ∈ ns, 0 ≤ x ∧ x ≤ 4294967295) ∧ PyDg01.answers_asked ns = true ∧
  ∀ (H' : Hp) (p : Addr), H' p = some (.lst ((PyDg01.answers ns).map V.int)) → Q (.ref p) H'
/-- all the calls: the table and what stands at each place -/
structure Table (P : Program) (w : World) (K : PySem.W.Frag) (mg : Str → Option Value) (base : Heap) (C : Addr) (k : Nat) : Prop where
  ex : ∃ (a : Addr) (fs : List Addr), G mg "CALLS" (.ref a) ∧ (∀ H, SqT K H a (fs.map V.ref)) ∧ ∀ i, i ≤ 15 → ∃ f, fs[i]? = some f ∧ Held P w K mg base k f (spC K C i)
theorem asked_calls {ns : List Int} (h : PyDg01.answers_asked ns = true) : ∃ rs, PyFlat.calls PyDg01.shape ns.length ns = some rs ∧ (PyDg01.answers ns).length ≤ 10000000 := by
  unfold PyDg01.answers_asked at h
  cases hc : PyFlat.calls PyDg01.shape ns.length ns with
  | none => rw [hc] at h; cases h
  | some rs =>
    rw [hc] at h
    refine ⟨rs, rfl, ?_⟩
    have h2 := (Bool.and_eq_true _ _ |>.mp h).2
    unfold PyFlat.short at h2
    exact of_decide_eq_true h2
theorem up_of {ns : List Int} (h : ∀ x ∈ ns, 0 ≤ x ∧ x ≤ 4294967295) : ∃ L : List Nat, ns = up L ∧ ∀ x ∈ L, x < 4294967296 := by
  refine ⟨ns.map Int.toNat, ?_, fun x hx => ?_⟩
  · unfold up
    rw [List.map_map]
    conv => lhs; rw [← List.map_id ns]
    apply List.map_congr_left
    intro x hx
    have := h x hx
    show x = ((x.toNat : Nat) : Int)
    omega
  · obtain ⟨z, hz, rfl⟩ := List.mem_map.mp hx
    have := h z hz
    omega
theorem up_vn (L : List Nat) : (up L).map V.int = L.map vn := by unfold up; rw [List.map_map]; rfl
end
end Eb

set_option Elab.async false
set_option maxRecDepth 100000
set_option linter.all false
/-! What each call makes of a good plan is a good plan. -/
namespace Eb
open Dg01 (Plan points common isSet turned filled anew around away inside outside become blocksWith)
theorem norm_filter (pts : List Nat) (q : Nat → Bool) : Norm pts (pts.filter q) := by
  unfold Norm
  apply List.filter_congr
  intro x hx
  rw [Bool.eq_iff_iff]
  simp [hx]
theorem ok_filled {p : Plan} (h : Ok p) : Ok (filled p) := by
  refine ⟨⟨fun b hb => ?_⟩, h.lo, h.hi, ?_⟩
  · obtain ⟨c, hc, rfl⟩ := List.mem_map.mp hb
    exact norm_filter _ _
  · show (p.blocks.map _).length ≤ 20
    rw [List.length_map]; exact h.few
theorem turned_wf (p : Plan) : Wf (turned p) := by
  refine ⟨fun b hb => ?_⟩
  obtain ⟨x, hx, rfl⟩ := List.mem_map.mp hb
  rw [norm_iff, isSet_iff]
  refine ⟨?_, fun y hy => ?_⟩
  · rw [List.pairwise_map]
    exact ((List.pairwise_lt_range (n := p.blocks.length)).sublist List.filter_sublist).imp (fun h => by omega)
  · obtain ⟨i, hi, rfl⟩ := List.mem_map.mp hy
    have := (List.mem_filter.mp hi).1
    rw [List.mem_range] at this
    show 1 ≤ i + 1 ∧ i + 1 ≤ p.blocks.length
    omega
theorem ok_turned {p : Plan} (h : Ok p) (h0 : ¬ p.blocks.length = 0) : Ok (turned p) := by
  refine ⟨turned_wf p, ?_, h.few, ?_⟩
  · show 1 ≤ p.blocks.length
    omega
  · show ((points p).map _).length ≤ 20
    rw [List.length_map, points_length]; exact h.hi
/-! ### points numbered anew -/
/-- the points that stay -/
def kept (p : Plan) (gone : List Nat) : List Nat := (points p).filter fun x => !gone.contains x
/-- how many of some stand below -/
def below (l : List Nat) (x : Nat) : Nat := (l.filter fun y => decide (y < x)).length
theorem below_points (p : Plan) {x : Nat} (h1 : 1 ≤ x) (h2 : x ≤ p.many) : below (points p) x = x - 1 := by
  unfold below
  rw [points_range]
  have e : p.many = (x - 1) + (p.many - (x - 1)) := by omega
  rw [e, ← List.range'_append_1, List.filter_append]
  have f1 : (List.range' 1 (x - 1)).filter (fun y => decide (y < x)) = List.range' 1 (x - 1) := by
    rw [List.filter_eq_self]
    intro a ha
    rw [List.mem_range'_1] at ha
    exact decide_eq_true (by omega)
  have f2 : (List.range' (1 + (x - 1)) (p.many - (x - 1))).filter (fun y => decide (y < x)) = [] := by
    rw [List.filter_eq_nil_iff]
    intro a ha
    rw [List.mem_range'_1] at ha
    simp; omega
  rw [f1, f2, List.append_nil, List.length_range']
theorem split_len (g q : Nat → Bool) : ∀ (l : List Nat), (l.filter q).length = ((l.filter g).filter q).length + ((l.filter fun x => !g x).filter q).length
  | [] => rfl
  | a :: l => by
    have ih := split_len g q l
    cases hc : g a with
    | true =>
      rw [List.filter_cons_of_pos (p := g) hc, List.filter_cons_of_neg (p := fun x => !g x) (by simp [hc])]
      cases hd : q a with
      | true => rw [List.filter_cons_of_pos hd, List.filter_cons_of_pos hd, List.length_cons, List.length_cons]; omega
      | false => rw [List.filter_cons_of_neg (by simp [hd]), List.filter_cons_of_neg (by simp [hd])]; exact ih
    | false =>
      rw [List.filter_cons_of_neg (p := g) (by simp [hc]), List.filter_cons_of_pos (p := fun x => !g x) (by simp [hc])]
      cases hd : q a with
      | true => rw [List.filter_cons_of_pos hd, List.filter_cons_of_pos hd, List.length_cons, List.length_cons]; omega
      | false => rw [List.filter_cons_of_neg (by simp [hd]), List.filter_cons_of_neg (by simp [hd])]; exact ih
theorem below_split (p : Plan) {gone : List Nat} (hg : Norm (points p) gone) (x : Nat) : below (points p) x = below gone x + below (kept p gone) x := by
  unfold below kept
  have e : (gone.filter fun y => decide (y < x)) = ((points p).filter gone.contains).filter fun y => decide (y < x) := by
    conv => lhs; rw [hg]
  rw [e]
  exact split_len gone.contains _ (points p)
theorem anew_eq {p : Plan} {gone l : List Nat} (hg : Norm (points p) gone) (hl : ∀ x ∈ l, 1 ≤ x ∧ x ≤ p.many) : anew gone l = (l.filter fun x => !gone.contains x).map fun x => below (kept p gone) x + 1 := by
  unfold anew
  apply List.map_congr_left
  intro x hx
  have hm := (List.mem_filter.mp hx).1
  have h1 := hl x hm
  have h2 := below_points p h1.1 h1.2
  have h3 := below_split p hg x
  show x - below gone x = _
  omega
theorem below_lt {l : List Nat} {x y : Nat} (hx : x ∈ l) (h : x < y) : below l x < below l y := by
  unfold below
  induction l with
  | nil => cases hx
  | cons a l ih =>
    have mono : ∀ (l : List Nat), (l.filter fun z => decide (z < x)).length ≤ (l.filter fun z => decide (z < y)).length := by
      intro l
      induction l with
      | nil => simp
      | cons a l ih =>
        simp only [List.filter_cons]
        by_cases c : a < x
        · have d : a < y := by omega
          simp [c, d]; omega
        · by_cases d : a < y <;> simp [c, d] <;> omega
    simp only [List.filter_cons]
    rcases List.mem_cons.mp hx with e | hx
    · subst e
      have := mono l
      simp [h]; omega
    · have := ih hx
      by_cases c : a < x
      · have d : a < y := by omega
        simp [c, d]; omega
      · by_cases d : a < y <;> simp [c, d] <;> omega
theorem below_mem {l : List Nat} {x : Nat} (hx : x ∈ l) : below l x < l.length := by
  unfold below
  induction l with
  | nil => cases hx
  | cons a l ih =>
    have := List.length_filter_le (fun y => decide (y < x)) l
    rw [List.filter_cons, List.length_cons]
    rcases List.mem_cons.mp hx with e | hx
    · subst e
      simp; omega
    · have := ih hx
      by_cases c : a < x
      · rw [if_pos (decide_eq_true c), List.length_cons]; omega
      · rw [if_neg (by simpa using c)]; omega
theorem kept_length {p : Plan} {gone : List Nat} (hg : Norm (points p) gone) : (kept p gone).length = p.many - gone.length := by
  have h1 : gone.length = ((points p).filter gone.contains).length := congrArg List.length hg
  have h2 : (points p).length = ((points p).filter gone.contains).length + (kept p gone).length := by
    have := split_len gone.contains (fun _ => true) (points p)
    have ft : ∀ (l : List Nat), l.filter (fun _ => true) = l := fun l => List.filter_eq_self.mpr (fun _ _ => rfl)
    rw [ft, ft, ft] at this
    exact this
  rw [points_length] at h2
  omega
theorem anew_set {p : Plan} {gone l : List Nat} (hg : Norm (points p) gone) (hl : Norm (points p) l) (q : Plan) (hq : q.many = p.many - gone.length) : Norm (points q) (anew gone l) := by
  have hm : ∀ x ∈ l, 1 ≤ x ∧ x ≤ p.many := fun x hx => hl.mem hx
  have hk : ∀ x ∈ l.filter (fun x => !gone.contains x), x ∈ kept p gone := by
    intro x hx
    have := List.mem_filter.mp hx
    unfold kept
    rw [List.mem_filter]
    exact ⟨(mem_points p x).mpr (hm x this.1), this.2⟩
  rw [anew_eq hg hm, norm_iff, isSet_iff]
  refine ⟨?_, fun y hy => ?_⟩
  · rw [List.pairwise_map]
    have hs : l.Pairwise (· < ·) := ((isSet_iff p l).mp ((norm_iff p l).mp hl)).1
    have hs2 := hs.sublist (List.filter_sublist (p := fun x => !gone.contains x))
    refine List.Pairwise.imp_of_mem (fun {a b} ha hb hab => ?_) hs2
    have := below_lt (hk a ha) hab
    omega
  · obtain ⟨x, hx, rfl⟩ := List.mem_map.mp hy
    have := below_mem (hk x hx)
    rw [kept_length hg] at this
    omega
theorem norm_one {p : Plan} {x : Nat} (h1 : 1 ≤ x) (h2 : x ≤ p.many) : Norm (points p) [x] := by
  rw [norm_iff, isSet_iff]
  exact ⟨by simp, fun y hy => by have : y = x := by simpa using hy
                                 omega⟩
theorem ok_around {p : Plan} (h : Ok p) {x : Nat} (h1 : 1 ≤ x) (h2 : x ≤ p.many) (h0 : ¬ p.many - 1 = 0) : Ok (around p x) := by
  refine ⟨⟨fun b hb => ?_⟩, ?_, ?_, ?_⟩
  · obtain ⟨c, hc, rfl⟩ := List.mem_map.mp hb
    exact anew_set (norm_one h1 h2) (h.wf.norm c (List.mem_filter.mp hc).1) _ rfl
  · show 1 ≤ p.many - 1
    omega
  · show p.many - 1 ≤ 20
    have := h.hi
    omega
  · show ((blocksWith p x).map _).length ≤ 20
    rw [List.length_map]
    exact Nat.le_trans (List.length_filter_le _ _) h.few
theorem ok_away {p : Plan} (h : Ok p) {x : Nat} (h1 : 1 ≤ x) (h2 : x ≤ p.many) (h0 : ¬ p.many - 1 = 0) : Ok (away p x) := by
  refine ⟨⟨fun b hb => ?_⟩, ?_, ?_, ?_⟩
  · obtain ⟨c, hc, rfl⟩ := List.mem_map.mp hb
    exact anew_set (norm_one h1 h2) (h.wf.norm c (List.mem_filter.mp hc).1) _ rfl
  · show 1 ≤ p.many - 1
    omega
  · show p.many - 1 ≤ 20
    have := h.hi
    omega
  · show ((p.blocks.filter _).map _).length ≤ 20
    rw [List.length_map]
    exact Nat.le_trans (List.length_filter_le _ _) h.few
theorem getD_mem {p : Plan} {i : Nat} (hi : i < p.blocks.length) : p.blocks.getD i [] ∈ p.blocks := by
  rw [List.getD_eq_getElem?_getD, List.getElem?_eq_getElem hi]
  exact List.getElem_mem hi
theorem mem_others {p : Plan} {i : Nat} {c : List Nat} (h : c ∈ p.blocks.take i ++ p.blocks.drop (i + 1)) : c ∈ p.blocks := by
  rcases List.mem_append.mp h with h | h
  · exact List.mem_of_mem_take h
  · exact List.mem_of_mem_drop h
theorem others_length (p : Plan) (i : Nat) : (p.blocks.take i ++ p.blocks.drop (i + 1)).length ≤ p.blocks.length := by
  rw [List.length_append, List.length_take, List.length_drop]; omega
/-- the points that a block hasn't -/
def outs (p : Plan) (b : List Nat) : List Nat := (points p).filter fun x => !b.contains x
theorem outs_length {p : Plan} {b : List Nat} (hb : Norm (points p) b) : p.many - (outs p b).length = b.length := by
  have h := kept_length hb
  have hl : b.length ≤ p.many := by
    have : b.length = ((points p).filter b.contains).length := congrArg List.length hb
    rw [this, ← points_length p]
    exact List.length_filter_le _ _
  show p.many - (kept p b).length = b.length
  omega
theorem norm_common {p : Plan} {c b : List Nat} (hc : Norm (points p) c) : Norm (points p) (common c b) := by
  rw [norm_iff, isSet_iff] at hc ⊢
  unfold common
  exact ⟨hc.1.sublist List.filter_sublist, fun x hx => hc.2 x (List.mem_filter.mp hx).1⟩
theorem ok_inside {p : Plan} (h : Ok p) {i : Nat} (hi : i < p.blocks.length) (h0 : ¬ (p.blocks.getD i []).length = 0) : Ok (inside p i) := by
  have hb := h.wf.norm _ (getD_mem hi)
  have hle := len_le h.wf (getD_mem hi)
  refine ⟨⟨fun b hb' => ?_⟩, ?_, ?_, ?_⟩
  · obtain ⟨c, hc, rfl⟩ := List.mem_map.mp hb'
    exact anew_set (norm_filter _ _) (norm_common (h.wf.norm c (mem_others hc))) _ (outs_length hb).symm
  · show 1 ≤ (p.blocks.getD i []).length
    omega
  · show (p.blocks.getD i []).length ≤ 20
    have := h.hi
    omega
  · show ((p.blocks.take i ++ p.blocks.drop (i + 1)).map _).length ≤ 20
    rw [List.length_map]
    exact Nat.le_trans (others_length p i) h.few
theorem ok_outside {p : Plan} (h : Ok p) {i : Nat} (hi : i < p.blocks.length) (h0 : ¬ p.many - (p.blocks.getD i []).length = 0) : Ok (outside p i) := by
  have hb := h.wf.norm _ (getD_mem hi)
  refine ⟨⟨fun b hb' => ?_⟩, ?_, ?_, ?_⟩
  · obtain ⟨c, hc, rfl⟩ := List.mem_map.mp hb'
    exact anew_set hb (h.wf.norm c (mem_others hc)) _ rfl
  · show 1 ≤ p.many - (p.blocks.getD i []).length
    omega
  · show p.many - (p.blocks.getD i []).length ≤ 20
    have := h.hi
    omega
  · show ((p.blocks.take i ++ p.blocks.drop (i + 1)).map _).length ≤ 20
    rw [List.length_map]
    exact Nat.le_trans (others_length p i) h.few
theorem ok_become {p q : Plan} (h : Ok p) (hq : ¬ q.many = 0 → Ok q) : Ok (become p q).1 := by
  unfold become
  by_cases c : q.many = 0 ∨ 20 < q.many
  · rw [if_pos c]; exact h
  · rw [if_neg c]; exact hq (fun z => c (.inl z))
theorem step_ok {p : Plan} (h : Ok p) (c : Dg01.Call) : Ok (Dg01.step p c).1 := by
  cases c with
  | points v =>
    show Ok (if v = 0 ∨ 16 < v then (p, [-1]) else (⟨v, []⟩, [0])).1
    by_cases c : v = 0 ∨ 16 < v
    · rw [if_pos c]; exact h
    · rw [if_neg c]; exact Ok.points (by omega) (by omega)
  | block l =>
    show Ok (if isSet p l = false then (p, [-1]) else if 20 ≤ p.blocks.length then (p, [-5]) else ({ p with blocks := p.blocks ++ [l] }, Dg01.ints [p.blocks.length])).1
    by_cases c : isSet p l = false
    · rw [if_pos c]; exact h
    · rw [if_neg c]
      by_cases d : 20 ≤ p.blocks.length
      · rw [if_pos d]; exact h
      · rw [if_neg d]; exact h.block (by simpa using c) (by omega)
  | gone n =>
    show Ok (if p.blocks.length ≤ n then (p, [-2]) else ({ p with blocks := p.blocks.take n ++ p.blocks.drop (n + 1) }, Dg01.ints [p.blocks.length - 1])).1
    by_cases c : p.blocks.length ≤ n
    · rw [if_pos c]; exact h
    · rw [if_neg c]; exact h.gone n
  | together l => exact h
  | even t => exact h
  | strength => exact h
  | degrees => exact h
  | meets => exact h
  | turn => exact ok_become h (fun z => ok_turned h z)
  | fill => exact ok_become h (fun _ => ok_filled h)
  | around x =>
    show Ok (if x = 0 ∨ p.many < x then (p, [-1]) else become p (Dg01.around p x)).1
    by_cases c : x = 0 ∨ p.many < x
    · rw [if_pos c]; exact h
    · rw [if_neg c]; exact ok_become h (fun z => ok_around h (by omega) (by omega) z)
  | away x =>
    show Ok (if x = 0 ∨ p.many < x then (p, [-1]) else become p (Dg01.away p x)).1
    by_cases c : x = 0 ∨ p.many < x
    · rw [if_pos c]; exact h
    · rw [if_neg c]; exact ok_become h (fun z => ok_away h (by omega) (by omega) z)
  | inside n =>
    show Ok (if p.blocks.length ≤ n then (p, [-2]) else become p (Dg01.inside p n)).1
    by_cases c : p.blocks.length ≤ n
    · rw [if_pos c]; exact h
    · rw [if_neg c]; exact ok_become h (fun z => ok_inside h (by omega) z)
  | outside n =>
    show Ok (if p.blocks.length ≤ n then (p, [-2]) else become p (Dg01.outside p n)).1
    by_cases c : p.blocks.length ≤ n
    · rw [if_pos c]; exact h
    · rw [if_neg c]; exact ok_become h (fun z => ok_outside h (by omega) z)
  | classes => exact h
  | blocks => exact h
theorem stepN_ok {p : Plan} (h : Ok p) (k : Nat) (l : List Nat) : Ok (stepN k l p).1 := by
  unfold stepN
  cases Dg01Neutral.callIn (k :: l) with
  | none => exact h
  | some c => exact step_ok h c
end Eb

set_option Elab.async false
set_option maxRecDepth 100000
set_option maxHeartbeats 2000000
set_option linter.all false
namespace Eb
open PySem PySem.Spec PyProof.Rows L2
section
variable {P : Program} {w : World} {K : PySem.W.Frag} {mg : Str → Option Value} {base : Heap} {C : Addr}
theorem calls_nil (f : Nat) : PyFlat.calls PyDg01.shape f [] = some [] := by cases f <;> rfl
theorem calls_zero {k : Nat} {r : List Nat} {rs : List (List (List Int))} (h : PyFlat.calls PyDg01.shape 0 (up (k :: r)) = some rs) : False := by cases h
/-- the next call's numbers in the whole list -/
theorem turn_place {L : List Nat} {place k : Nat} {r l rest : List Nat} (hd : L.drop place = k :: r)
    (hc : rowK k = true ∧ r = l.length :: (l ++ rest) ∨ rowK k = false ∧ oneK k = true ∧ (∃ v, l = [v]) ∧ r = l ++ rest ∨ rowK k = false ∧ oneK k = false ∧ l = [] ∧ r = rest) :
    L[place]? = some k ∧ (rowK k = true → place + 1 < L.length) ∧ lengthN L k place = l.length ∧ (L.drop (startN k place)).take l.length = l ∧ L.drop (startN k place + l.length) = rest ∧ place < startN k place := by
  have h0 : L[place]? = some k := by
    have : (L.drop place)[0]? = some k := by rw [hd]; rfl
    rwa [List.getElem?_drop, Nat.add_zero] at this
  have h1 : L.drop (place + 1) = r := by rw [← List.drop_drop, hd]; rfl
  rcases hc with ⟨c1, e⟩ | ⟨c1, c2, ⟨v, ev⟩, e⟩ | ⟨c1, c2, el, e⟩
  · have hs : startN k place = place + 2 := if_pos c1
    have h2 : L.drop (place + 2) = l ++ rest := by
      rw [show place + 2 = (place + 1) + 1 by omega, ← List.drop_drop, h1, e]; rfl
    have h3 : L[place + 1]? = some l.length := by
      have : (L.drop (place + 1))[0]? = some l.length := by rw [h1, e]; rfl
      rwa [List.getElem?_drop, Nat.add_zero] at this
    refine ⟨h0, fun _ => ?_, ?_, ?_, ?_, by omega⟩
    · exact (List.getElem?_eq_some_iff.mp h3).1
    · unfold lengthN
      rw [if_pos c1, List.getD_eq_getElem?_getD, h3]
      rfl
    · rw [hs, h2, List.take_left]
    · rw [hs, ← List.drop_drop, h2, List.drop_left]
  · have hs : startN k place = place + 1 := if_neg (by rw [c1]; exact Bool.noConfusion)
    refine ⟨h0, fun z => (by rw [c1] at z; cases z), ?_, ?_, ?_, by omega⟩
    · unfold lengthN
      rw [if_neg (by rw [c1]; exact Bool.noConfusion), if_pos c2, ev]
      rfl
    · rw [hs, h1, e, List.take_left]
    · rw [hs, ← List.drop_drop, h1, e, List.drop_left]
  · have hs : startN k place = place + 1 := if_neg (by rw [c1]; exact Bool.noConfusion)
    subst el
    refine ⟨h0, fun z => (by rw [c1] at z; cases z), ?_, ?_, ?_, by omega⟩
    · unfold lengthN
      rw [if_neg (by rw [c1]; exact Bool.noConfusion), if_neg (by rw [c2]; exact Bool.noConfusion)]
      rfl
    · rfl
    · rw [hs]
      show L.drop (place + 1) = rest
      rw [h1, e]
theorem ok_answers {f fI : Addr} {fd fdI : FuncData} {kT : Nat} (F : Fun K "answers" "answers" s_answers f fd) (T : Tx K mg C) (hkT : kT ≤ 7) (M : Mk K C fI) (gP : mg "Plan" = some (.ref C)) (GI : FnOk P w K mg base CX0 1 fI fdI ["self"] (spInit C)) (bI : Binds K fdI ["self"] [])
    (cs : Cl P w K mg base 1 "numbers_start" ["call", "place"] spStart) (cl : Cl P w K mg base 1 "numbers_length" ["calls", "place"] (spLength K)) (tb : Table P w K mg base C kT) : FnOk P w K mg base CX0 8 f fd ["calls"] (spAns K) := by
  refine F.ok sc_answers (fun vs H Q E h => ?_) (fun cdv A outer s H vs Q E hr h => ?_)
  · obtain ⟨a, ns, rfl, _⟩ := h
    rfl
  · obtain ⟨a, ns, rfl, hA, hb, hask, q⟩ := h
    obtain ⟨L, rfl, hL⟩ := up_of hb
    obtain ⟨rs, hrs, hlen⟩ := asked_calls hask
    rw [answers_toldR hrs] at hlen q
    rw [up_vn] at hA
    obtain ⟨aT, fs, gT, sT, hT⟩ := tb.ex
    refine ⟨_, pss_cons (ps_set (i := 1) sc_answers.nd rfl (.inl rfl) (pe_make0 M GI (hr.mono (by decide)) rfl gP bI .nil pass0))
      (pss_cons (ps_set (i := 2) sc_answers.nd rfl (.inl rfl) (pe_lst pa_nil))
      (pss_cons (ps_set (i := 3) sc_answers.nd rfl (.inl rfl) pe_int)
      (pss_cons (ps_while PassesOwn.never (pt_cmpR op_ltN (pv 3) (pe_callB call_len_seq (by rfl) T.len PySem.boot_len (pa_cons (pv 0) pa_nil)) (nomark _))
        (pss_cons (ps_set (i := 4) sc_answers.nd rfl (.inl rfl) (pe_ix ix_list (pv 0) (pv 3) (fun _ _ => rfl)))
        (pss_cons (ps_set (i := 5) sc_answers.nd rfl (.inl rfl) (pe_cl cs hr (by decide) (by rfl) (pa_cons (pv 4) (pa_cons (pv 3) pa_nil))))
        (pss_cons (ps_set (i := 6) sc_answers.nd rfl (.inl rfl) (pe_op op_addN (pv 5) (pe_cl cl hr (by decide) (by rfl) (pa_cons (pv 0) (pa_cons (pv 3) pa_nil)))))
        (pss_cons (ps_set (i := 7) sc_answers.nd rfl (.inl rfl) (pe_callT (S := fun f sp => ∃ i, i ≤ 15 ∧ fs[i]? = some f ∧ sp = spC K C i) (k := kT)
            (fun f sp ⟨i, hi, hf, hsp⟩ => by
              obtain ⟨g, hg, hh⟩ := hT i hi
              rw [hf] at hg
              cases hg
              rw [hsp]
              exact hh) hr hkT (pe_ix ix_tup (pe_g gT) (pv 4) (fun _ _ => rfl)) (pa_cons (pv 1) (pa_cons (pe_slice sl_list (pv 0) (po_some (pv 5)) (po_some (pv 6))) pa_nil))))
        (pss_cons (ps_expr (pe_bm PySem.F.plainAttrs_list PySem.F.slot_list_append PySem.F.type_list_append mt_append (pv 2) (pa_cons (pe_callB call_len_seq (by rfl) T.len PySem.boot_len (pa_cons (pv 7) pa_nil)) pa_nil)))
        (pss_cons (ps_expr (pe_bm PySem.F.plainAttrs_list PySem.F.slot_list_extend PySem.F.type_list_extend mt_extend (pv 2) (pa_cons (pv 7) pa_nil)))
        (pss_one (ps_set (i := 3) sc_answers.nd rfl (.inl rfl) (pv 6))))))))))
      (pss_one (ps_ret (pv 2)))))), ?_⟩
    -- plan = Plan()
    intro x dx nx nd ne
    refine ⟨x, dx, rfl, upd_same, fun H1 bl0 hP0 nbl0 kp => ⟨rfl, ?_⟩⟩
    have s1 : Same H H1 := Same.made nx nd kp
    have hbl0 : H bl0 = none := by
      have h1 : bl0 ≠ x := by
        intro e
        rw [e, upd_same] at nbl0
        cases nbl0
      have h2 : bl0 ≠ dx := by
        intro e
        rw [e, upd_ne ne, upd_same] at nbl0
        cases nbl0
      rw [upd_ne h1, upd_ne h2] at nbl0
      exact nbl0
    -- told = [], place = 0
    refine ⟨Nat.zero_le _, fun o no => ?_⟩
    have s2 : Same H1 (upd H1 o (.lst [])) := same_upd no
    obtain ⟨dx0, hx0⟩ := hP0.ins
    refine ⟨fun m σ H' => ∃ (place : Nat) (v4 v5 v6 v7 : Option V) (bl : Addr) (p : Dg01.Plan) (acc : List Int) (fuel : Nat) (rs2 : List (List (List Int))),
        σ = [some (.ref a), some (.ref x), some (.ref o), some (vn place), v4, v5, v6, v7] ∧ m + place = L.length ∧ Same H H' ∧ PlanAt C H' x bl p ∧ Ok p ∧ o ≠ bl ∧ o ≠ x ∧ H bl = none ∧ H' o = some (.lst (acc.map V.int)) ∧
        PyFlat.calls PyDg01.shape fuel (up (L.drop place)) = some rs2 ∧ acc ++ toldR p rs2 = toldR Dg01.init rs,
      ⟨L.length, 0, none, none, none, none, bl0, Dg01.init, [], L.length, rs, rfl, by omega, s1.trans s2, hP0.same s2, ok_init0, ?_, ?_, hbl0, upd_same, ?_, rfl⟩, ?_⟩
    · exact (ne_of_none hP0.lst no).symm
    · exact (ne_of_none hx0 no).symm
    · rw [up_length] at hrs
      exact hrs
    rintro m σ H' ⟨place, v4, v5, v6, v7, bl, p, acc, fuel, rs2, rfl, hm, sm, hP, hO, nob, nox, hbl, ho, hcalls, hacc⟩
    refine ⟨_, rfl, _, rfl, a, _, rfl, .inl (sm.seq hA), place, _, rfl, rfl, _, rfl, ite2 (fun c => ?_) (fun c => ?_)⟩
    · have hlt : place < L.length := by
        have := of_decide_eq_true c
        rwa [List.length_map] at this
      obtain ⟨k, r, hd⟩ : ∃ k r, L.drop place = k :: r := by
        cases h : L.drop place with
        | nil =>
          have := congrArg List.length h
          rw [List.length_drop] at this
          simp at this
          omega
        | cons k r => exact ⟨k, r, rfl⟩
      cases fuel with
      | zero => rw [hd] at hcalls; exact (calls_zero hcalls).elim
      | succ fuel =>
        rw [hd] at hcalls
        obtain ⟨l, rest, cc, rs3, hk15, hsome, hcase, ers, hrest, hw⟩ := (turn_of hcalls).ex
        obtain ⟨g0, g1, g2, g3, g4, g5⟩ := turn_place hd hcase
        have hkl : ∀ y ∈ k :: l, y < 4294967296 := by
          intro y hy
          have hmem : ∀ z ∈ L.drop place, z < 4294967296 := fun z hz => hL z (List.mem_of_mem_drop hz)
          rw [hd] at hmem
          rcases List.mem_cons.mp hy with rfl | hy
          · exact hmem y (by simp)
          · have : y ∈ L := by
              rw [← g3] at hy
              exact List.mem_of_mem_drop (List.mem_of_mem_take hy)
            exact hL y this
        have htold := toldR_cons p cc rs3 hw hkl
        rw [ers, htold] at hacc
        have hlen2 : acc.length + (1 + (stepN k l p).2.length) ≤ 10000000 := by
          have := congrArg List.length hacc
          rw [List.length_append, List.length_append, List.length_cons] at this
          omega
        have hat : atI (L.map vn) (place : Int) = some (vn k) := atI_nat (by rw [List.getElem?_map, g0]; rfl)
        obtain ⟨fk, hfk, _⟩ := hT k hk15
        have hatT : atI (fs.map V.ref) (k : Int) = some (.ref fk) := atI_nat (by rw [List.getElem?_map, hfk]; rfl)
        refine ⟨fun σ' H' => ∃ (place : Nat) (v4 v5 v6 v7 : Option V) (bl : Addr) (p : Dg01.Plan) (acc : List Int) (fuel : Nat) (rs2 : List (List (List Int))),
            σ' = [some (.ref a), some (.ref x), some (.ref o), some (vn place), v4, v5, v6, v7] ∧ (L.length - (startN k (L.length - m) + l.length)) + place = L.length ∧ Same H H' ∧ PlanAt C H' x bl p ∧ Ok p ∧ o ≠ bl ∧ o ≠ x ∧ H bl = none ∧ H' o = some (.lst (acc.map V.int)) ∧
            PyFlat.calls PyDg01.shape fuel (up (L.drop place)) = some rs2 ∧ acc ++ toldR p rs2 = toldR Dg01.init rs, fun σ' H' h => ⟨_, ?_, h⟩, ?_⟩
        · rw [show L.length - m = place by omega]
          omega
        have hSl := sm.seq hA
        refine ⟨_, rfl, _, rfl, a, _, (place : Int), _, rfl, rfl, hSl, hat, ?_⟩
        refine ⟨_, rfl, _, rfl, k, place, rfl, ?_⟩
        refine ⟨_, rfl, _, rfl, _, rfl, a, L, k, place, rfl, hSl, g0, g1, ?_⟩
        rw [g2]
        refine ⟨startN k place, l.length, rfl, rfl, ?_⟩
        refine ⟨_, rfl, aT, _, (k : Int), _, rfl, rfl, sT H', hatT, fk, spC K C k, rfl, ⟨k, hk15, hfk, rfl⟩, ?_⟩
        refine ⟨_, rfl, _, rfl, _, rfl, _, rfl, _, rfl, _, rfl, a, _, rfl, hSl, fun sl nsl => ?_⟩
        rw [cut_both, show startN k place + l.length - startN k place = l.length by omega, ← List.map_drop, ← List.map_take, g3]
        have s3 : Same H' (upd H' sl (.lst (l.map vn))) := same_upd nsl
        refine ⟨x, bl, sl, p, l, rfl, hP.same s3, hO, .inl (.inl upd_same), hsome, fun H2 rr bl2 hP2 hbl2 fr nrr hrr => ?_⟩
        -- what stood of the caller's stands
        obtain ⟨dxp, hxp⟩ := hP.ins
        have hx1 : H x = none := nx
        have keep : ∀ b u, H b = some u → H2 b = some u := fun b u e => by
          have e1 : b ≠ x := ne_of_none e hx1
          have e2 : b ≠ bl := ne_of_none e hbl
          exact fr b u (s3 _ _ (sm _ _ e)) e1 e2
        have ho2 : H2 o = some (.lst (acc.map V.int)) := fr o _ (s3 _ _ ho) nox nob
        have nob2 : o ≠ bl2 := by
          rcases hbl2 with rfl | h
          · exact nob
          · exact ne_of_none (s3 _ _ ho) h
        have hbl2H : H bl2 = none := by
          rcases hbl2 with rfl | h
          · exact hbl
          · exact sm.free (s3.free h)
        -- told.append(len(answer))
        refine ⟨_, rfl, .inl ⟨rfl, _, .inl (.inl ho2)⟩, _, rfl, rr, _, rfl, .inl (.inl (.inl hrr)), o, _, _, rfl, rfl, ho2, ?_, ?_⟩
        · rw [List.length_map]
          exact Nat.lt_of_le_of_lt (show acc.length ≤ 10000000 by omega) (by decide)
        have hro : rr ≠ o := (ne_of_none (s3 _ _ ho) nrr).symm
        · have hrr2 : (upd H2 o (.lst (acc.map V.int ++ [V.int (((stepN k l p).2.map V.int).length : Int)]))) rr = some (.lst ((stepN k l p).2.map V.int)) := by
            rw [upd_ne hro]; exact hrr
          refine ⟨_, rfl, .inl ⟨rfl, _, .inl (.inl upd_same)⟩, _, rfl, o, rr, _, _, rfl, rfl, upd_same, hrr2, ?_, ?_⟩
          · rw [List.length_append, List.length_map, List.length_map]
            exact Nat.le_of_lt (Nat.lt_of_le_of_lt (show acc.length + 1 + (stepN k l p).2.length ≤ 10000000 by omega) (by decide))
          · rw [upd_upd]
            refine ⟨_, rfl, startN k place + l.length, _, _, _, _, bl2, (stepN k l p).1, acc ++ (((stepN k l p).2.length : Int) :: (stepN k l p).2), fuel, rs3, rfl, ?_, ?_, ?_, stepN_ok hO k l, nob2, nox, hbl2H, ?_, ?_, ?_⟩
            · rw [show L.length - m = place by omega]
              have : startN k place + l.length ≤ L.length := by
                have h1 := congrArg List.length g3
                rw [List.length_take, List.length_drop] at h1
                by_cases h0 : l.length = 0
                · have : startN k place ≤ L.length := by
                    rcases hcase with ⟨c1, _⟩ | ⟨c1, _⟩ | ⟨c1, _⟩
                    · have := g1 c1
                      rw [show startN k place = place + 2 from if_pos c1]; omega
                    · rw [show startN k place = place + 1 from if_neg (by rw [c1]; exact Bool.noConfusion)]; omega
                    · rw [show startN k place = place + 1 from if_neg (by rw [c1]; exact Bool.noConfusion)]; omega
                  omega
                · omega
              omega
            · intro b u e
              have : b ≠ o := by
                intro z
                rw [z] at e
                exact absurd (s1 _ _ e) (by rw [no]; exact fun h => nomatch h)
              rw [upd_ne this]
              exact keep b u e
            · obtain ⟨dx2, hx2⟩ := hP2.ins
              refine ⟨⟨dx2, ?_⟩, ?_⟩
              · rw [upd_ne nox.symm]; exact hx2
              · rw [upd_ne nob2.symm]; exact hP2.lst
            · rw [upd_same, List.map_append, List.map_cons, List.append_assoc, List.length_map]
              rfl
            · rw [g4]; exact hrest
            · rw [List.append_assoc]; exact hacc
    · have hge : place = L.length := by
        have : ¬ place < L.length := fun z => c (decide_eq_true (by rw [List.length_map]; exact z))
        omega
      subst hge
      rw [List.drop_length] at hcalls
      have e0 : rs2 = [] := by
        have h : PyFlat.calls PyDg01.shape fuel [] = some rs2 := hcalls
        rw [calls_nil] at h
        exact (Option.some.inj h).symm
      subst e0
      rw [toldR_nil, List.append_nil] at hacc
      subst hacc
      exact ⟨_, rfl, q H' o ho⟩
end
end Eb

set_option Elab.async false
set_option maxRecDepth 100000
set_option linter.all false
/-! The shapes by masks. -/
namespace Eb
open Dg01 (Plan points common anew around away inside outside turned filled blocksWith)
/-- the places, from 1, whose thing has a point -/
def plc (n : Nat) (q : Nat → Bool) : List Nat := ((List.range n).filter q).map fun j => j + 1
def turnM (top : Nat) (ms : List Nat) : List Nat := (List.range' 1 top).map fun x => maskOf (plc ms.length fun j => (ms.getD j 0).testBit x)
def fillM (top : Nat) (ms : List Nat) : List Nat := ms.map fun m => maskOf (List.range' 1 top) ^^^ m
def renM (kept : List Nat) (m : Nat) : Nat := maskOf (plc kept.length fun j => m.testBit (kept.getD j 0))
theorem masks_getD (p : Plan) (j : Nat) : (masks p).getD j 0 = maskOf (p.blocks.getD j []) := by
  unfold masks
  rw [List.getD_eq_getElem?_getD, List.getD_eq_getElem?_getD, List.getElem?_map]
  cases p.blocks[j]? <;> rfl
theorem turn_is (p : Plan) : turnM p.many (masks p) = masks (turned p) := by
  unfold turnM
  show _ = (turned p).blocks.map maskOf
  unfold turned
  simp only
  rw [List.map_map, points_range]
  apply List.map_congr_left
  intro x _
  show maskOf _ = maskOf _
  congr 1
  unfold plc
  rw [masks_length]
  congr 1
  apply List.filter_congr
  intro j _
  rw [masks_getD, testBit_mask]
theorem fill_is {p : Plan} (W : Wf p) : fillM p.many (masks p) = masks (filled p) := by
  unfold fillM
  show (p.blocks.map maskOf).map _ = (filled p).blocks.map maskOf
  unfold filled
  simp only
  rw [List.map_map, List.map_map]
  apply List.map_congr_left
  intro b hb
  show maskOf _ ^^^ maskOf b = maskOf _
  rw [← points_range]
  apply mask_xor
  intro x hx
  exact (mem_points p x).mpr ((W.norm b hb).mem hx)
theorem below_at {l : List Nat} (h : l.Pairwise (· < ·)) : ∀ {j x : Nat}, l[j]? = some x → below l x = j := by
  induction l with
  | nil => intro j x e; simp at e
  | cons a l ih =>
    intro j x e
    rw [List.pairwise_cons] at h
    unfold below
    rw [List.filter_cons]
    cases j with
    | zero =>
      have : a = x := by simpa using e
      subst this
      rw [if_neg (by simp)]
      rw [show l.filter (fun y => decide (y < a)) = [] from ?_]
      · rfl
      · rw [List.filter_eq_nil_iff]
        intro y hy
        have := h.1 y hy
        simp; omega
    | succ j =>
      have e' : l[j]? = some x := by simpa using e
      have hm := List.mem_of_getElem? e'
      have := h.1 x hm
      rw [if_pos (decide_eq_true this), List.length_cons]
      have := ih h.2 e'
      unfold below at this
      omega
theorem kept_sorted (p : Plan) (gone : List Nat) : (kept p gone).Pairwise (· < ·) := (points_pairwise p).filter _
theorem ren_is {p : Plan} {gone l : List Nat} (hg : Norm (points p) gone) (hl : ∀ x ∈ l, 1 ≤ x ∧ x ≤ p.many) : renM (kept p gone) (maskOf l) = maskOf (anew gone l) := by
  unfold renM
  rw [anew_eq hg hl]
  apply mask_ext
  intro y
  unfold plc
  rw [List.mem_map, List.mem_map]
  have hs := kept_sorted p gone
  constructor
  · rintro ⟨j, hj, rfl⟩
    obtain ⟨h1, h2⟩ := List.mem_filter.mp hj
    have hj' := List.mem_range.mp h1
    have hx : (kept p gone)[j]? = some ((kept p gone).getD j 0) := by
      rw [List.getD_eq_getElem?_getD, List.getElem?_eq_getElem hj']; rfl
    rw [testBit_mask] at h2
    have hk : (kept p gone).getD j 0 ∈ kept p gone := List.mem_of_getElem? hx
    refine ⟨(kept p gone).getD j 0, ?_, by rw [below_at hs hx]⟩
    rw [List.mem_filter]
    exact ⟨by simpa using h2, (List.mem_filter.mp hk).2⟩
  · rintro ⟨x, hx, rfl⟩
    obtain ⟨h1, h2⟩ := List.mem_filter.mp hx
    have hk : x ∈ kept p gone := by
      unfold kept
      rw [List.mem_filter]
      exact ⟨(mem_points p x).mpr (hl x h1), h2⟩
    obtain ⟨j, hj, e⟩ := List.getElem_of_mem hk
    have e2 : (kept p gone)[j]? = some x := by rw [List.getElem?_eq_getElem hj, e]
    refine ⟨j, ?_, by rw [below_at hs e2]⟩
    rw [List.mem_filter]
    refine ⟨List.mem_range.mpr hj, ?_⟩
    rw [List.getD_eq_getElem?_getD, e2, testBit_mask]
    simpa using h1
/-- a plan whose blocks are told by their masks -/
theorem masks_ren {p : Plan} {gone : List Nat} (hg : Norm (points p) gone) {bs : List (List Nat)} (hb : ∀ b ∈ bs, b ∈ p.blocks) (W : Wf p) : (bs.map maskOf).map (renM (kept p gone)) = (bs.map (anew gone)).map maskOf := by
  rw [List.map_map, List.map_map]
  apply List.map_congr_left
  intro b h
  exact ren_is hg fun x hx => (W.norm b (hb b h)).mem hx
theorem kept_one (p : Plan) (x : Nat) : kept p [x] = (List.range' 1 p.many).filter fun y => !decide (y = x) := by
  unfold kept
  rw [points_range]
  apply List.filter_congr
  intro y _
  simp
theorem kept_outs {p : Plan} {b : List Nat} (hb : Norm (points p) b) : kept p (outs p b) = b := by
  unfold kept outs
  refine Eq.trans ?_ hb.symm
  apply List.filter_congr
  intro x hx
  rw [Bool.eq_iff_iff]
  simp [hx]
theorem anew_common {p : Plan} {b c : List Nat} (hc : ∀ x ∈ c, 1 ≤ x ∧ x ≤ p.many) : anew (outs p b) (common c b) = anew (outs p b) c := by
  unfold anew common
  congr 1
  rw [List.filter_filter]
  apply List.filter_congr
  intro x hx
  unfold outs
  have := (mem_points p x).mpr (hc x hx)
  rw [Bool.eq_iff_iff]
  simp [this]
theorem with_masks (p : Plan) (x : Nat) : (masks p).filter (fun m => m.testBit x) = (blocksWith p x).map maskOf := by
  unfold masks blocksWith
  rw [List.filter_map]
  congr 1
  apply List.filter_congr
  intro b _
  exact testBit_mask b x
theorem without_masks (p : Plan) (x : Nat) : (masks p).filter (fun m => !m.testBit x) = (p.blocks.filter fun b => !b.contains x).map maskOf := by
  unfold masks
  rw [List.filter_map]
  congr 1
  apply List.filter_congr
  intro b _
  show (!(maskOf b).testBit x) = _
  rw [testBit_mask]
def others {α : Type} (l : List α) (n : Nat) : List α := l.take n ++ l.drop (n + 1)
theorem others_masks (p : Plan) (n : Nat) : others (masks p) n = (others p.blocks n).map maskOf := by
  unfold others masks
  rw [List.map_append, List.map_take, List.map_drop]
theorem around_is {p : Plan} (W : Wf p) {x : Nat} (h1 : 1 ≤ x) (h2 : x ≤ p.many) : ((masks p).filter fun m => m.testBit x).map (renM (kept p [x])) = masks (around p x) := by
  rw [with_masks, masks_ren (bs := blocksWith p x) (norm_one h1 h2) (fun b hb => (List.mem_filter.mp hb).1) W]
  rfl
theorem away_is {p : Plan} (W : Wf p) {x : Nat} (h1 : 1 ≤ x) (h2 : x ≤ p.many) : ((masks p).filter fun m => !m.testBit x).map (renM (kept p [x])) = masks (away p x) := by
  rw [without_masks, masks_ren (norm_one h1 h2) (fun b hb => (List.mem_filter.mp hb).1) W]
  rfl
theorem norm_outs (p : Plan) (b : List Nat) : Norm (points p) (outs p b) := norm_filter _ _
theorem inside_is {p : Plan} (W : Wf p) {n : Nat} (hn : n < p.blocks.length) : (others (masks p) n).map (renM (p.blocks.getD n [])) = masks (inside p n) := by
  have hN := W.norm _ (getD_mem hn)
  rw [others_masks]
  conv => lhs; rw [← kept_outs hN]
  rw [masks_ren (bs := others p.blocks n) (norm_outs p _) (fun b hb => mem_others hb) W]
  show _ = (inside p n).blocks.map maskOf
  unfold inside
  simp only
  congr 1
  apply List.map_congr_left
  intro c hc
  exact (anew_common fun x hx => (W.norm c (mem_others hc)).mem hx).symm
theorem outside_is {p : Plan} (W : Wf p) {n : Nat} (hn : n < p.blocks.length) : (others (masks p) n).map (renM (outs p (p.blocks.getD n []))) = masks (outside p n) := by
  have hN := W.norm _ (getD_mem hn)
  rw [others_masks]
  show List.map (renM (kept p (p.blocks.getD n []))) _ = _
  rw [masks_ren (bs := others p.blocks n) hN (fun b hb => mem_others hb) W]
  rfl
theorem sorted_of {p : Plan} {b : List Nat} (h : Norm (points p) b) : b.Pairwise (· < ·) := ((isSet_iff p b).mp ((norm_iff p b).mp h)).1
theorem norm_le {p : Plan} {b : List Nat} (h : Norm (points p) b) : b.length ≤ p.many := by
  have : b.length = ((points p).filter b.contains).length := congrArg List.length h
  rw [this, ← points_length p]
  exact List.length_filter_le _ _
/-! ### a plan, told -/
def toldM (top : Nat) (ms : List Nat) : List Nat := [top, ms.length] ++ ms.flatMap fun m => pc m :: ptsOf m
theorem told_is {p : Plan} (W : Wf p) : Dg01.shown p = Dg01.ints (toldM p.many (masks p)) := by
  unfold Dg01.shown toldM Dg01.told
  rw [masks_length]
  unfold Dg01.ints
  rw [List.map_append]
  congr 1
  rw [List.map_flatMap]
  unfold masks
  rw [List.flatMap_map]
  apply flatMap_congr_mem
  intro b hb
  have hN := W.norm b hb
  show _ = List.map _ (pc (maskOf b) :: ptsOf (maskOf b))
  rw [pc_mask b hN.nodup, ptsOf_mask (sorted_of hN)]
theorem toldM_length {p : Plan} (W : Wf p) (hi : p.many ≤ 20) (hf : p.blocks.length ≤ 20) : ∀ i, (((masks p).take i).flatMap fun m => pc m :: ptsOf m).length ≤ 420 := by
  intro i
  have : ∀ (l : List Nat), (∀ m ∈ l, (pc m :: ptsOf m).length ≤ 21) → (l.flatMap fun m => pc m :: ptsOf m).length ≤ l.length * 21 := by
    intro l
    induction l with
    | nil => intro _; simp
    | cons a l ih =>
      intro h
      have := ih fun m hm => h m (by simp [hm])
      have := h a (by simp)
      rw [List.flatMap_cons, List.length_append, List.length_cons (as := l), Nat.add_mul]
      omega
  have h := this ((masks p).take i) fun m hm => by
    have hm := List.mem_of_mem_take hm
    unfold masks at hm
    obtain ⟨b, hb, rfl⟩ := List.mem_map.mp hm
    have hN := W.norm b hb
    rw [ptsOf_mask (sorted_of hN), List.length_cons]
    have := norm_le hN
    omega
  have h2 : ((masks p).take i).length ≤ 20 := by
    rw [List.length_take, masks_length]; omega
  have h3 : ((masks p).take i).length * 21 ≤ 20 * 21 := Nat.mul_le_mul_right _ h2
  omega
end Eb

set_option Elab.async false
set_option linter.all false
set_option maxRecDepth 100000
set_option maxHeartbeats 2000000
namespace Eb
open PySem PySem.Spec PyProof.Rows L2
/-! ### enumerate(list, start = c), over the library's walks with a count -/
/-- a new pair of c + i and the i-th item of the list at a, as that list stands then -/
def IteS (K : PySem.W.Frag) (a : Addr) (c : Int) : It where
  go i H := ∃ (ys : List V) (y : V), SqL K H a ys ∧ ys[i]? = some y
  yld i H v H' := ∃ (T : Addr) (y : V), v = .ref T ∧ H T = none ∧ H' = upd H T (.tup [.int (c + (i : Nat)), y]) ∧ ∀ ys, SqL K H a ys → ys[i]? = some y
  stop i H := ∃ ys : List V, SqL K H a ys ∧ ys.length = i
/-- the counting iterator en over the list's iterator li -/
structure Count (en li a : Addr) (c : Int) (i : Nat) (h : Heap) : Prop where
  cnt : ∃ old, IsEnum h en li (c + (i : Int)) old
  lst : h.IsListIter li a i
  ne1 : en ≠ li
  ne2 : a ≠ li
  ne3 : en ≠ a
theorem Count.off {en li a : Addr} {c : Int} {i : Nat} {h : Heap} (k : Count en li a c i h) : en ∉ [li, a] := by simp [k.ne1, k.ne3]
theorem turn_enumS {P : Program} {w : World} {K : PySem.W.Frag} {elts : List Expr} {kk : Nat} {tpos : Pos} (a en li : Addr) (c : Int) : L2.Turn P w K (.Tuple elts kk tpos) (IteS K a c) [en, li] en (Count en li a c) := by
  refine { mem := List.mem_cons_self .., obj := fun i h k b hb => ?_, keep := fun i h h' k st => ?_, item := ?_, done := ?_, self := fun A i s Q E k hQ => ?_ }
  · obtain ⟨old, g⟩ := k.cnt
    obtain ⟨o, go, _, od⟩ := k.lst
    rcases List.mem_cons.mp hb with rfl | hb
    · exact ⟨_, g, by intro v x; cases x⟩
    · rw [List.mem_singleton.mp hb]
      exact ⟨o, go, by intro v x; rw [od] at x; cases x⟩
  · obtain ⟨old, g⟩ := k.cnt
    exact ⟨⟨old, st en (by simp) _ g⟩, k.lst.at fun o x => st li (by simp) o x, k.ne1, k.ne2, k.ne3⟩
  · rintro X rfl rfl rfl calm i pins s σ H E I fp k ⟨ys, y, hl, hy⟩
    obtain ⟨vs, rel, at', _⟩ := I.list hl
    obtain ⟨u, hu, ry⟩ := rel.get hy
    have wk := WalksT.enumFrom (prog := X.prog) (w := X.w) (A := X.A) c (Draws.list (show X.A.in1.handled = none from I.ok.hd calm) li a k.ne2 vs.toArray) en k.ne1 k.off (by simp)
    have lt : i < vs.toArray.size := by simpa using (List.getElem?_eq_some_iff.mp hu).1
    refine wk.item i s _ E lt ⟨k.cnt, k.lst, at'.isList⟩ fun T pr h1 tk hpr new tup mid keep1 => ⟨.ref T, rfl, wk.go elts kk tpos i T _ _ E mid fun h2 next keep2 => ?_⟩
    obtain ⟨t, x, hx, rfl⟩ := hpr
    obtain rfl : x = u := Option.some.inj (hx.symm.trans (by simpa using hu))
    have apart := wk.apart i T _ mid
    obtain ⟨o, got, oc, n, od⟩ := tup
    have pair : ObjOk X.prog X.w (upd H T (.tup [.int (c + (i : Nat)), y])) h2 T (.tup [.int (c + (i : Nat)), y]) :=
      ⟨show 2 ≤ sizeLine by decide, [.int (c + (i : Nat)) t, x], .cons ⟨_, rfl⟩ (.cons ry .nil), o, keep2 T o apart got, oc, n, od⟩
    refine ⟨.ref T, _, I.turnedNew (ch := [en, li]) (fun b ob nb q => keep2 b ob nb (keep1 b ob nb q)) fp new pair, rfl, ⟨T, y, rfl, I.hok.fresh new, rfl, fun zs hz => I.list_inj hz hl ▸ hy⟩, ⟨next.1, next.2.1, k.ne1, k.ne2, k.ne3⟩, fun b hb => ?_⟩
    have nb : b ≠ T := fun z => apart (z ▸ hb)
    rw [upd_ne nb]
    exact (fp b hb).1
  · rintro X rfl rfl rfl calm i pins s σ H E I fp k ⟨ys, hl, le⟩
    obtain ⟨vs, rel, at', _⟩ := I.list hl
    have full : vs.toArray.size = i := by rw [List.size_toArray, ← rel.length, le]
    have wk := WalksT.enumFrom (prog := X.prog) (w := X.w) (A := X.A) c (Draws.list (show X.A.in1.handled = none from I.ok.hd calm) li a k.ne2 vs.toArray) en k.ne1 k.off (by simp)
    rw [full] at wk
    exact wk.done s _ E ⟨k.cnt, k.lst, at'.isList⟩ fun h1 tk keep => ⟨rfl, I.turnedL (ch := [en, li]) keep fp⟩
  · obtain ⟨old, g⟩ := k.cnt
    exact wpAny_pyIter_enum g hQ
/-- the made iterator's two cells are new -/
theorem two_new {X : Cx} {pins : List (Addr × Obj)} {σ : L2.St} {H : Hp} {s : Shared} (I : L2.Inv X pins σ H s) : ∀ b ∈ [s.heap.objs.size + 1, s.heap.objs.size], FpOk X pins H b := by
  have at' : ∀ d : Nat, FpOk X pins H (s.heap.objs.size + d) := fun d => I.fpOk (Nat.le_add_right ..) (I.hok.fresh (Nat.le_add_right ..))
  intro b hb
  rcases List.mem_cons.mp hb with rfl | hb
  · exact at' 1
  · rw [List.mem_singleton.mp hb]
    exact at' 0
def iEnumS (K : PySem.W.Frag) (c : Int) (ta : TA) : TI := fun σ H R => ta σ H fun vs H1 => ∃ a xs, vs = [.ref a] ∧ SqL K H1 a xs ∧ R (IteS K a c) H1
theorem pi_enumS {X : Cx} {e ke : Expr} {ta : TA} {p pos tpos kp : Pos} {elts : List Expr} {kk : Nat} {c : Int} (lo : -(2 ^ 63) ≤ c) (hi : c < 2 ^ 63) (hg : Gl X "enumerate") (hm : X.mg "enumerate" = none) (ha : PA X [e] ta) (hke : PE X ke (tC (.int c)))
    (one : starEach [e] X.env = (false, eval e X.env) :: starEach [] X.env := by rfl)
    (named : (backToKw pos (keywordEach [⟨some (Str.ofString "start"), ke, kp⟩] X.env)).all (·.1.isSome) = true := by rfl)
    (plain : ((backTo pos (starEach [e] X.env)).any (·.1) || (backToKw pos (keywordEach [⟨some (Str.ofString "start"), ke, kp⟩] X.env)).any (·.1.isNone)) = false := by rfl) :
    PI X (.Tuple elts kk tpos) (.Call (.Name "enumerate" p) [e] [⟨some (Str.ofString "start"), ke, kp⟩] pos) (iEnumS X.K c ta) := by
  constructor
  intro pins s σ H R I h
  refine wpAny_Call_Name_kw (ld_blt I hg hm boot_enumerate (PySem.W.callWith_of (P := fun _ => True) plain (fun _ _ => ⟨_, .inr (.inl rfl), PySem.W.Looks.of_pure rfl⟩) (evalArgs_kw2 named ?_ one)))
  refine thn (ha.run pos pins s σ H _ I h) fun us s0 ⟨vs, H0, I0, r0, a, xs, ev, hl, q⟩ => ?_
  refine thn ((pk_cons (nm := some (Str.ofString "start")) (kpos := kp) hke pk_nil).run pos pins s0 σ H0 (fun zs H' => zs = [.int c] ∧ H' = H0) I0 ⟨rfl, rfl⟩) fun ws s1 ⟨zs, H1, I1, r1, ez, eH⟩ => ⟨trivial, ?_⟩
  subst eH ez ev
  obtain ⟨u, rfl, ru⟩ := vals1 r0
  obtain ⟨k, rfl, t, rfl⟩ := vals1 r1
  cases ru
  obtain ⟨its, _, at', _⟩ := I1.list hl
  refine enum_begins_start (t := t) (begins_list a its.toArray) at'.isList lo hi fun h' en li size keep => wpAny_pyIter_enum en ?_
  refine ⟨_, _, _, _, H1, rfl, I1.kept (t' := s1.toks) keep, turn_enumS a (s1.heap.objs.size + 1) s1.heap.objs.size c, ⟨⟨.none, ?_⟩, ⟨_, li, rfl, rfl⟩, Nat.succ_ne_self _, Nat.ne_of_lt at'.lt, Nat.ne_of_gt (Nat.lt_succ_of_lt at'.lt)⟩, two_new I1, q⟩
  rw [show c + ((0 : Nat) : Int) = c by omega]
  exact en
theorem walk_enumS {K : PySem.W.Frag} {a : Addr} {xs : List V} {c : Int} : Walk (IteS K a c) xs.length (fun H => SqL K H a xs) (YPair (fun i => some (.int (c + (i : Nat)))) (fun i => xs[i]?)) where
  goes i _ hi g := ⟨xs, xs[i], g, List.getElem?_eq_getElem hi⟩
  stops _ g := ⟨xs, g, rfl⟩
  yields i H v H' _ g := by
    rintro ⟨T, y, ev, new, eH, look⟩
    exact ⟨T, _, y, ev, new, eH, rfl, look xs g⟩
end Eb

set_option Elab.async false
set_option maxRecDepth 100000
set_option maxHeartbeats 2000000
set_option linter.all false
namespace Eb
open PySem PySem.Spec PyProof.Rows L2
section
variable {X : Cx}
theorem op_shrNN : OpR X (binaryOp .RShift) (fun x y H Q => ∃ n k : Nat, x = .int (n : Int) ∧ y = .int (k : Int) ∧ Q (.int ((n / 2 ^ k : Nat) : Int)) H) := by
  intro pins s σ H x y v u Q I rx ry h
  obtain ⟨n, k, rfl, rfl, q⟩ := h
  refine op_shrN pins s σ H _ _ v u Q I rx ry ⟨_, _, rfl, rfl, ?_⟩
  rw [show (n : Int) / 2 ^ k = ((n / 2 ^ k : Nat) : Int) by simp]
  exact q
theorem op_lowN : OpR X (binaryOp .BitAnd) (fun x y H Q => ∃ n : Nat, x = .int (n : Int) ∧ y = .int (-(n : Int)) ∧ 0 < n ∧ Q (.int ((2 ^ low n : Nat) : Int)) H) := by
  intro pins s σ H x y v u Q I rx ry h
  obtain ⟨n, rfl, rfl, hn, q⟩ := h
  refine op_and pins s σ H _ _ v u Q I rx ry ⟨_, _, rfl, rfl, ?_⟩
  show Q (.int (Builtin.bitAnd (n : Int) (-(n : Int)))) H
  rw [bitAnd_pn (by omega) (by omega)]
  have e : (Builtin.bitNot (-(n : Int))).toNat = n - 1 := by
    show (-(-(n : Int)) - 1).toNat = n - 1
    omega
  rw [e, Int.toNat_natCast]
  obtain ⟨h1, h2⟩ := low_pow n hn
  rw [show (n : Int) - ((n &&& (n - 1) : Nat) : Int) = ((2 ^ low n : Nat) : Int) by omega]
  exact q
theorem op_xorN : OpR X (binaryOp .BitXor) (fun x y H Q => ∃ n m : Nat, x = .int (n : Int) ∧ y = .int (m : Int) ∧ Q (.int ((n ^^^ m : Nat) : Int)) H) := by
  intro pins s σ H x y v u Q I rx ry h
  obtain ⟨n, m, rfl, rfl, q⟩ := h
  refine op_xor pins s σ H _ _ v u Q I rx ry ⟨_, _, rfl, rfl, ?_⟩
  show Q (.int (Builtin.bitXor (n : Int) (m : Int))) H
  have e : Builtin.bitXor (n : Int) (m : Int) = ((n ^^^ m : Nat) : Int) := by
    rw [Bits.bitXor_pp (by omega) (by omega)]; rfl
  rw [e]
  exact q
end
theorem intBits_nat (n : Nat) : Builtin.Int.intBits (n : Int) = bits n := by
  unfold Builtin.Int.intBits bits
  by_cases h : n = 0
  · subst h; rfl
  · rw [if_neg (by simpa using h), if_neg h]; rfl
section
variable {P : Program} {w : World} {K : PySem.W.Frag} {mg : Str → Option Value} {base : Heap}
/-! ### has -/
abbrev s_has : Stmt := topS 4
theorem sc_has : FnScope ["mask", "point"] ["mask", "point"] (defScope s_has) := ⟨rfl, rfl, rfl, by decide +kernel, rfl, by decide +kernel, by decide +kernel⟩
def spHas : Sp := fun vs H Q _ => ∃ m k : Nat, vs = [vn m, vn k] ∧ Q (.bl (m.testBit k)) H
theorem ok_has {f : Addr} {fd : FuncData} (F : Fun K "has" "has" s_has f fd) : FnOk P w K mg base CX0 1 f fd ["mask", "point"] spHas := by
  refine F.ok sc_has (fun vs H Q E h => ?_) (fun cdv A outer s H vs Q E hr h => ?_)
  · obtain ⟨m, k, rfl, _⟩ := h
    rfl
  · obtain ⟨m, k, rfl, q⟩ := h
    refine ⟨_, pss_one (ps_ret (pe_cmpR op_eqN (pe_op op_odd (pe_op op_shrNN (pv 0) (pv 1)) pe_int) pe_int (nomark _))), ?_⟩
    refine ⟨_, rfl, _, rfl, m, k, rfl, rfl, _, rfl, rfl, _, 1, rfl, rfl, ?_⟩
    rw [Nat.testBit_eq_decide_div_mod_eq] at q
    exact q
/-! ### lowest_of -/
abbrev s_low : Stmt := topS 5
theorem sc_low : FnScope ["mask"] ["mask"] (defScope s_low) := ⟨rfl, rfl, rfl, by decide +kernel, rfl, by decide +kernel, by decide +kernel⟩
def spLow : Sp := fun vs H Q _ => ∃ m : Nat, vs = [vn m] ∧ 0 < m ∧ Q (vn (low m)) H
theorem ok_low {f : Addr} {fd : FuncData} (F : Fun K "lowest_of" "lowest_of" s_low f fd) : FnOk P w K mg base CX0 1 f fd ["mask"] spLow := by
  refine F.ok sc_low (fun vs H Q E h => ?_) (fun cdv A outer s H vs Q E hr h => ?_)
  · obtain ⟨m, rfl, _⟩ := h
    rfl
  · obtain ⟨m, rfl, hm, q⟩ := h
    refine ⟨_, pss_one (ps_ret (pe_op op_subN (pe_bits (pe_op op_lowN (pv 0) (pe_un un_neg (pv 0)))) pe_int)), ?_⟩
    refine ⟨_, rfl, _, rfl, _, rfl, m, rfl, rfl, hm, _, rfl, _, 1, rfl, rfl, ?_, ?_⟩
    · rw [intBits_nat, bits_pow]; omega
    · rw [intBits_nat, bits_pow]
      exact q
/-! ### points_of -/
abbrev s_ptsof : Stmt := topS 6
theorem sc_ptsof : FnScope ["mask", "point"] ["mask"] (defScope s_ptsof) := ⟨rfl, rfl, rfl, by decide +kernel, rfl, by decide +kernel, by decide +kernel⟩
def spPtsof : Sp := fun vs H Q _ => ∃ m : Nat, vs = [vn m] ∧ m < 2 ^ 200 ∧ ∀ H' p, Same H H' → H p = none → H' p = some (.lst ((ptsOf m).map vn)) → Q (.ref p) H'
theorem bits_le {m k : Nat} (h : m < 2 ^ k) : bits m ≤ k := by
  unfold bits
  split
  · omega
  · rename_i h0
    have := (Nat.log2_lt h0).mpr h
    omega
theorem ok_ptsof {f : Addr} {fd : FuncData} (F : Fun K "points_of" "points_of" s_ptsof f fd) (mr : mg "range" = none) (ch : Cl P w K mg base 1 "has" ["mask", "point"] spHas) : FnOk P w K mg base CX0 2 f fd ["mask"] spPtsof := by
  refine F.ok sc_ptsof (fun vs H Q E h => ?_) (fun cdv A outer s H vs Q E hr h => ?_)
  · obtain ⟨m, rfl, _⟩ := h
    rfl
  · obtain ⟨m, rfl, hm, q⟩ := h
    have hb := bits_le hm
    refine ⟨_, pss_one (ps_ret (pe_lc (own := [("point", 1)]) (g := gName 1) (te := tVar 1) rfl sc_ptsof.nd (by exact pi_range1 rfl mr (pa_cons (pe_bits (pv 0)) pa_nil)) (blkOk_by (own := [("point", 1)]) (N := ["mask", "point"]) (sc := defScope s_ptsof) (by decide +kernel))
        (fun _ _ _ _ _ => pg_name (i := 1) sc_ptsof.nd rfl (Or.inl rfl)) (fun _ _ _ _ _ => pts_one (pt_val (pe_cl ch hr (by decide) (by rfl) (by exact (pa_cons (pv 0) (pa_cons (pv 1) pa_nil)))))) (fun _ _ _ _ _ => by exact pv 1))), ?_⟩
    refine ⟨_, rfl, _, rfl, _, rfl, ?_⟩
    rw [intBits_nat]
    refine ⟨by omega, by omega, fun D nD => ?_⟩
    rw [Int.toNat_natCast]
    refine lc_range (lo := 0) (n := bits m) (fun i H' => Same H H' ∧ H' D = some (.lst (((List.range i).filter fun j => m.testBit j).map vn))) ⟨same_upd nD, upd_same⟩ ?_ ?_
    · rintro i H' hi ⟨sm, hD⟩
      have ei : V.int (0 + (i : Int)) = vn i := by
        show V.int _ = V.int _
        congr 1
        omega
      rw [ei]
      refine ⟨rfl, _, rfl, _, rfl, m, i, rfl, _, rfl, ite2 (fun c => ?_) (fun c => ?_)⟩
      · refine ⟨_, rfl, _, hD, ?_, ?_, ?_⟩
        · rw [List.length_map]
          have := List.length_filter_le (fun j => m.testBit j) (List.range i)
          rw [List.length_range] at this
          exact small1000 (by omega)
        · intro b o e
          rw [upd_ne (ne_of_none e nD)]; exact sm _ _ e
        · rw [upd_same, List.range_succ, List.filter_append, List.map_append]
          simp only [List.filter_cons, List.filter_nil, c]
          rfl
      · refine ⟨sm, ?_⟩
        rw [hD, List.range_succ, List.filter_append]
        simp only [List.filter_cons, List.filter_nil, c]
        simp
    · rintro H' ⟨sm, hD⟩
      exact q H' D sm nD hD
/-! ### mask_up_to -/
abbrev s_upto : Stmt := topS 3
theorem sc_upto : FnScope ["top"] ["top"] (defScope s_upto) := ⟨rfl, rfl, rfl, by decide +kernel, rfl, by decide +kernel, by decide +kernel⟩
def spUpto : Sp := fun vs H Q _ => ∃ top : Nat, vs = [vn top] ∧ top ≤ 100 ∧ ∀ H', Same H H' → Q (vn (maskOf (List.range' 1 top))) H'
theorem rgV_one (top : Nat) : rgV 1 ((top + 1 : Nat) : Int) = (List.range' 1 top).map vn := by
  unfold rgV
  rw [show (((top + 1 : Nat) : Int) - 1).toNat = top by omega, List.range'_eq_map_range, List.map_map]
  apply List.map_congr_left
  intro i _
  show V.int _ = V.int _
  congr 1
theorem ok_upto {f : Addr} {fd : FuncData} (F : Fun K "mask_up_to" "mask_up_to" s_upto f fd) (mr : mg "range" = none) (ml : mg "list" = none) (cm : Cl P w K mg base 1 "mask_of" ["points"] (spMask K)) : FnOk P w K mg base CX0 2 f fd ["top"] spUpto := by
  refine F.ok sc_upto (fun vs H Q E h => ?_) (fun cdv A outer s H vs Q E hr h => ?_)
  · obtain ⟨m, rfl, _⟩ := h
    rfl
  · obtain ⟨top, rfl, ht, q⟩ := h
    refine ⟨_, pss_one (ps_ret (pe_cl cm hr (by decide) (by rfl) (pa_cons (pe_listRg rfl rfl ml (prg_2 rfl mr pe_int (pe_op op_addN (pv 0) pe_int))) pa_nil))), ?_⟩
    refine ⟨_, rfl, top, 1, rfl, rfl, _, _, rfl, rfl, RgOk.of_le (by omega) (by omega) (by omega) (by omega), fun r nr => ?_⟩
    refine ⟨r, List.range' 1 top, rfl, ?_, fun x hx => ?_, q _ (same_upd nr)⟩
    · rw [rgV_one]; exact .inl (.inl upd_same)
    · have := List.mem_range'_1.mp hx
      omega
end
end Eb

set_option Elab.async false
set_option maxRecDepth 100000
set_option maxHeartbeats 2000000
set_option linter.all false
namespace Eb
open PySem PySem.Spec PyProof.Rows L2
theorem plc_snoc (n : Nat) (q : Nat → Bool) : plc (n + 1) q = plc n q ++ (if q n = true then [n + 1] else []) := by
  unfold plc
  rw [List.range_succ, List.filter_append, List.map_append]
  congr 1
  simp only [List.filter_cons, List.filter_nil]
  split <;> rfl
theorem plc_length (n : Nat) (q : Nat → Bool) : (plc n q).length ≤ n := by
  unfold plc
  rw [List.length_map]
  have := List.length_filter_le q (List.range n)
  rwa [List.length_range] at this
theorem plc_le {n : Nat} {q : Nat → Bool} {x : Nat} (h : x ∈ plc n q) : x ≤ n := by
  unfold plc at h
  obtain ⟨j, hj, rfl⟩ := List.mem_map.mp h
  have := List.mem_range.mp (List.mem_filter.mp hj).1
  omega
theorem same_put {H H' : Hp} {p : Addr} {o : HO} (s : Same H H') (h : H p = none) : Same H (upd H' p o) := fun b x e => by
  rw [upd_ne (ne_of_none e h)]
  exact s _ _ e
section
variable {P : Program} {w : World} {K : PySem.W.Frag} {mg : Str → Option Value} {base : Heap}
/-! ### turned -/
abbrev s_turned : Stmt := topS 24
theorem sc_turned : FnScope ["top", "blocks", "shape", "point", "place", "block"] ["top", "blocks"] (defScope s_turned) := ⟨rfl, rfl, rfl, by decide +kernel, rfl, by decide +kernel, by decide +kernel⟩
def spTurned (K : PySem.W.Frag) : Sp := fun vs H Q _ => ∃ (a : Addr) (top : Nat) (ms : List Nat), vs = [vn top, .ref a] ∧ SqL K H a (ms.map vn) ∧ top ≤ 100 ∧ ms.length ≤ 100 ∧ ∀ H' p, Same H H' → H p = none → H' p = some (.lst ((turnM top ms).map vn)) → Q (.ref p) H'
theorem okf_turned {f : Addr} {fd : FuncData} (F : Fun K "turned" "turned" s_turned f fd) (mr : mg "range" = none) (me : mg "enumerate" = none) (ch : Cl P w K mg base 1 "has" ["mask", "point"] spHas) (cm : Cl P w K mg base 1 "mask_of" ["points"] (spMask K)) : FnOk P w K mg base CX0 2 f fd ["top", "blocks"] (spTurned K) := by
  refine F.ok sc_turned (fun vs H Q E h => ?_) (fun cdv A outer s H vs Q E hr h => ?_)
  · obtain ⟨a, top, ms, rfl, _⟩ := h
    rfl
  · obtain ⟨a, top, ms, rfl, hS, ht, hl, q⟩ := h
    refine ⟨_, pss_cons (ps_set (i := 2) sc_turned.nd rfl (.inl rfl) (pe_lst pa_nil))
      (pss_cons (ps_for PassesOwn.never rfl (pi_range2 rfl mr (pa_cons pe_int (pa_cons (pe_op op_addN (pv 0) pe_int) pa_nil))) (pg_name (i := 3) sc_turned.nd rfl (.inr rfl))
        (pss_one (ps_expr (pe_bm PySem.F.plainAttrs_list PySem.F.slot_list_append PySem.F.type_list_append mt_append (pv 2) (pa_cons
          (pe_cl cm hr (by decide) (by rfl) (pa_cons
            (pe_lc (own := [("place", 4), ("block", 5)]) (g := gTup K 2 (gCons (gName 4) (gCons (gName 5) gNil))) (te := tVar 4) rfl sc_turned.nd (by exact pi_enumS (c := 1) (by decide) (by decide) rfl me (pa_cons (pv 1) pa_nil) pe_int) (blkOk_by (own := [("place", 4), ("block", 5)]) (N := ["top", "blocks", "shape", "point", "place", "block"]) (sc := defScope s_turned) (by decide +kernel))
              (fun _ _ _ _ _ => pg_tup rfl (pgs_cons (pg_name (i := 4) sc_turned.nd rfl (Or.inl rfl)) (pgs_cons (pg_name (i := 5) sc_turned.nd rfl (Or.inl rfl)) pgs_nil))) (fun _ _ _ _ _ => pts_one (pt_val (pe_cl ch hr (by decide) (by rfl) (by exact (pa_cons (pv 5) (pa_cons (pv 3) pa_nil)))))) (fun _ _ _ _ _ => by exact pv 4)) pa_nil)) pa_nil)))))
      (pss_one (ps_ret (pv 2)))), ?_⟩
    refine ⟨Nat.zero_le _, fun o no => ?_⟩
    have s1 : Same H (upd H o (.lst [])) := same_upd no
    refine ⟨_, rfl, top, 1, rfl, rfl, 1, _, rfl, ⟨by omega, by omega, by omega, by omega⟩, ?_⟩
    have en : (((top + 1 : Nat) : Int) - 1).toNat = top := by omega
    rw [en]
    refine for_range (lo := 1) (n := top) (fun i σ H' => ∃ v3, σ = [some (vn top), some (.ref a), some (.ref o), v3, none, none] ∧ Same H H' ∧ H' o = some (.lst ((turnM i ms).map vn)))
      ⟨none, rfl, s1, upd_same⟩ ?_ ?_
    · rintro i σ H2 hi ⟨v3, rfl, sm, ho⟩
      have ei : V.int (1 + (i : Int)) = vn (1 + i) := by
        show V.int _ = V.int _
        congr 1
      rw [ei]
      refine ⟨_, rfl, .inl ⟨rfl, _, .inl (.inl ho)⟩, _, rfl, a, ms.map vn, rfl, sm.seq hS, fun D nD => ?_⟩
      refine lc_it walk_enumS (fun j H' => Same H2 H' ∧ H' D = some (.lst ((plc j fun z => (ms.getD z 0).testBit (1 + i)).map vn))) ⟨same_upd nD, upd_same⟩ (fun j H' _ ⟨s2, _⟩ => s2.seq (sm.seq hS)) ?_ ?_
      · rintro j x H3 H4 hj ⟨s3, hD⟩ ⟨T, x1, x2, rfl, nT, rfl, e1, e2⟩
        rw [List.length_map] at hj
        obtain rfl : x1 = .int (1 + (j : Nat)) := (Option.some.inj e1).symm
        obtain ⟨b, hb, rfl⟩ := get_map e2
        have eb : ms.getD j 0 = b := by rw [List.getD_eq_getElem?_getD, hb]; rfl
        have sT : Same H3 (upd H3 T (.tup [.int (1 + (j : Nat)), vn b])) := same_upd nT
        refine ⟨T, _, rfl, .inl (.inl upd_same), rfl, _, _, rfl, _, _, rfl, rfl, rfl, ?_⟩
        refine ⟨_, rfl, _, rfl, b, 1 + i, rfl, _, rfl, ite2 (fun c => ?_) (fun c => ?_)⟩
        · refine ⟨_, rfl, _, sT _ _ hD, ?_, same_put (s3.trans sT) nD, ?_⟩
          · rw [List.length_map]
            have := plc_length j fun z => (ms.getD z 0).testBit (1 + i)
            exact small1000 (by omega)
          · rw [upd_same, plc_snoc, eb, if_pos c, List.map_append]
            show some (HO.lst (_ ++ [V.int (1 + (j : Int))])) = some (HO.lst (_ ++ [V.int ((j + 1 : Nat) : Int)]))
            rw [show (1 + (j : Int)) = ((j + 1 : Nat) : Int) by omega]
        · refine ⟨s3.trans sT, ?_⟩
          rw [sT _ _ hD, plc_snoc, eb, if_neg c, List.append_nil]
      · rintro H3 ⟨s3, hD⟩
        rw [List.length_map] at hD
        refine ⟨D, _, rfl, .inl (.inl hD), fun x hx => ?_, ?_⟩
        · have := plc_le hx
          omega
        · have ho3 := s3 _ _ ho
          refine ⟨o, _, _, rfl, rfl, ho3, ?_, _, rfl, same_put (sm.trans s3) no, ?_⟩
          · rw [List.length_map]
            unfold turnM
            rw [List.length_map, List.length_range']
            exact small1000 (by omega)
          · rw [upd_same]
            unfold turnM
            rw [List.range'_concat, List.map_append, List.map_append]
            simp
    · rintro σ H' ⟨v3, rfl, sm, ho⟩
      exact ⟨_, rfl, q H' o sm no ho⟩
/-! ### filled -/
abbrev s_filled : Stmt := topS 25
theorem sc_filled : FnScope ["top", "blocks", "every", "block"] ["top", "blocks"] (defScope s_filled) := ⟨rfl, rfl, rfl, by decide +kernel, rfl, by decide +kernel, by decide +kernel⟩
def spFilled (K : PySem.W.Frag) : Sp := fun vs H Q _ => ∃ (a : Addr) (top : Nat) (ms : List Nat), vs = [vn top, .ref a] ∧ SqL K H a (ms.map vn) ∧ top ≤ 100 ∧ ms.length ≤ 100 ∧ ∀ H' p, Same H H' → H p = none → H' p = some (.lst ((fillM top ms).map vn)) → Q (.ref p) H'
theorem okf_filled {f : Addr} {fd : FuncData} (F : Fun K "filled" "filled" s_filled f fd) (cu : Cl P w K mg base 2 "mask_up_to" ["top"] spUpto) : FnOk P w K mg base CX0 3 f fd ["top", "blocks"] (spFilled K) := by
  refine F.ok sc_filled (fun vs H Q E h => ?_) (fun cdv A outer s H vs Q E hr h => ?_)
  · obtain ⟨a, top, ms, rfl, _⟩ := h
    rfl
  · obtain ⟨a, top, ms, rfl, hS, ht, hl, q⟩ := h
    refine ⟨_, pss_cons (ps_set (i := 2) sc_filled.nd rfl (.inr rfl) (pe_cl cu hr (by decide) (by rfl) (pa_cons (pv 0) pa_nil)))
      (pss_one (ps_ret (pe_lc (own := [("block", 3)]) (g := gName 3) (tt := tYes) (te := tOp (fun x y H Q => ∃ n m : Nat, x = .int (n : Int) ∧ y = .int (m : Int) ∧ Q (.int ((n ^^^ m : Nat) : Int)) H) (tVar 2) (tVar 3)) rfl sc_filled.nd (by exact pi_list (pv 1)) (blkOk_by (own := [("block", 3)]) (N := ["top", "blocks", "every", "block"]) (sc := defScope s_filled) (by decide +kernel))
        (fun _ _ _ _ _ => pg_name (i := 3) sc_filled.nd rfl (Or.inl rfl)) (fun _ _ _ _ _ => pts_nil) (fun _ _ _ _ _ => by exact pe_op op_xorN (pv 2) (pv 3))))), ?_⟩
    refine ⟨_, rfl, top, rfl, ht, fun H1 s1 => ?_⟩
    refine ⟨_, rfl, a, rfl, ⟨_, s1.seq hS⟩, fun D nD => lc_list (K := K) (a := a) (xs := ms.map vn)
      (fun i H' => Same H1 H' ∧ H' D = some (.lst ((fillM top (ms.take i)).map vn))) ⟨same_upd nD, by rw [upd_same, List.take_zero]; rfl⟩ (fun i H' _ ⟨s2, _⟩ => s2.seq (s1.seq hS)) ?_ ?_⟩
    · rintro i x H' hi ⟨sm, hD⟩
      obtain ⟨n, hn, rfl⟩ := get_map hi
      refine ⟨rfl, _, rfl, _, rfl, _, n, rfl, rfl, _, hD, ?_, same_put sm nD, ?_⟩
      · rw [List.length_map]
        unfold fillM
        rw [List.length_map, List.length_take]
        exact small1000 (by omega)
      · rw [upd_same, take_more hn]
        unfold fillM
        rw [List.map_append, List.map_append]
        rfl
    · rintro H' ⟨sm, hD⟩
      rw [List.length_map, List.take_length] at hD
      exact q H' D (s1.trans sm) (s1.free nD) hD
/-! ### renumbered -/
abbrev s_renum : Stmt := topS 26
theorem sc_renum : FnScope ["block", "kept", "place", "point"] ["block", "kept"] (defScope s_renum) := ⟨rfl, rfl, rfl, by decide +kernel, rfl, by decide +kernel, by decide +kernel⟩
def spRenum (K : PySem.W.Frag) : Sp := fun vs H Q _ => ∃ (a : Addr) (m : Nat) (ks : List Nat), vs = [vn m, .ref a] ∧ SqL K H a (ks.map vn) ∧ ks.length ≤ 100 ∧ ∀ H', Same H H' → Q (vn (renM ks m)) H'
theorem okf_renum {f : Addr} {fd : FuncData} (F : Fun K "renumbered" "renumbered" s_renum f fd) (me : mg "enumerate" = none) (ch : Cl P w K mg base 1 "has" ["mask", "point"] spHas) (cm : Cl P w K mg base 1 "mask_of" ["points"] (spMask K)) : FnOk P w K mg base CX0 2 f fd ["block", "kept"] (spRenum K) := by
  refine F.ok sc_renum (fun vs H Q E h => ?_) (fun cdv A outer s H vs Q E hr h => ?_)
  · obtain ⟨a, m, ks, rfl, _⟩ := h
    rfl
  · obtain ⟨a, m, ks, rfl, hS, hl, q⟩ := h
    refine ⟨_, pss_one (ps_ret (pe_cl cm hr (by decide) (by rfl) (pa_cons
            (pe_lc (own := [("place", 2), ("point", 3)]) (g := gTup K 2 (gCons (gName 2) (gCons (gName 3) gNil))) (te := tVar 2) rfl sc_renum.nd (by exact pi_enumS (c := 1) (by decide) (by decide) rfl me (pa_cons (pv 1) pa_nil) pe_int) (blkOk_by (own := [("place", 2), ("point", 3)]) (N := ["block", "kept", "place", "point"]) (sc := defScope s_renum) (by decide +kernel))
              (fun _ _ _ _ _ => pg_tup rfl (pgs_cons (pg_name (i := 2) sc_renum.nd rfl (Or.inl rfl)) (pgs_cons (pg_name (i := 3) sc_renum.nd rfl (Or.inl rfl)) pgs_nil))) (fun _ _ _ _ _ => pts_one (pt_val (pe_cl ch hr (by decide) (by rfl) (by exact (pa_cons (pv 0) (pa_cons (pv 3) pa_nil)))))) (fun _ _ _ _ _ => by exact pv 2)) pa_nil))), ?_⟩
    refine ⟨_, rfl, a, ks.map vn, rfl, hS, fun D nD => ?_⟩
    refine lc_it walk_enumS (fun j H' => Same H H' ∧ H' D = some (.lst ((plc j fun z => m.testBit (ks.getD z 0)).map vn))) ⟨same_upd nD, upd_same⟩ (fun j H' _ ⟨s2, _⟩ => s2.seq hS) ?_ ?_
    · rintro j x H3 H4 hj ⟨s3, hD⟩ ⟨T, x1, x2, rfl, nT, rfl, e1, e2⟩
      rw [List.length_map] at hj
      obtain rfl : x1 = .int (1 + (j : Nat)) := (Option.some.inj e1).symm
      obtain ⟨b, hb, rfl⟩ := get_map e2
      have eb : ks.getD j 0 = b := by rw [List.getD_eq_getElem?_getD, hb]; rfl
      have sT : Same H3 (upd H3 T (.tup [.int (1 + (j : Nat)), vn b])) := same_upd nT
      refine ⟨T, _, rfl, .inl (.inl upd_same), rfl, _, _, rfl, _, _, rfl, rfl, rfl, ?_⟩
      refine ⟨_, rfl, _, rfl, m, b, rfl, _, rfl, ite2 (fun c => ?_) (fun c => ?_)⟩
      · refine ⟨_, rfl, _, sT _ _ hD, ?_, same_put (s3.trans sT) nD, ?_⟩
        · rw [List.length_map]
          have := plc_length j fun z => m.testBit (ks.getD z 0)
          exact small1000 (by omega)
        · rw [upd_same, plc_snoc, eb, if_pos c, List.map_append]
          show some (HO.lst (_ ++ [V.int (1 + (j : Int))])) = some (HO.lst (_ ++ [V.int ((j + 1 : Nat) : Int)]))
          rw [show (1 + (j : Int)) = ((j + 1 : Nat) : Int) by omega]
      · refine ⟨s3.trans sT, ?_⟩
        rw [sT _ _ hD, plc_snoc, eb, if_neg c, List.append_nil]
    · rintro H3 ⟨s3, hD⟩
      rw [List.length_map] at hD
      refine ⟨D, _, rfl, .inl (.inl hD), fun x hx => ?_, q H3 s3⟩
      have := plc_le hx
      omega
/-! ### points_besides -/
abbrev s_ptsb : Stmt := topS 27
theorem sc_ptsb : FnScope ["top", "point", "other"] ["top", "point"] (defScope s_ptsb) := ⟨rfl, rfl, rfl, by decide +kernel, rfl, by decide +kernel, by decide +kernel⟩
def spPtsb : Sp := fun vs H Q _ => ∃ (top x : Nat), vs = [vn top, vn x] ∧ top ≤ 100 ∧ ∀ H' p, Same H H' → H p = none → H' p = some (.lst (((List.range' 1 top).filter fun y => !decide (y = x)).map vn)) → Q (.ref p) H'
theorem okf_ptsb {f : Addr} {fd : FuncData} (F : Fun K "points_besides" "points_besides" s_ptsb f fd) (mr : mg "range" = none) : FnOk P w K mg base CX0 1 f fd ["top", "point"] spPtsb := by
  refine F.ok sc_ptsb (fun vs H Q E h => ?_) (fun cdv A outer s H vs Q E hr h => ?_)
  · obtain ⟨top, x, rfl, _⟩ := h
    rfl
  · obtain ⟨top, x, rfl, ht, q⟩ := h
    refine ⟨_, pss_one (ps_ret (pe_lc (own := [("other", 2)]) (g := gName 2) (te := tVar 2) rfl sc_ptsb.nd (by exact pi_range2 rfl mr (pa_cons pe_int (pa_cons (pe_op op_addN (pv 0) pe_int) pa_nil))) (blkOk_by (own := [("other", 2)]) (N := ["top", "point", "other"]) (sc := defScope s_ptsb) (by decide +kernel))
        (fun _ _ _ _ _ => pg_name (i := 2) sc_ptsb.nd rfl (Or.inl rfl)) (fun _ _ _ _ _ => pts_one (by exact pt_cmpR op_neN (pv 2) (pv 1) (nomark _))) (fun _ _ _ _ _ => by exact pv 2))), ?_⟩
    refine ⟨_, rfl, top, 1, rfl, rfl, 1, _, rfl, ⟨by omega, by omega, by omega, by omega⟩, fun D nD => ?_⟩
    have en : (((top + 1 : Nat) : Int) - 1).toNat = top := by omega
    rw [en]
    refine lc_range (lo := 1) (n := top) (fun i H' => Same H H' ∧ H' D = some (.lst (((List.range' 1 i).filter fun y => !decide (y = x)).map vn))) ⟨same_upd nD, upd_same⟩ ?_ ?_
    · rintro i H' hi ⟨sm, hD⟩
      have ei : V.int (1 + (i : Int)) = vn (1 + i) := by
        show V.int _ = V.int _
        congr 1
      rw [ei]
      refine ⟨rfl, _, rfl, _, rfl, 1 + i, x, rfl, rfl, _, rfl, ite2 (fun c => ?_) (fun c => ?_)⟩
      · refine ⟨_, rfl, _, hD, ?_, same_put sm nD, ?_⟩
        · rw [List.length_map]
          have := List.length_filter_le (fun y => !decide (y = x)) (List.range' 1 i)
          rw [List.length_range'] at this
          exact small1000 (by omega)
        · rw [upd_same, List.range'_concat, List.filter_append, List.map_append]
          simp only [List.filter_cons, List.filter_nil, Nat.one_mul, c]
          rfl
      · refine ⟨sm, ?_⟩
        rw [hD, List.range'_concat, List.filter_append]
        simp only [List.filter_cons, List.filter_nil, Nat.one_mul, c]
        simp
    · rintro H' ⟨sm, hD⟩
      exact q H' D sm nD hD
/-! ### blocks_besides -/
abbrev s_blkb : Stmt := topS 28
theorem sc_blkb : FnScope ["blocks", "number"] ["blocks", "number"] (defScope s_blkb) := ⟨rfl, rfl, rfl, by decide +kernel, rfl, by decide +kernel, by decide +kernel⟩
def spBlkb (K : PySem.W.Frag) : Sp := fun vs H Q _ => ∃ (a : Addr) (ms : List Nat) (n : Nat), vs = [.ref a, vn n] ∧ SqL K H a (ms.map vn) ∧ ms.length ≤ 100 ∧ ∀ H' p, Same H H' → H p = none → H' p = some (.lst ((others ms n).map vn)) → Q (.ref p) H'
theorem cut_to (xs : List V) (k : Nat) : cutV xs none (some (k : Int)) = xs.take k := by
  unfold cutV
  rw [HT.sIx_nat xs.length xs.length k, HT.sIx_none]
  by_cases h : k ≤ xs.length
  · rw [Nat.min_eq_left h, List.drop_zero, Nat.sub_zero]
  · rw [Nat.min_eq_right (by omega), List.drop_zero, Nat.sub_zero, List.take_length, List.take_of_length_le (by omega)]
theorem okf_blkb {f : Addr} {fd : FuncData} (F : Fun K "blocks_besides" "blocks_besides" s_blkb f fd) : FnOk P w K mg base CX0 1 f fd ["blocks", "number"] (spBlkb K) := by
  refine F.ok sc_blkb (fun vs H Q E h => ?_) (fun cdv A outer s H vs Q E hr h => ?_)
  · obtain ⟨a, ms, n, rfl, _⟩ := h
    rfl
  · obtain ⟨a, ms, n, rfl, hS, hl, q⟩ := h
    refine ⟨_, pss_one (ps_ret (pe_op op_cat (pe_slice sl_list (pv 0) po_none (po_some (pv 1))) (pe_slice sl_list (pv 0) (po_some (pe_op op_addN (pv 1) pe_int)) po_none))), ?_⟩
    refine ⟨_, rfl, _, rfl, _, rfl, a, _, rfl, hS, fun c nc => ?_⟩
    rw [cut_to, ← List.map_take]
    have sc : Same H (upd H c (.lst ((ms.take n).map vn))) := same_upd nc
    refine ⟨_, rfl, _, rfl, n, 1, rfl, rfl, _, rfl, a, _, rfl, sc.seq hS, fun d nd => ?_⟩
    rw [cut_from, ← List.map_drop]
    have sd : Same (upd H c (.lst ((ms.take n).map vn))) (upd (upd H c (.lst ((ms.take n).map vn))) d (.lst ((ms.drop (n + 1)).map vn))) := same_upd nd
    refine ⟨c, d, _, _, rfl, rfl, sd _ _ upd_same, upd_same, ?_, fun r nr => ?_⟩
    · rw [List.length_map, List.length_map, List.length_take, List.length_drop]
      exact Nat.le_of_lt (small1000 (by omega))
    · refine q _ r (sc.trans (sd.trans (same_upd nr))) (sc.free (sd.free nr)) ?_
      rw [upd_same]
      unfold others
      rw [List.map_append]
end
end Eb

set_option Elab.async false
set_option maxRecDepth 100000
set_option maxHeartbeats 2000000
set_option linter.all false
namespace Eb
open PySem PySem.Spec PyProof.Rows L2
open Dg01 (Plan become shown)
/-- what a def that changes the plan must reach: the plan R.1, the answer R.2 -/
def Gets (C : Addr) (H : Hp) (pl bl : Addr) (R : Plan × List Int) (Q : VK) : Prop := ∀ H' r bl', PlanAt C H' pl bl' R.1 → (bl' = bl ∨ H bl' = none) → (∀ b o, H b = some o → b ≠ pl → b ≠ bl → H' b = some o) → H r = none → H' r = some (.lst (R.2.map V.int)) → Q (.ref r) H'
theorem Gets.lift {C : Addr} {H H1 : Hp} {pl bl : Addr} {R : Plan × List Int} {Q : VK} (g : Gets C H pl bl R Q) (s : Same H H1) : Gets C H1 pl bl R Q :=
  fun H' r bl' h1 h2 h3 h4 h5 => g H' r bl' h1 (h2.imp id s.free) (fun b o e n1 n2 => h3 b o (s _ _ e) n1 n2) (s.free h4) h5
theorem Gets.one {C : Addr} {H : Hp} {pl bl : Addr} {s : Plan} {z : Int} {Q : VK} (g : Gets C H pl bl (s, [z]) Q) (hP : PlanAt C H pl bl s) : [V.int z].length ≤ sizeLine ∧ ∀ p, H p = none → Q (.ref p) (upd H p (.lst [V.int z])) :=
  ⟨by show 1 ≤ sizeLine; decide, fun p np => g _ p bl (hP.same (same_upd np)) (.inl rfl) (fun b o e _ _ => same_upd np _ _ e) np upd_same⟩
theorem mask_small {s : Plan} (hO : Ok s) {m : Nat} (h : m ∈ masks s) : m < 2 ^ 200 := by
  unfold masks at h
  obtain ⟨b, hb, rfl⟩ := List.mem_map.mp h
  have hN := hO.wf.norm b hb
  have h1 : maskOf b < 2 ^ 21 := mask_lt fun x hx => by
    have := (hN.mem hx).2
    have := hO.hi
    omega
  exact Nat.lt_of_lt_of_le h1 (Nat.pow_le_pow_right (by decide) (by decide))
section
variable {P : Program} {w : World} {K : PySem.W.Frag} {mg : Str → Option Value} {base : Heap} {C : Addr}
/-! ### plan_told -/
abbrev s_told : Stmt := topS 51
theorem sc_told : FnScope ["plan", "answer", "block"] ["plan"] (defScope s_told) := ⟨rfl, rfl, rfl, by decide +kernel, rfl, by decide +kernel, by decide +kernel⟩
def spTold (C : Addr) : Sp := fun vs H Q _ => ∃ (pl bl : Addr) (s : Plan), vs = [.ref pl] ∧ PlanAt C H pl bl s ∧ Ok s ∧ ∀ H' r, Same H H' → H r = none → H' r = some (.lst ((shown s).map V.int)) → Q (.ref r) H'
theorem okf_told {f : Addr} {fd : FuncData} (F : Fun K "plan_told" "plan_told" s_told f fd) (T : Tx K mg C) (cs : Cl P w K mg base 1 "size_of" ["mask"] spSize) (cp : Cl P w K mg base 2 "points_of" ["mask"] spPtsof) : FnOk P w K mg base CX0 3 f fd ["plan"] (spTold C) := by
  refine F.ok sc_told (fun vs H Q E h => ?_) (fun cdv A outer s H vs Q E hr h => ?_)
  · obtain ⟨pl, bl, p, rfl, _⟩ := h
    rfl
  · obtain ⟨pl, bl, p, rfl, hP, hO, q⟩ := h
    obtain ⟨dx, hpl⟩ := hP.ins
    have hbl := hP.lst
    refine ⟨_, pss_cons (ps_set (i := 1) sc_told.nd rfl (.inl rfl) (pe_lst (pa_cons (pe_fld (pv 0) rfl) (pa_cons (pe_callB call_len_seq (by rfl) T.len PySem.boot_len (pa_cons (pe_fld (pv 0) rfl) pa_nil)) pa_nil))))
      (pss_cons (ps_for PassesOwn.never rfl (pi_list (pe_fld (pv 0) rfl)) (pg_name (i := 2) sc_told.nd rfl (.inl rfl))
        (pss_cons (ps_expr (pe_bm PySem.F.plainAttrs_list PySem.F.slot_list_append PySem.F.type_list_append mt_append (pv 1) (pa_cons (pe_cl cs hr (by decide) (by rfl) (pa_cons (pv 2) pa_nil)) pa_nil)))
        (pss_one (ps_expr (pe_bm PySem.F.plainAttrs_list PySem.F.slot_list_extend PySem.F.type_list_extend mt_extend (pv 1) (pa_cons (pe_cl cp hr (by decide) (by rfl) (pa_cons (pv 2) pa_nil)) pa_nil))))))
      (pss_one (ps_ret (pv 1)))), ?_⟩
    refine ⟨_, rfl, pl, C, dx, _, _, rfl, hpl, T.cl, T.nT, pF_top p bl, _, rfl, pl, C, dx, _, _, rfl, hpl, T.cl, T.nB, pF_blocks p bl, bl, _, rfl, .inl (.inl (.inl hbl)), (by show 2 ≤ sizeLine; decide), fun o no => ?_⟩
    have s1 : Same H (upd H o (.lst [vn p.many, .int (((masks p).map vn).length : Nat)])) := same_upd no
    refine ⟨_, rfl, pl, C, dx, _, _, rfl, s1 _ _ hpl, T.cl, T.nB, pF_blocks p bl, bl, rfl, ⟨_, .inl (.inl (s1 _ _ hbl))⟩, for_list (K := K) (a := bl) (xs := (masks p).map vn)
      (fun i σ H' => ∃ v2, σ = [some (.ref pl), some (.ref o), v2] ∧ Same H H' ∧ H' o = some (.lst (([p.many, (masks p).length] ++ ((masks p).take i).flatMap fun m => pc m :: ptsOf m).map vn)))
      ⟨none, rfl, s1, ?_⟩ (fun i σ H' _ ⟨_, _, s2, _⟩ => .inl (.inl (s2 _ _ hbl))) ?_ ?_⟩
    · rw [upd_same, List.take_zero, List.length_map]
      rfl
    · rintro i y σ H' hi ⟨v2, rfl, sm, ho⟩
      obtain ⟨m, hm, rfl⟩ := get_map hi
      have hmm := List.mem_of_getElem? hm
      have hlen := toldM_length hO.wf hO.hi hO.few i
      have hlen2 := toldM_length hO.wf hO.hi hO.few (i + 1)
      rw [take_more hm, List.flatMap_append, List.flatMap_cons, List.flatMap_nil, List.append_nil, List.length_append, List.length_cons] at hlen2
      refine ⟨_, rfl, .inl ⟨rfl, _, .inl (.inl ho)⟩, _, rfl, m, rfl, o, _, _, rfl, rfl, ho, ?_, ?_⟩
      · rw [List.length_map, List.length_append]
        exact small1000 (by show 2 + _ ≤ 1000; omega)
      have s2 : Same H (upd H' o (.lst (([p.many, (masks p).length] ++ ((masks p).take i).flatMap fun m => pc m :: ptsOf m).map vn ++ [vn (pc m)]))) := same_put sm no
      refine ⟨_, rfl, .inl ⟨rfl, _, .inl (.inl upd_same)⟩, _, rfl, m, rfl, mask_small hO hmm, fun H3 r s3 nr hr3 => ?_⟩
      have ho3 := s3 _ _ (upd_same (H := H') (a := o))
      refine ⟨o, r, _, _, rfl, rfl, ho3, hr3, ?_, some (vn m), rfl, same_put (s2.trans s3) no, ?_⟩
      · simp only [List.length_map, List.length_append, List.length_cons, List.length_nil]
        exact Nat.le_of_lt (small1000 (by omega))
      · rw [upd_same, take_more hm, List.flatMap_append, List.flatMap_cons, List.flatMap_nil, List.append_nil]
        simp
    · rintro σ H' ⟨v2, rfl, sm, ho⟩
      rw [List.length_map, List.take_length] at ho
      refine ⟨_, rfl, q H' o sm no ?_⟩
      rw [told_is hO.wf, ints_vn]
      exact ho
/-! ### reshape -/
abbrev s_reshape : Stmt := topS 52
theorem sc_reshape : FnScope ["plan", "top", "blocks"] ["plan", "top", "blocks"] (defScope s_reshape) := ⟨rfl, rfl, rfl, by decide +kernel, rfl, by decide +kernel, by decide +kernel⟩
def spReshape (C : Addr) : Sp := fun vs H Q _ => ∃ (pl bl nb : Addr) (s q : Plan), vs = [.ref pl, vn q.many, .ref nb] ∧ PlanAt C H pl bl s ∧ H nb = some (.lst ((masks q).map vn)) ∧ (¬ q.many = 0 → Ok q) ∧
  ∀ H' r bl', PlanAt C H' pl bl' (become s q).1 → (bl' = bl ∨ bl' = nb) → (∀ b o, H b = some o → b ≠ pl → H' b = some o) → H r = none → H' r = some (.lst ((become s q).2.map V.int)) → Q (.ref r) H'
theorem okf_reshape {f : Addr} {fd : FuncData} (F : Fun K "reshape" "reshape" s_reshape f fd) (T : Tx K mg C) (gp : G mg "NO_POINT_LEFT" (.int (-5))) (ct : Cl P w K mg base 3 "plan_told" ["plan"] (spTold C)) : FnOk P w K mg base CX0 4 f fd ["plan", "top", "blocks"] (spReshape C) := by
  refine F.ok sc_reshape (fun vs H Q E h => ?_) (fun cdv A outer s H vs Q E hr h => ?_)
  · obtain ⟨pl, bl, nb, p, q, rfl, _⟩ := h
    rfl
  · obtain ⟨pl, bl, nb, p, q, rfl, hP, hnb, hOq, g⟩ := h
    obtain ⟨dx, hpl⟩ := hP.ins
    refine ⟨_, pss_cons (ps_if (pt_cmpR op_eqN (pv 1) pe_int (nomark _)) (pss_one (ps_ret (pe_lst (pa_cons (pe_g gp) pa_nil)))) pss_nil)
      (pss_cons (ps_fld (pv 0) (pv 1) rfl)
      (pss_cons (ps_fld (pv 0) (pv 2) rfl)
      (pss_one (ps_ret (pe_cl ct hr (by decide) (by rfl) (pa_cons (pv 0) pa_nil)))))), ?_⟩
    refine ⟨_, rfl, q.many, 0, rfl, rfl, _, rfl, ite2 (fun c => ?_) (fun c => ?_)⟩
    · have hc : q.many = 0 := of_decide_eq_true c
      have st : become p q = (p, [-5]) := if_pos (.inl hc)
      rw [st] at g
      exact ⟨by show 1 ≤ sizeLine; decide, fun r nr => g _ r bl (hP.same (same_upd nr)) (.inl rfl) (fun b o e _ => same_upd nr _ _ e) nr upd_same⟩
    · have hc : ¬ q.many = 0 := fun z => c (decide_eq_true z)
      have hO := hOq hc
      have st : become p q = (q, shown q) := if_neg (by have := hO.hi; omega)
      rw [st] at g
      have nbpl : nb ≠ pl := ne_of hnb hpl (by intro z; cases z)
      refine ⟨_, rfl, _, rfl, pl, C, dx, _, rfl, hpl, T.cl, T.nT, (by show 2 < 1000; decide), ?_⟩
      refine ⟨_, rfl, _, rfl, pl, C, dx, _, rfl, upd_same, T.cl, T.nB, (by show 2 < 1000; decide), ?_⟩
      have hP2 : PlanAt C (upd (upd H pl (.ins C dx (putF "top" (vn q.many) (pF p bl)))) pl (.ins C dx (putF "blocks" (.ref nb) (putF "top" (vn q.many) (pF p bl))))) pl nb q := by
        refine ⟨⟨dx, ?_⟩, ?_⟩
        · rw [upd_same, pF_put_top, pF_put_blocks]
          rfl
        · rw [upd_ne nbpl, upd_ne nbpl]
          exact hnb
      refine ⟨_, rfl, pl, nb, q, rfl, hP2, hO, fun H' r sm nr hr' => ?_⟩
      have hrn : H r = none := by
        have : r ≠ pl := by
          intro e
          rw [e, upd_same] at nr
          cases nr
        rw [upd_ne this, upd_ne this] at nr
        exact nr
      refine g H' r nb (hP2.same sm) (.inr rfl) (fun b o e n1 => ?_) hrn hr'
      apply sm
      rw [upd_ne n1, upd_ne n1]
      exact e
/-! ### narrow -/
abbrev s_narrow : Stmt := topS 53
theorem sc_narrow : FnScope ["plan", "kept", "blocks", "block"] ["plan", "kept", "blocks"] (defScope s_narrow) := ⟨rfl, rfl, rfl, by decide +kernel, rfl, by decide +kernel, by decide +kernel⟩
def spNarrow (K : PySem.W.Frag) (C : Addr) : Sp := fun vs H Q _ => ∃ (pl bl k b : Addr) (s q : Plan) (ks ms : List Nat), vs = [.ref pl, .ref k, .ref b] ∧ PlanAt C H pl bl s ∧ SqL K H k (ks.map vn) ∧ SqL K H b (ms.map vn) ∧ masks q = ms.map (renM ks) ∧ q.many = ks.length ∧ (¬ q.many = 0 → Ok q) ∧ ks.length ≤ 100 ∧ ms.length ≤ 100 ∧ Gets C H pl bl (become s q) Q
theorem okf_narrow {f : Addr} {fd : FuncData} (F : Fun K "narrow" "narrow" s_narrow f fd) (T : Tx K mg C) (cr : Cl P w K mg base 4 "reshape" ["plan", "top", "blocks"] (spReshape C)) (cn : Cl P w K mg base 2 "renumbered" ["block", "kept"] (spRenum K)) : FnOk P w K mg base CX0 5 f fd ["plan", "kept", "blocks"] (spNarrow K C) := by
  refine F.ok sc_narrow (fun vs H Q E h => ?_) (fun cdv A outer s H vs Q E hr h => ?_)
  · obtain ⟨pl, bl, k, b, p, q, ks, ms, rfl, _⟩ := h
    rfl
  · obtain ⟨pl, bl, k, b, p, q, ks, ms, rfl, hP, hk, hb, hmq, hqm, hOq, hkl, hml, g⟩ := h
    refine ⟨_, pss_one (ps_ret (pe_cl cr hr (by decide) (by rfl) (pa_cons (pv 0) (pa_cons (pe_callB call_len_seq (by rfl) T.len PySem.boot_len (pa_cons (pv 1) pa_nil)) (pa_cons
      (pe_lc (own := [("block", 3)]) (g := gName 3) (tt := tYes) (te := tCall (spRenum K) [] E0 (tCons (tVar 3) (tCons (tVar 1) tNil))) rfl sc_narrow.nd (by exact pi_list (pv 2)) (blkOk_by (own := [("block", 3)]) (N := ["plan", "kept", "blocks", "block"]) (sc := defScope s_narrow) (by decide +kernel))
        (fun _ _ _ _ _ => pg_name (i := 3) sc_narrow.nd rfl (Or.inl rfl)) (fun _ _ _ _ _ => pts_nil) (fun _ _ _ _ _ => pe_cl cn hr (by decide) (by rfl) (by exact pa_cons (pv 3) (pa_cons (pv 1) pa_nil)))) pa_nil))))), ?_⟩
    refine ⟨_, rfl, _, rfl, k, _, rfl, .inl hk, _, rfl, b, rfl, ⟨_, hb⟩, fun D nD => lc_list (K := K) (a := b) (xs := ms.map vn)
      (fun i H' => Same H H' ∧ H' D = some (.lst (((ms.take i).map (renM ks)).map vn))) ⟨same_upd nD, by rw [upd_same, List.take_zero]; rfl⟩ (fun i H' _ ⟨s2, _⟩ => s2.seq hb) ?_ ?_⟩
    · rintro i x H' hi ⟨sm, hD⟩
      obtain ⟨n, hn, rfl⟩ := get_map hi
      refine ⟨rfl, _, rfl, _, rfl, k, n, ks, rfl, sm.seq hk, hkl, fun H2 s2 => ⟨_, s2 _ _ hD, ?_, same_put (sm.trans s2) nD, ?_⟩⟩
      · rw [List.length_map, List.length_map, List.length_take]
        exact small1000 (by omega)
      · rw [upd_same, take_more hn, List.map_append, List.map_append]
        rfl
    · rintro H' ⟨sm, hD⟩
      rw [List.length_map, List.take_length, ← hmq] at hD
      refine ⟨pl, bl, D, p, q, ?_, hP.same sm, hD, hOq, fun H2 r bl' h1 h2 h3 h4 h5 => ?_⟩
      · rw [hqm, List.length_map]; rfl
      · refine g H2 r bl' h1 ?_ (fun b o e n1 _ => h3 b o (sm _ _ e) n1) (sm.free h4) h5
        rcases h2 with h2 | h2
        · exact .inl h2
        · exact .inr (h2 ▸ nD)
end
end Eb

set_option Elab.async false
set_option maxRecDepth 100000
set_option maxHeartbeats 2000000
set_option linter.all false
namespace Eb
open PySem PySem.Spec PyProof.Rows L2
open Dg01 (Plan become shown)
theorem decide_bl (a b : Bool) : decide (V.bl a = V.bl b) = (a == b) := by
  cases a <;> cases b <;> decide
section
variable {P : Program} {w : World} {K : PySem.W.Frag} {mg : Str → Option Value} {base : Heap} {C : Addr}
/-! ### narrow_at_point -/
abbrev s_nap : Stmt := topS 54
theorem sc_nap : FnScope ["plan", "point", "standing", "blocks", "block"] ["plan", "point", "standing"] (defScope s_nap) := ⟨rfl, rfl, rfl, by decide +kernel, rfl, by decide +kernel, by decide +kernel⟩
def atPoint (s : Plan) (x : Nat) (st : Bool) : Plan × List Int := if x = 0 ∨ s.many < x then (s, [-1]) else become s (if st = true then Dg01.around s x else Dg01.away s x)
def spNap (C : Addr) : Sp := fun vs H Q _ => ∃ (pl bl : Addr) (s : Plan) (x : Nat) (st : Bool), vs = [.ref pl, vn x, .bl st] ∧ PlanAt C H pl bl s ∧ Ok s ∧ Gets C H pl bl (atPoint s x st) Q
theorem rise_one (top x : Nat) : riseB top 0 [x] = !decide (x = 0 ∨ top < x) := by
  unfold riseB
  by_cases c : x ≤ 0 ∨ top < x
  · rw [if_pos c, decide_eq_true (show x = 0 ∨ top < x by omega)]; rfl
  · rw [if_neg c, decide_eq_false (show ¬ (x = 0 ∨ top < x) by omega)]; rfl
theorem okf_nap {f : Addr} {fd : FuncData} (F : Fun K "narrow_at_point" "narrow_at_point" s_nap f fd) (T : Tx K mg C) (cr : Cl P w K mg base 1 "rise_within" ["points", "top"] (spRise K)) (ch : Cl P w K mg base 1 "has" ["mask", "point"] spHas)
    (cb : Cl P w K mg base 1 "points_besides" ["top", "point"] spPtsb) (cn : Cl P w K mg base 5 "narrow" ["plan", "kept", "blocks"] (spNarrow K C)) : FnOk P w K mg base CX0 6 f fd ["plan", "point", "standing"] (spNap C) := by
  refine F.ok sc_nap (fun vs H Q E h => ?_) (fun cdv A outer s H vs Q E hr h => ?_)
  · obtain ⟨pl, bl, p, x, st, rfl, _⟩ := h
    rfl
  · obtain ⟨pl, bl, p, x, st, rfl, hP, hO, g⟩ := h
    obtain ⟨dx, hpl⟩ := hP.ins
    have hbl := hP.lst
    refine ⟨_, pss_cons (ps_if (pt_not (pt_val (pe_cl cr hr (by decide) (by rfl) (pa_cons (pe_lst (pa_cons (pv 1) pa_nil)) (pa_cons (pe_fld (pv 0) rfl) pa_nil))))) (pss_one (ps_ret (pe_lst (pa_cons (pe_g T.wp) pa_nil)))) pss_nil)
      (pss_cons (ps_setLc (i := 3) (own := [("block", 4)]) (g := gName 4) (te := tVar 4) rfl sc_nap.nd rfl rfl (sw_true rfl rfl rfl (by decide +kernel)) (by exact pi_list (pe_fld (pv 0) rfl)) (blkOk_by (own := [("block", 4)]) (N := ["plan", "point", "standing", "blocks", "block"]) (sc := defScope s_nap) (by decide +kernel))
        (fun _ _ _ _ _ => pg_name (i := 4) sc_nap.nd rfl (Or.inl rfl)) (fun _ _ _ _ _ => pts_one (pt_cmpR op_eq (pe_cl ch hr (by decide) (by rfl) (by exact pa_cons (pv 4) (pa_cons (pv 1) pa_nil))) (by exact pv 2) (nomark _))) (fun _ _ _ _ _ => by exact pv 4))
      (pss_one (ps_ret (pe_cl cn hr (by decide) (by rfl) (pa_cons (pv 0) (pa_cons (pe_cl cb hr (by decide) (by rfl) (pa_cons (pe_fld (pv 0) rfl) (pa_cons (pv 1) pa_nil))) (pa_cons (pv 3) pa_nil))))))), ?_⟩
    refine ⟨_, rfl, (by show 1 ≤ sizeLine; decide), fun o no => ?_⟩
    have s1 : Same H (upd H o (.lst [vn x])) := same_upd no
    have hpl1 := s1 _ _ hpl
    refine ⟨_, rfl, pl, C, dx, _, _, rfl, hpl1, T.cl, T.nT, pF_top p bl, o, [x], p.many, rfl, .inl (.inl upd_same), ⟨_, rfl, ite2 (fun c => ?_) (fun c => ?_)⟩⟩
    · have hx : x = 0 ∨ p.many < x := by
        rw [rise_one] at c
        simpa using c
      unfold atPoint at g
      rw [if_pos hx] at g
      exact (g.lift s1).one (hP.same s1)
    · have hx : ¬ (x = 0 ∨ p.many < x) := by
        rw [rise_one] at c
        simpa using c
      unfold atPoint at g
      rw [if_neg hx] at g
      have hfew := hO.few
      have hhi := hO.hi
      refine ⟨_, rfl, pl, C, dx, _, _, rfl, hpl1, T.cl, T.nB, pF_blocks p bl, bl, rfl, ⟨_, .inl (.inl (s1 _ _ hbl))⟩, fun D nD => lc_list (K := K) (a := bl) (xs := (masks p).map vn)
        (fun i H' => Same (upd H o (.lst [vn x])) H' ∧ H' D = some (.lst ((((masks p).take i).filter fun m => m.testBit x == st).map vn))) ⟨same_upd nD, by rw [upd_same, List.take_zero]; rfl⟩ (fun i H' _ ⟨s2, _⟩ => .inl (.inl (s2 _ _ (s1 _ _ hbl)))) ?_ ?_⟩
      · rintro i y H' hi ⟨sm, hD⟩
        obtain ⟨m, hm, rfl⟩ := get_map hi
        refine ⟨rfl, _, rfl, _, rfl, m, x, rfl, _, rfl, rfl, _, rfl, ?_⟩
        rw [decide_bl]
        refine ite2 (fun c => ?_) (fun c => ?_)
        · refine ⟨_, rfl, _, hD, ?_, same_put sm nD, ?_⟩
          · rw [List.length_map]
            have := List.length_filter_le (fun m => m.testBit x == st) ((masks p).take i)
            rw [List.length_take, masks_length] at this
            exact small1000 (by omega)
          · rw [upd_same, take_more hm, List.filter_append, List.map_append]
            simp only [List.filter_cons, List.filter_nil, c]
            rfl
        · refine ⟨sm, ?_⟩
          rw [hD, take_more hm, List.filter_append]
          simp only [List.filter_cons, List.filter_nil, c]
          simp
      · rintro H' ⟨sm, hD⟩
        rw [List.length_map, List.take_length] at hD
        have sH := s1.trans sm
        refine ⟨_, rfl, _, rfl, pl, C, dx, _, _, rfl, sH _ _ hpl, T.cl, T.nT, pF_top p bl, _, rfl, p.many, x, rfl, by omega, fun H2 r s2 nr hr2 => ?_⟩
        refine ⟨_, rfl, pl, bl, r, D, p, (if st = true then Dg01.around p x else Dg01.away p x), (List.range' 1 p.many).filter (fun y => !decide (y = x)), (masks p).filter (fun m => m.testBit x == st), rfl, hP.same (sH.trans s2), .inl (.inl hr2), .inl (.inl (s2 _ _ hD)), ?_, ?_, ?_, ?_, ?_, g.lift (sH.trans s2)⟩
        · rw [← kept_one]
          cases st with
          | true =>
            rw [if_pos rfl, ← around_is hO.wf (by omega) (by omega)]
            congr 1
            apply List.filter_congr
            intro m _
            cases m.testBit x <;> rfl
          | false =>
            rw [if_neg (by decide), ← away_is hO.wf (by omega) (by omega)]
            congr 1
            apply List.filter_congr
            intro m _
            cases m.testBit x <;> rfl
        · rw [← kept_one, kept_length (norm_one (by omega) (by omega))]
          cases st <;> rfl
        · intro hne
          cases st with
          | true => exact ok_around hO (by omega) (by omega) hne
          | false => exact ok_away hO (by omega) (by omega) hne
        · have := List.length_filter_le (fun y => !decide (y = x)) (List.range' 1 p.many)
          rw [List.length_range'] at this
          omega
        · have := List.length_filter_le (fun m => m.testBit x == st) (masks p)
          rw [masks_length] at this
          omega
/-! ### narrow_at_block -/
abbrev s_nab : Stmt := topS 55
theorem sc_nab : FnScope ["plan", "number", "sides"] ["plan", "number", "sides"] (defScope s_nab) := ⟨rfl, rfl, rfl, by decide +kernel, rfl, by decide +kernel, by decide +kernel⟩
def spNab (K : PySem.W.Frag) (C : Addr) : Sp := fun vs H Q _ => ∃ (pl bl sd : Addr) (s q : Plan) (n : Nat) (ss : List Nat), vs = [.ref pl, vn n, .ref sd] ∧ PlanAt C H pl bl s ∧ Ok s ∧ SqL K H sd (ss.map vn) ∧ ss.length = s.blocks.length ∧
  (n < s.blocks.length → ss.getD n 0 < 2 ^ 200 ∧ masks q = (others (masks s) n).map (renM (ptsOf (ss.getD n 0))) ∧ q.many = (ptsOf (ss.getD n 0)).length ∧ (¬ q.many = 0 → Ok q) ∧ (ptsOf (ss.getD n 0)).length ≤ 100) ∧
  Gets C H pl bl (if s.blocks.length ≤ n then (s, [-2]) else become s q) Q
theorem okf_nab {f : Addr} {fd : FuncData} (F : Fun K "narrow_at_block" "narrow_at_block" s_nab f fd) (T : Tx K mg C) (cp : Cl P w K mg base 2 "points_of" ["mask"] spPtsof)
    (cb : Cl P w K mg base 1 "blocks_besides" ["blocks", "number"] (spBlkb K)) (cn : Cl P w K mg base 5 "narrow" ["plan", "kept", "blocks"] (spNarrow K C)) : FnOk P w K mg base CX0 6 f fd ["plan", "number", "sides"] (spNab K C) := by
  refine F.ok sc_nab (fun vs H Q E h => ?_) (fun cdv A outer s H vs Q E hr h => ?_)
  · obtain ⟨pl, bl, sd, p, q, n, ss, rfl, _⟩ := h
    rfl
  · obtain ⟨pl, bl, sd, p, q, n, ss, rfl, hP, hO, hsd, hsl, hq, g⟩ := h
    obtain ⟨dx, hpl⟩ := hP.ins
    have hbl := hP.lst
    have hfew := hO.few
    refine ⟨_, pss_cons (ps_if (pt_cmpR op_geN (pv 1) (pe_callB call_len_seq (by rfl) T.len PySem.boot_len (pa_cons (pe_fld (pv 0) rfl) pa_nil)) (nomark _)) (pss_one (ps_ret (pe_lst (pa_cons (pe_g T.nb) pa_nil)))) pss_nil)
      (pss_one (ps_ret (pe_cl cn hr (by decide) (by rfl) (pa_cons (pv 0) (pa_cons (pe_cl cp hr (by decide) (by rfl) (pa_cons (pe_ix ix_list (pv 2) (pv 1) (fun _ _ => rfl)) pa_nil)) (pa_cons (pe_cl cb hr (by decide) (by rfl) (pa_cons (pe_fld (pv 0) rfl) (pa_cons (pv 1) pa_nil))) pa_nil)))))), ?_⟩
    refine ⟨_, rfl, _, rfl, pl, C, dx, _, _, rfl, hpl, T.cl, T.nB, pF_blocks p bl, bl, _, rfl, .inl (.inl (.inl hbl)), n, _, rfl, rfl, _, rfl, ite2 (fun c => ?_) (fun c => ?_)⟩
    · have hc : p.blocks.length ≤ n := by
        have := of_decide_eq_true c
        rwa [List.length_map, masks_length] at this
      rw [if_pos hc] at g
      exact g.one hP
    · have hc : ¬ p.blocks.length ≤ n := fun z => c (decide_eq_true (by rw [List.length_map, masks_length]; exact z))
      rw [if_neg hc] at g
      obtain ⟨q1, q2, q3, q4, q5⟩ := hq (by omega)
      have hat : atI (ss.map vn) (n : Int) = some (vn (ss.getD n 0)) := atI_nat (by
        have hlt : n < ss.length := by omega
        rw [List.getElem?_map, List.getElem?_eq_getElem hlt, List.getD_eq_getElem?_getD, List.getElem?_eq_getElem hlt]; rfl)
      refine ⟨_, rfl, _, rfl, _, rfl, sd, _, _, _, rfl, rfl, hsd, hat, _, rfl, q1, fun H1 r s1 nr hr1 => ?_⟩
      refine ⟨_, rfl, pl, C, dx, _, _, rfl, s1 _ _ hpl, T.cl, T.nB, pF_blocks p bl, _, rfl, bl, masks p, n, rfl, .inl (.inl (s1 _ _ hbl)), by rw [masks_length]; omega, fun H2 r2 s2 nr2 hr2 => ?_⟩
      refine ⟨pl, bl, r, r2, p, q, ptsOf (ss.getD n 0), others (masks p) n, rfl, hP.same (s1.trans s2), .inl (.inl (s2 _ _ hr1)), .inl (.inl hr2), q2, q3, q4, q5, ?_, g.lift (s1.trans s2)⟩
      unfold others
      rw [List.length_append, List.length_take, List.length_drop, masks_length]
      omega
/-! ### the calls -/
abbrev s_turn : Stmt := topS 56
theorem sc_turn : FnScope ["plan", "numbers"] ["plan", "numbers"] (defScope s_turn) := ⟨rfl, rfl, rfl, by decide +kernel, rfl, by decide +kernel, by decide +kernel⟩
theorem okf_turn {f : Addr} {fd : FuncData} (F : Fun K "turn_call" "turn_call" s_turn f fd) (T : Tx K mg C) (cr : Cl P w K mg base 4 "reshape" ["plan", "top", "blocks"] (spReshape C)) (ct : Cl P w K mg base 2 "turned" ["top", "blocks"] (spTurned K)) : FnOk P w K mg base CX0 5 f fd ["plan", "numbers"] (spC K C 8) := by
  refine F.ok sc_turn (fun vs H Q E h => ?_) (fun cdv A outer s H vs Q E hr h => ?_)
  · obtain ⟨pl, bl, a, p, l, rfl, _⟩ := h
    rfl
  · obtain ⟨pl, bl, a, p, l, rfl, hP, hO, hA, hk, q⟩ := h
    obtain rfl := no_num (by simp) hk
    obtain ⟨dx, hpl⟩ := hP.ins
    have hbl := hP.lst
    have hfew := hO.few
    have hhi := hO.hi
    refine ⟨_, pss_one (ps_ret (pe_cl cr hr (by decide) (by rfl) (pa_cons (pv 0) (pa_cons (pe_callB call_len_seq (by rfl) T.len PySem.boot_len (pa_cons (pe_fld (pv 0) rfl) pa_nil)) (pa_cons (pe_cl ct hr (by decide) (by rfl) (pa_cons (pe_fld (pv 0) rfl) (pa_cons (pe_fld (pv 0) rfl) pa_nil))) pa_nil))))), ?_⟩
    have g : Gets C H pl bl (become p (Dg01.turned p)) Q := q
    refine ⟨_, rfl, _, rfl, pl, C, dx, _, _, rfl, hpl, T.cl, T.nB, pF_blocks p bl, bl, _, rfl, .inl (.inl (.inl hbl)), _, rfl, pl, C, dx, _, _, rfl, hpl, T.cl, T.nT, pF_top p bl, _, rfl, pl, C, dx, _, _, rfl, hpl, T.cl, T.nB, pF_blocks p bl, bl, p.many, masks p, rfl, .inl (.inl hbl), by omega, by rw [masks_length]; omega, fun H1 D s1 nD hD => ?_⟩
    rw [turn_is] at hD
    refine ⟨pl, bl, D, p, Dg01.turned p, ?_, hP.same s1, hD, fun z => ok_turned hO z, fun H2 r bl' h1 h2 h3 h4 h5 => ?_⟩
    · rw [List.length_map, masks_length]; rfl
    · refine g H2 r bl' h1 ?_ (fun b o e n1 _ => h3 b o (s1 _ _ e) n1) (s1.free h4) h5
      rcases h2 with h2 | h2
      · exact .inl h2
      · exact .inr (h2 ▸ nD)
abbrev s_fill : Stmt := topS 57
theorem sc_fill : FnScope ["plan", "numbers"] ["plan", "numbers"] (defScope s_fill) := ⟨rfl, rfl, rfl, by decide +kernel, rfl, by decide +kernel, by decide +kernel⟩
theorem okf_fill {f : Addr} {fd : FuncData} (F : Fun K "fill_call" "fill_call" s_fill f fd) (T : Tx K mg C) (cr : Cl P w K mg base 4 "reshape" ["plan", "top", "blocks"] (spReshape C)) (cf : Cl P w K mg base 3 "filled" ["top", "blocks"] (spFilled K)) : FnOk P w K mg base CX0 5 f fd ["plan", "numbers"] (spC K C 9) := by
  refine F.ok sc_fill (fun vs H Q E h => ?_) (fun cdv A outer s H vs Q E hr h => ?_)
  · obtain ⟨pl, bl, a, p, l, rfl, _⟩ := h
    rfl
  · obtain ⟨pl, bl, a, p, l, rfl, hP, hO, hA, hk, q⟩ := h
    obtain rfl := no_num (by simp) hk
    obtain ⟨dx, hpl⟩ := hP.ins
    have hbl := hP.lst
    have hfew := hO.few
    have hhi := hO.hi
    refine ⟨_, pss_one (ps_ret (pe_cl cr hr (by decide) (by rfl) (pa_cons (pv 0) (pa_cons (pe_fld (pv 0) rfl) (pa_cons (pe_cl cf hr (by decide) (by rfl) (pa_cons (pe_fld (pv 0) rfl) (pa_cons (pe_fld (pv 0) rfl) pa_nil))) pa_nil))))), ?_⟩
    have g : Gets C H pl bl (become p (Dg01.filled p)) Q := q
    refine ⟨_, rfl, _, rfl, pl, C, dx, _, _, rfl, hpl, T.cl, T.nT, pF_top p bl, _, rfl, pl, C, dx, _, _, rfl, hpl, T.cl, T.nT, pF_top p bl, _, rfl, pl, C, dx, _, _, rfl, hpl, T.cl, T.nB, pF_blocks p bl, bl, p.many, masks p, rfl, .inl (.inl hbl), by omega, by rw [masks_length]; omega, fun H1 D s1 nD hD => ?_⟩
    rw [fill_is hO.wf] at hD
    refine ⟨pl, bl, D, p, Dg01.filled p, rfl, hP.same s1, hD, fun _ => ok_filled hO, fun H2 r bl' h1 h2 h3 h4 h5 => ?_⟩
    refine g H2 r bl' h1 ?_ (fun b o e n1 _ => h3 b o (s1 _ _ e) n1) (s1.free h4) h5
    rcases h2 with h2 | h2
    · exact .inl h2
    · exact .inr (h2 ▸ nD)
abbrev s_around : Stmt := topS 58
theorem sc_around : FnScope ["plan", "numbers"] ["plan", "numbers"] (defScope s_around) := ⟨rfl, rfl, rfl, by decide +kernel, rfl, by decide +kernel, by decide +kernel⟩
theorem okf_around {f : Addr} {fd : FuncData} (F : Fun K "around_call" "around_call" s_around f fd) (cn : Cl P w K mg base 6 "narrow_at_point" ["plan", "point", "standing"] (spNap C)) : FnOk P w K mg base CX0 7 f fd ["plan", "numbers"] (spC K C 10) := by
  refine F.ok sc_around (fun vs H Q E h => ?_) (fun cdv A outer s H vs Q E hr h => ?_)
  · obtain ⟨pl, bl, a, p, l, rfl, _⟩ := h
    rfl
  · obtain ⟨pl, bl, a, p, l, rfl, hP, hO, hA, hk, q⟩ := h
    obtain ⟨x, rfl⟩ := one_num (by simp) hk
    refine ⟨_, pss_one (ps_ret (pe_cl cn hr (by decide) (by rfl) (pa_cons (pv 0) (pa_cons (pe_ix ix_list (pv 1) pe_int (fun _ _ => rfl)) (pa_cons pe_bl pa_nil))))), ?_⟩
    exact ⟨_, rfl, _, rfl, a, _, 0, _, rfl, rfl, hA, atI_nat (j := 0) rfl, pl, bl, p, x, true, rfl, hP, hO, q⟩
abbrev s_away : Stmt := topS 59
theorem sc_away : FnScope ["plan", "numbers"] ["plan", "numbers"] (defScope s_away) := ⟨rfl, rfl, rfl, by decide +kernel, rfl, by decide +kernel, by decide +kernel⟩
theorem okf_away {f : Addr} {fd : FuncData} (F : Fun K "away_call" "away_call" s_away f fd) (cn : Cl P w K mg base 6 "narrow_at_point" ["plan", "point", "standing"] (spNap C)) : FnOk P w K mg base CX0 7 f fd ["plan", "numbers"] (spC K C 11) := by
  refine F.ok sc_away (fun vs H Q E h => ?_) (fun cdv A outer s H vs Q E hr h => ?_)
  · obtain ⟨pl, bl, a, p, l, rfl, _⟩ := h
    rfl
  · obtain ⟨pl, bl, a, p, l, rfl, hP, hO, hA, hk, q⟩ := h
    obtain ⟨x, rfl⟩ := one_num (by simp) hk
    refine ⟨_, pss_one (ps_ret (pe_cl cn hr (by decide) (by rfl) (pa_cons (pv 0) (pa_cons (pe_ix ix_list (pv 1) pe_int (fun _ _ => rfl)) (pa_cons pe_bl pa_nil))))), ?_⟩
    exact ⟨_, rfl, _, rfl, a, _, 0, _, rfl, rfl, hA, atI_nat (j := 0) rfl, pl, bl, p, x, false, rfl, hP, hO, q⟩
theorem pts_block {p : Plan} (hO : Ok p) {n : Nat} (hn : n < p.blocks.length) : ptsOf ((masks p).getD n 0) = p.blocks.getD n [] := by
  rw [masks_getD, ptsOf_mask (sorted_of (hO.wf.norm _ (getD_mem hn)))]
theorem getD_small {p : Plan} (hO : Ok p) (n : Nat) : (masks p).getD n 0 < 2 ^ 200 := by
  by_cases hn : n < (masks p).length
  · rw [List.getD_eq_getElem?_getD, List.getElem?_eq_getElem hn]
    exact mask_small hO (List.getElem_mem hn)
  · rw [List.getD_eq_getElem?_getD, List.getElem?_eq_none (by omega)]
    exact Nat.two_pow_pos 200
abbrev s_inside : Stmt := topS 60
theorem sc_inside : FnScope ["plan", "numbers"] ["plan", "numbers"] (defScope s_inside) := ⟨rfl, rfl, rfl, by decide +kernel, rfl, by decide +kernel, by decide +kernel⟩
theorem okf_inside {f : Addr} {fd : FuncData} (F : Fun K "inside_call" "inside_call" s_inside f fd) (T : Tx K mg C) (cn : Cl P w K mg base 6 "narrow_at_block" ["plan", "number", "sides"] (spNab K C)) : FnOk P w K mg base CX0 7 f fd ["plan", "numbers"] (spC K C 12) := by
  refine F.ok sc_inside (fun vs H Q E h => ?_) (fun cdv A outer s H vs Q E hr h => ?_)
  · obtain ⟨pl, bl, a, p, l, rfl, _⟩ := h
    rfl
  · obtain ⟨pl, bl, a, p, l, rfl, hP, hO, hA, hk, q⟩ := h
    obtain ⟨n, rfl⟩ := one_num (by simp) hk
    obtain ⟨dx, hpl⟩ := hP.ins
    have hbl := hP.lst
    refine ⟨_, pss_one (ps_ret (pe_cl cn hr (by decide) (by rfl) (pa_cons (pv 0) (pa_cons (pe_ix ix_list (pv 1) pe_int (fun _ _ => rfl)) (pa_cons (pe_fld (pv 0) rfl) pa_nil))))), ?_⟩
    refine ⟨_, rfl, _, rfl, a, _, 0, _, rfl, rfl, hA, atI_nat (j := 0) rfl, _, rfl, pl, C, dx, _, _, rfl, hpl, T.cl, T.nB, pF_blocks p bl, pl, bl, bl, p, Dg01.inside p n, n, masks p, rfl, hP, hO, .inl (.inl hbl), masks_length p, fun hn => ?_, q⟩
    rw [pts_block hO hn]
    refine ⟨getD_small hO n, (inside_is hO.wf hn).symm, rfl, fun z => ok_inside hO hn z, ?_⟩
    have := len_le hO.wf (getD_mem hn)
    have := hO.hi
    omega
abbrev s_outside : Stmt := topS 61
theorem sc_outside : FnScope ["plan", "numbers"] ["plan", "numbers"] (defScope s_outside) := ⟨rfl, rfl, rfl, by decide +kernel, rfl, by decide +kernel, by decide +kernel⟩
theorem filled_getD {p : Plan} {n : Nat} (hn : n < p.blocks.length) : (Dg01.filled p).blocks.getD n [] = outs p (p.blocks.getD n []) := by
  show (p.blocks.map _).getD n [] = _
  rw [List.getD_eq_getElem?_getD, List.getD_eq_getElem?_getD, List.getElem?_map, List.getElem?_eq_getElem hn]
  rfl
theorem okf_outside {f : Addr} {fd : FuncData} (F : Fun K "outside_call" "outside_call" s_outside f fd) (T : Tx K mg C) (cf : Cl P w K mg base 3 "filled" ["top", "blocks"] (spFilled K)) (cn : Cl P w K mg base 6 "narrow_at_block" ["plan", "number", "sides"] (spNab K C)) : FnOk P w K mg base CX0 7 f fd ["plan", "numbers"] (spC K C 13) := by
  refine F.ok sc_outside (fun vs H Q E h => ?_) (fun cdv A outer s H vs Q E hr h => ?_)
  · obtain ⟨pl, bl, a, p, l, rfl, _⟩ := h
    rfl
  · obtain ⟨pl, bl, a, p, l, rfl, hP, hO, hA, hk, q⟩ := h
    obtain ⟨n, rfl⟩ := one_num (by simp) hk
    obtain ⟨dx, hpl⟩ := hP.ins
    have hbl := hP.lst
    have hfew := hO.few
    have hhi := hO.hi
    refine ⟨_, pss_one (ps_ret (pe_cl cn hr (by decide) (by rfl) (pa_cons (pv 0) (pa_cons (pe_ix ix_list (pv 1) pe_int (fun _ _ => rfl)) (pa_cons (pe_cl cf hr (by decide) (by rfl) (pa_cons (pe_fld (pv 0) rfl) (pa_cons (pe_fld (pv 0) rfl) pa_nil))) pa_nil))))), ?_⟩
    have g : Gets C H pl bl (if p.blocks.length ≤ n then (p, [-2]) else become p (Dg01.outside p n)) Q := q
    refine ⟨_, rfl, _, rfl, a, _, 0, _, rfl, rfl, hA, atI_nat (j := 0) rfl, _, rfl, pl, C, dx, _, _, rfl, hpl, T.cl, T.nT, pF_top p bl, _, rfl, pl, C, dx, _, _, rfl, hpl, T.cl, T.nB, pF_blocks p bl, bl, p.many, masks p, rfl, .inl (.inl hbl), by omega, by rw [masks_length]; omega, fun H1 D s1 nD hD => ?_⟩
    rw [fill_is hO.wf] at hD
    have hOf := ok_filled hO
    have hlf : (Dg01.filled p).blocks.length = p.blocks.length := by
      show (p.blocks.map _).length = _
      rw [List.length_map]
    refine ⟨pl, bl, D, p, Dg01.outside p n, n, masks (Dg01.filled p), rfl, hP.same s1, hO, .inl (.inl hD), by rw [masks_length, hlf], fun hn => ?_, g.lift s1⟩
    have hN := hO.wf.norm _ (getD_mem hn)
    rw [pts_block hOf (by rw [hlf]; exact hn), filled_getD hn]
    refine ⟨getD_small hOf n, (outside_is hO.wf hn).symm, ?_, fun z => ok_outside hO hn z, ?_⟩
    · show p.many - (p.blocks.getD n []).length = (kept p (p.blocks.getD n [])).length
      rw [kept_length hN]
    · have := norm_le (norm_outs p (p.blocks.getD n []))
      omega
abbrev s_blocks : Stmt := topS 63
theorem sc_blocks : FnScope ["plan", "numbers"] ["plan", "numbers"] (defScope s_blocks) := ⟨rfl, rfl, rfl, by decide +kernel, rfl, by decide +kernel, by decide +kernel⟩
theorem okf_blocks {f : Addr} {fd : FuncData} (F : Fun K "blocks_call" "blocks_call" s_blocks f fd) (ct : Cl P w K mg base 3 "plan_told" ["plan"] (spTold C)) : FnOk P w K mg base CX0 4 f fd ["plan", "numbers"] (spC K C 15) := by
  refine F.ok sc_blocks (fun vs H Q E h => ?_) (fun cdv A outer s H vs Q E hr h => ?_)
  · obtain ⟨pl, bl, a, p, l, rfl, _⟩ := h
    rfl
  · obtain ⟨pl, bl, a, p, l, rfl, hP, hO, hA, hk, q⟩ := h
    obtain rfl := no_num (by simp) hk
    refine ⟨_, pss_one (ps_ret (pe_cl ct hr (by decide) (by rfl) (pa_cons (pv 0) pa_nil))), ?_⟩
    refine ⟨_, rfl, pl, bl, p, rfl, hP, hO, fun H' r sm nr hr' => ?_⟩
    exact Goes.pure q hP (show stepN 15 [] p = (p, shown p) from rfl) sm nr hr'
end
end Eb

set_option Elab.async false
set_option maxRecDepth 100000
set_option maxHeartbeats 2000000
set_option linter.all false
namespace Eb
open PySem PySem.Spec PyProof.Rows L2
/-! ### lists of objects -/
def A2 {α β : Type} (R : α → β → Prop) : List α → List β → Prop
  | [], [] => True
  | a :: as, c :: cs => R a c ∧ A2 R as cs
  | _, _ => False
section
variable {α β : Type} {R R' : α → β → Prop}
theorem A2.mono (h : ∀ a c, R a c → R' a c) : ∀ {as : List α} {cs : List β}, A2 R as cs → A2 R' as cs
  | [], [], _ => trivial
  | [], _ :: _, h' => h'
  | _ :: _, [], h' => h'
  | a :: as, c :: cs, h' => ⟨h _ _ h'.1, A2.mono h h'.2⟩
theorem A2.length : ∀ {as : List α} {cs : List β}, A2 R as cs → as.length = cs.length
  | [], [], _ => rfl
  | [], _ :: _, h => h.elim
  | _ :: _, [], h => h.elim
  | _ :: as, _ :: cs, h => by rw [List.length_cons, List.length_cons, A2.length h.2]
theorem A2.get : ∀ {as : List α} {cs : List β} {i : Nat} {a : α}, A2 R as cs → as[i]? = some a → ∃ c, cs[i]? = some c ∧ R a c
  | [], [], i, a, _, h => by simp at h
  | [], _ :: _, _, _, h, _ => h.elim
  | _ :: _, [], _, _, h, _ => h.elim
  | b :: as, c :: cs, 0, a, h, e => by
    have : b = a := by simpa using e
    subst this
    exact ⟨c, rfl, h.1⟩
  | b :: as, c :: cs, i + 1, a, h, e => by
    obtain ⟨d, h1, h2⟩ := A2.get (i := i) (a := a) h.2 (by simpa using e)
    exact ⟨d, by simpa using h1, h2⟩
theorem A2.snoc {p : α} {c : β} (hp : R p c) : ∀ {as : List α} {cs : List β}, A2 R as cs → A2 R (as ++ [p]) (cs ++ [c])
  | [], [], _ => ⟨hp, trivial⟩
  | [], _ :: _, h => h.elim
  | _ :: _, [], h => h.elim
  | _ :: as, _ :: cs, h => ⟨h.1, A2.snoc hp h.2⟩
end
/-- a cover: a tuple of its numbers' list and its points; neither of them is o -/
def CvAt (o : Addr) (H : Hp) (t : Addr) (cv : List Nat × Nat) : Prop := ∃ a, t ≠ o ∧ a ≠ o ∧ H t = some (.tup [.ref a, vn cv.2]) ∧ H a = some (.lst (cv.1.map vn))
theorem CvAt.same {o : Addr} {H H' : Hp} {t : Addr} {cv : List Nat × Nat} (s : Same H H') (h : CvAt o H t cv) : CvAt o H' t cv := by
  obtain ⟨a, n1, n2, h1, h2⟩ := h
  exact ⟨a, n1, n2, s _ _ h1, s _ _ h2⟩
theorem CvAt.put {o : Addr} {H : Hp} {x : HO} {t : Addr} {cv : List Nat × Nat} (h : CvAt o H t cv) : CvAt o (upd H o x) t cv := by
  obtain ⟨a, n1, n2, h1, h2⟩ := h
  exact ⟨a, n1, n2, by rw [upd_ne n1]; exact h1, by rw [upd_ne n2]; exact h2⟩
/-- at any address that is not yet there -/
def CvAny (H : Hp) (t : Addr) (cv : List Nat × Nat) : Prop := ∃ a, H t = some (.tup [.ref a, vn cv.2]) ∧ H a = some (.lst (cv.1.map vn))
theorem CvAny.same {H H' : Hp} {t : Addr} {cv : List Nat × Nat} (s : Same H H') (h : CvAny H t cv) : CvAny H' t cv := by
  obtain ⟨a, h1, h2⟩ := h
  exact ⟨a, s _ _ h1, s _ _ h2⟩
theorem CvAt.any {o : Addr} {H : Hp} {t : Addr} {cv : List Nat × Nat} (h : CvAt o H t cv) : CvAny H t cv := by
  obtain ⟨a, _, _, h1, h2⟩ := h
  exact ⟨a, h1, h2⟩
/-- a tuple of a number and a mask -/
def StAt (H : Hp) (t : Addr) (z : Nat × Nat) : Prop := H t = some (.tup [vn z.1, vn z.2])
theorem withPoint_take {point : Nat} {st : List (Nat × Nat)} {cvs : List (List Nat × Nat)} {i : Nat} {cv : List Nat × Nat} (h : cvs[i]? = some cv) : withPoint point st (cvs.take (i + 1)) = withPoint point st (cvs.take i) ++ withPt point st cv := by
  unfold withPoint
  rw [take_more h, List.flatMap_append, List.flatMap_cons, List.flatMap_nil, List.append_nil]
theorem withPoint_le {point : Nat} {st : List (Nat × Nat)} {cvs : List (List Nat × Nat)} {i : Nat} {cv : List Nat × Nat} (h : cvs[i]? = some cv) : (withPoint point st (cvs.take i)).length + (withPt point st cv).length ≤ (withPoint point st cvs).length := by
  have e := withPoint_take (point := point) (st := st) h
  have : withPoint point st cvs = withPoint point st (cvs.take (i + 1)) ++ withPoint point st (cvs.drop (i + 1)) := by
    unfold withPoint; rw [← List.flatMap_append, List.take_append_drop]
  rw [this, e, List.length_append, List.length_append]; omega
/-- the longer ones of one cover -/
def longs (st : List (Nat × Nat)) (cv : List Nat × Nat) : List (List Nat × Nat) := (st.filter fun s => decide (cv.2 &&& s.2 = 0)).map fun s => (cv.1 ++ [s.1], cv.2 ||| s.2)
theorem longs_take {st : List (Nat × Nat)} {cv : List Nat × Nat} {j : Nat} {z : Nat × Nat} (h : st[j]? = some z) : longs (st.take (j + 1)) cv = longs (st.take j) cv ++ (if cv.2 &&& z.2 = 0 then [(cv.1 ++ [z.1], cv.2 ||| z.2)] else []) := by
  unfold longs
  rw [take_more h, List.filter_append, List.map_append]
  congr 1
  simp only [List.filter_cons, List.filter_nil]
  by_cases c : cv.2 &&& z.2 = 0
  · rw [if_pos (decide_eq_true c), if_pos c]; rfl
  · rw [if_neg (by simpa using c), if_neg c]; rfl
theorem longs_le (st : List (Nat × Nat)) (cv : List Nat × Nat) (j : Nat) : (longs (st.take j) cv).length ≤ (longs st cv).length := by
  have : longs st cv = longs (st.take j) cv ++ longs (st.drop j) cv := by
    unfold longs
    rw [← List.map_append, ← List.filter_append, List.take_append_drop]
  rw [this, List.length_append]
  omega
section
variable {P : Program} {w : World} {K : PySem.W.Frag} {mg : Str → Option Value} {base : Heap}
/-! ### with_point -/
abbrev s_with : Stmt := topS 11
theorem sc_with : FnScope ["covers", "point", "starting", "longer", "numbers", "points", "number", "block"] ["covers", "point", "starting"] (defScope s_with) := ⟨rfl, rfl, rfl, by decide +kernel, rfl, by decide +kernel, by decide +kernel⟩
def spWith : Sp := fun vs H Q _ => ∃ (c st : Addr) (ts us : List Addr) (point : Nat) (cvs : List (List Nat × Nat)) (sts : List (Nat × Nat)), vs = [.ref c, vn point, .ref st] ∧ H c = some (.lst (ts.map V.ref)) ∧ A2 (CvAny H) ts cvs ∧ H st = some (.lst (us.map V.ref)) ∧ A2 (StAt H) us sts ∧
  (withPoint point sts cvs).length < sizeLine ∧ (∀ cv ∈ cvs, cv.1.length ≤ 1000) ∧
  ∀ H' p ts', Same H H' → H p = none → H' p = some (.lst (ts'.map V.ref)) → A2 (CvAny H') ts' (withPoint point sts cvs) → Q (.ref p) H'
theorem okf_with {f : Addr} {fd : FuncData} (F : Fun K "with_point" "with_point" s_with f fd) (ch : Cl P w K mg base 1 "has" ["mask", "point"] spHas) : FnOk P w K mg base CX0 2 f fd ["covers", "point", "starting"] spWith := by
  refine F.ok sc_with (fun vs H Q E h => ?_) (fun cdv A outer s H vs Q E hr h => ?_)
  · obtain ⟨c, st, ts, us, point, cvs, sts, rfl, _⟩ := h
    rfl
  · obtain ⟨c, st, ts, us, point, cvs, sts, rfl, hc, hC, hst, hS, hsz, hle, q⟩ := h
    refine ⟨_, pss_cons (ps_set (i := 3) sc_with.nd rfl (.inl rfl) (pe_lst pa_nil))
      (pss_cons (ps_for PassesOwn.never rfl (pi_list (pv 0)) (pg_tup rfl (pgs_cons (pg_name (i := 4) sc_with.nd rfl (.inl rfl)) (pgs_cons (pg_name (i := 5) sc_with.nd rfl (.inl rfl)) pgs_nil)))
        (pss_cons (ps_if (pt_val (pe_cl ch hr (by decide) (by rfl) (pa_cons (pv 5) (pa_cons (pv 1) pa_nil))))
            (pss_cons (ps_expr (pe_bm PySem.F.plainAttrs_list PySem.F.slot_list_append PySem.F.type_list_append mt_append (pv 3) (pa_cons (pe_tup (pa_cons (pv 4) (pa_cons (pv 5) pa_nil))) pa_nil)))
              (pss_one ps_continue)) pss_nil)
          (pss_one (ps_for PassesOwn.never rfl (pi_list (pv 2)) (pg_tup rfl (pgs_cons (pg_name (i := 6) sc_with.nd rfl (.inl rfl)) (pgs_cons (pg_name (i := 7) sc_with.nd rfl (.inl rfl)) pgs_nil)))
            (pss_one (ps_if (pt_cmpR op_eqN (pe_op op_andN (pv 5) (pv 7)) pe_int (nomark _))
              (pss_one (ps_expr (pe_bm PySem.F.plainAttrs_list PySem.F.slot_list_append PySem.F.type_list_append mt_append (pv 3) (pa_cons
                (pe_tup (pa_cons (pe_op op_cat (pv 4) (pe_lst (pa_cons (pv 6) pa_nil))) (pa_cons (pe_op op_orN (pv 5) (pv 7)) pa_nil))) pa_nil)))) pss_nil))))))
      (pss_one (ps_ret (pv 3)))), ?_⟩
    refine ⟨Nat.zero_le _, fun o no => ?_⟩
    have s1 : Same H (upd H o (.lst [])) := same_upd no
    refine ⟨_, rfl, c, rfl, ⟨_, .inl (.inl (s1 _ _ hc))⟩, for_list (K := K) (a := c) (xs := ts.map V.ref)
      (fun i σ H' => ∃ v4 v5 v6 v7 ts', σ = [some (.ref c), some (vn point), some (.ref st), some (.ref o), v4, v5, v6, v7] ∧ Same H H' ∧ H' o = some (.lst (ts'.map V.ref)) ∧ A2 (CvAt o H') ts' (withPoint point sts (cvs.take i)))
      ⟨none, none, none, none, [], rfl, s1, upd_same, by rw [List.take_zero]; exact trivial⟩ (fun i σ H' _ ⟨_, _, _, _, _, _, s2, _⟩ => .inl (.inl (s2 _ _ hc))) ?_ ?_⟩
    · rintro i y σ H2 hi ⟨v4, v5, v6, v7, ts', rfl, sm, ho, hA⟩
      obtain ⟨t, ht, rfl⟩ := get_ref hi
      obtain ⟨⟨ns, m⟩, hcv, a, ht1, ha1⟩ := hC.get ht
      have hns := hle _ (List.mem_of_getElem? hcv)
      have hlen := withPoint_le (point := point) (st := sts) hcv
      have hTl := hA.length
      have nao : a ≠ o := ne_of_none ha1 no
      refine ⟨t, _, rfl, .inl (.inl (sm _ _ ht1)), rfl, _, _, rfl, _, _, rfl, rfl, ?_⟩
      refine ⟨_, rfl, _, rfl, m, point, rfl, _, rfl, ite2 (fun hb => ?_) (fun hb => ?_)⟩
      · -- the point is there
        have ew : withPt point sts (ns, m) = [(ns, m)] := if_pos hb
        rw [ew] at hlen
        refine ⟨_, rfl, .inl ⟨rfl, _, .inl (.inl ho)⟩, _, rfl, _, rfl, (by show 2 ≤ sizeLine; decide), fun T nT => ?_⟩
        have sT : Same H2 (upd H2 T (.tup [.ref a, vn m])) := same_upd nT
        have nTo : T ≠ o := (ne_of_none ho nT).symm
        refine ⟨o, _, _, rfl, rfl, sT _ _ ho, ?_, ?_⟩
        · rw [List.length_map, hTl]
          simp at hlen
          omega
        · refine ⟨_, _, _, _, ts' ++ [T], rfl, same_put (sm.trans sT) no, ?_, ?_⟩
          · rw [upd_same, List.map_append]; rfl
          · rw [withPoint_take hcv, ew]
            refine A2.snoc ?_ (hA.mono fun t' cv' h => (h.same sT).put)
            exact CvAt.put ⟨a, nTo, nao, upd_same, sT _ _ (sm _ _ ha1)⟩
      · -- the starting ones
        have ew : withPt point sts (ns, m) = longs sts (ns, m) := if_neg hb
        rw [ew] at hlen
        refine ⟨_, rfl, st, rfl, ⟨_, .inl (.inl (sm _ _ hst))⟩, for_list (K := K) (a := st) (xs := us.map V.ref)
          (fun j σ H' => ∃ v6 v7 ts', σ = [some (.ref c), some (vn point), some (.ref st), some (.ref o), some (.ref a), some (vn m), v6, v7] ∧ Same H H' ∧ H' o = some (.lst (ts'.map V.ref)) ∧ A2 (CvAt o H') ts' (withPoint point sts (cvs.take i) ++ longs (sts.take j) (ns, m)))
          ⟨v6, v7, ts', rfl, sm, ho, by rw [List.take_zero]; show A2 _ _ (_ ++ []); rw [List.append_nil]; exact hA⟩ (fun j σ H' _ ⟨_, _, _, _, s2, _⟩ => .inl (.inl (s2 _ _ hst))) ?_ ?_⟩
        · rintro j y σ H3 hj ⟨v6, v7, ts2, rfl, sm3, ho3, hA3⟩
          obtain ⟨t2, ht2, rfl⟩ := get_ref hj
          obtain ⟨⟨n, b⟩, hsj, ht3⟩ := hS.get ht2
          have ht3 : H t2 = some (.tup [vn n, vn b]) := ht3
          have hl3 := hA3.length
          have hll := longs_le sts (ns, m) (j + 1)
          rw [longs_take hsj] at hll
          refine ⟨t2, _, rfl, .inl (.inl (sm3 _ _ ht3)), rfl, _, _, rfl, _, _, rfl, rfl, ?_⟩
          refine ⟨_, rfl, _, rfl, m, b, rfl, rfl, _, 0, rfl, rfl, _, rfl, ite2 (fun hz => ?_) (fun hz => ?_)⟩
          · have hz' : m &&& b = 0 := of_decide_eq_true hz
            rw [if_pos hz'] at hll
            refine ⟨_, rfl, .inl ⟨rfl, _, .inl (.inl ho3)⟩, _, rfl, _, rfl, (by show 1 ≤ sizeLine; decide), fun p1 np1 => ?_⟩
            have sp1 : Same H3 (upd H3 p1 (.lst [vn n])) := same_upd np1
            refine ⟨a, p1, _, _, rfl, rfl, sp1 _ _ (sm3 _ _ ha1), upd_same, ?_, fun p2 np2 => ?_⟩
            · rw [List.length_map]
              exact Nat.le_of_lt (Nat.lt_of_le_of_lt (show ns.length + 1 ≤ 1001 by have : ns.length ≤ 1000 := hns; omega) (by decide))
            have sp2 := same_upd (o := .lst (ns.map vn ++ [vn n])) np2
            have np2o : p2 ≠ o := (ne_of_none (sp1 _ _ ho3) np2).symm
            refine ⟨_, rfl, _, rfl, m, b, rfl, rfl, (by show 2 ≤ sizeLine; decide), fun T nT => ?_⟩
            have sT := same_upd (o := .tup [.ref p2, vn (m ||| b)]) nT
            have nTo : T ≠ o := (ne_of_none (sp2 _ _ (sp1 _ _ ho3)) nT).symm
            have sall : Same H3 _ := sp1.trans (sp2.trans sT)
            refine ⟨o, _, _, rfl, rfl, sall _ _ ho3, ?_, ?_⟩
            · rw [List.length_map, hl3, List.length_append]
              simp only [List.length_append, List.length_cons, List.length_nil] at hll
              omega
            · refine ⟨_, _, ts2 ++ [T], rfl, same_put (sm3.trans sall) no, ?_, ?_⟩
              · rw [upd_same, List.map_append]; rfl
              · rw [longs_take hsj, if_pos hz', ← List.append_assoc]
                refine A2.snoc ?_ (hA3.mono fun t' cv' h => (h.same sall).put)
                refine CvAt.put ⟨p2, nTo, np2o, upd_same, ?_⟩
                rw [sT _ _ (upd_same (a := p2)), List.map_append]
                rfl
          · have hz' : ¬ m &&& b = 0 := fun z => hz (decide_eq_true z)
            refine ⟨_, _, ts2, rfl, sm3, ho3, ?_⟩
            rw [longs_take hsj, if_neg hz', List.append_nil]
            exact hA3
        · rintro σ H3 ⟨v6, v7, ts2, rfl, sm3, ho3, hA3⟩
          refine ⟨_, _, _, _, ts2, rfl, sm3, ho3, ?_⟩
          rw [List.length_map, hS.length, List.take_length] at hA3
          rw [withPoint_take hcv, ew]
          exact hA3
    · rintro σ H' ⟨v4, v5, v6, v7, ts', rfl, sm, ho, hA⟩
      rw [List.length_map, hC.length, List.take_length] at hA
      exact ⟨_, rfl, q H' o ts' sm no ho (hA.mono fun t cv h => h.any)⟩
end
end Eb

set_option Elab.async false
set_option maxRecDepth 100000
set_option maxHeartbeats 2000000
set_option linter.all false
namespace Eb
open PySem PySem.Spec PyProof.Rows L2
theorem StAt.same {H H' : Hp} {t : Addr} {z : Nat × Nat} (s : Same H H') (h : StAt H t z) : StAt H' t z := s _ _ h
theorem StAt.put {H : Hp} {D t : Addr} {z : Nat × Nat} {l : List V} {x : HO} (h : StAt H t z) (hD : H D = some (.lst l)) : StAt (upd H D x) t z := by
  have : t ≠ D := ne_of h hD (by intro z; cases z)
  show (upd H D x) t = _
  rw [upd_ne this]
  exact h
/-- a list of numbers -/
def LsAt (H : Hp) (a : Addr) (ns : List Nat) : Prop := H a = some (.lst (ns.map vn))
theorem LsAt.same {H H' : Hp} {t : Addr} {z : List Nat} (s : Same H H') (h : LsAt H t z) : LsAt H' t z := s _ _ h
def startsTo (ms : List Nat) (point j : Nat) : List (Nat × Nat) := ((List.range j).filter fun i => decide (low (ms.getD i 0) = point)).map fun i => (i, ms.getD i 0)
theorem startsTo_succ (ms : List Nat) (point j : Nat) : startsTo ms point (j + 1) = startsTo ms point j ++ (if low (ms.getD j 0) = point then [(j, ms.getD j 0)] else []) := by
  unfold startsTo
  rw [List.range_succ, List.filter_append, List.map_append]
  congr 1
  simp only [List.filter_cons, List.filter_nil]
  by_cases c : low (ms.getD j 0) = point
  · rw [if_pos (decide_eq_true c), if_pos c]; rfl
  · rw [if_neg (by simpa using c), if_neg c]; rfl
theorem startsTo_length (ms : List Nat) (point j : Nat) : (startsTo ms point j).length ≤ j := by
  unfold startsTo
  rw [List.length_map]
  have := List.length_filter_le (fun i => decide (low (ms.getD i 0) = point)) (List.range j)
  rwa [List.length_range] at this
section
variable {P : Program} {w : World} {K : PySem.W.Frag} {mg : Str → Option Value} {base : Heap}
/-! ### possible_classes -/
abbrev s_poss : Stmt := topS 12
abbrev NP : List Str := ["top", "blocks", "covers", "point", "starting", "number", "block", "numbers", "points"]
theorem sc_poss : FnScope NP ["top", "blocks"] (defScope s_poss) := ⟨rfl, rfl, rfl, by decide +kernel, rfl, by decide +kernel, by decide +kernel⟩
def spPoss (K : PySem.W.Frag) : Sp := fun vs H Q _ => ∃ (b : Addr) (top : Nat) (ms : List Nat), vs = [vn top, .ref b] ∧ SqL K H b (ms.map vn) ∧ ms.length ≤ 20 ∧ (∀ m ∈ ms, 0 < m) ∧ top ≤ 100 ∧
  ∀ H' p as, Same H H' → H p = none → H' p = some (.lst (as.map V.ref)) → A2 (LsAt H') as (possible ms top) → Q (.ref p) H'
theorem okf_poss {f : Addr} {fd : FuncData} (F : Fun K "possible_classes" "possible_classes" s_poss f fd) (mr : mg "range" = none) (me : mg "enumerate" = none) (cl : Cl P w K mg base 1 "lowest_of" ["mask"] spLow) (cw : Cl P w K mg base 2 "with_point" ["covers", "point", "starting"] spWith) : FnOk P w K mg base CX0 3 f fd ["top", "blocks"] (spPoss K) := by
  refine F.ok sc_poss (fun vs H Q E h => ?_) (fun cdv A outer s H vs Q E hr h => ?_)
  · obtain ⟨b, top, ms, rfl, _⟩ := h
    rfl
  · obtain ⟨b, top, ms, rfl, hb, hl, hpos, ht, q⟩ := h
    refine ⟨_, pss_cons (ps_set (i := 2) sc_poss.nd rfl (.inl rfl) (pe_lst (pa_cons (pe_tup (pa_cons (pe_lst pa_nil) (pa_cons pe_int pa_nil))) pa_nil)))
      (pss_cons (ps_for PassesOwn.never rfl (pi_range2 rfl mr (pa_cons pe_int (pa_cons (pe_op op_addN (pv 0) pe_int) pa_nil))) (pg_name (i := 3) sc_poss.nd rfl (.inr rfl))
        (pss_cons (ps_setLc (i := 4) (own := [("number", 5), ("block", 6)]) (g := gTup K 2 (gCons (gName 5) (gCons (gName 6) gNil))) (te := tTup (tCons (tVar 5) (tCons (tVar 6) tNil))) rfl sc_poss.nd rfl rfl (sw_true rfl rfl rfl (by decide +kernel)) (by exact pi_enum (by rfl) me (pa_cons (pv 1) pa_nil)) (blkOk_by (own := [("number", 5), ("block", 6)]) (N := NP) (sc := defScope s_poss) (by decide +kernel))
            (fun _ _ _ _ _ => pg_tup rfl (pgs_cons (pg_name (i := 5) sc_poss.nd rfl (Or.inl rfl)) (pgs_cons (pg_name (i := 6) sc_poss.nd rfl (Or.inl rfl)) pgs_nil))) (fun _ _ _ _ _ => pts_one (pt_cmpR op_eqN (pe_cl cl hr (by decide) (by rfl) (by exact pa_cons (pv 6) pa_nil)) (by exact pv 3) (nomark _))) (fun _ _ _ _ _ => by exact pe_tup (pa_cons (pv 5) (pa_cons (pv 6) pa_nil))))
          (pss_one (ps_set (i := 2) sc_poss.nd rfl (.inl rfl) (pe_cl cw hr (by decide) (by rfl) (pa_cons (pv 2) (pa_cons (pv 3) (pa_cons (pv 4) pa_nil))))))))
      (pss_one (ps_ret (pe_lc (own := [("numbers", 7), ("points", 8)]) (g := gTup K 2 (gCons (gName 7) (gCons (gName 8) gNil))) (tt := tYes) (te := tVar 7) rfl sc_poss.nd (by exact pi_list (pv 2)) (blkOk_by (own := [("numbers", 7), ("points", 8)]) (N := NP) (sc := defScope s_poss) (by decide +kernel))
            (fun _ _ _ _ _ => pg_tup rfl (pgs_cons (pg_name (i := 7) sc_poss.nd rfl (Or.inl rfl)) (pgs_cons (pg_name (i := 8) sc_poss.nd rfl (Or.inl rfl)) pgs_nil))) (fun _ _ _ _ _ => pts_nil) (fun _ _ _ _ _ => by exact pv 7))))), ?_⟩
    refine ⟨Nat.zero_le _, fun o1 no1 => ⟨(by show 2 ≤ sizeLine; decide), fun o2 no2 => ⟨(by show 1 ≤ sizeLine; decide), fun o3 no3 => ?_⟩⟩⟩
    have s1 := same_upd (o := .lst []) no1
    have s2 := same_upd (o := .tup [.ref o1, .int 0]) no2
    have s3 := same_upd (o := .lst [.ref o2]) no3
    have sA := s1.trans (s2.trans s3)
    have hcv0 : A2 (CvAny (upd (upd (upd H o1 (.lst [])) o2 (.tup [.ref o1, .int 0])) o3 (.lst [.ref o2]))) [o2] (coversTo ms 0) := by
      refine ⟨⟨o1, s3 _ _ upd_same, s3 _ _ (s2 _ _ upd_same)⟩, trivial⟩
    refine ⟨_, rfl, top, 1, rfl, rfl, 1, _, rfl, ⟨by omega, by omega, by omega, by omega⟩, ?_⟩
    have en : (((top + 1 : Nat) : Int) - 1).toNat = top := by omega
    rw [en]
    refine for_range (lo := 1) (n := top) (fun i σ H' => ∃ c v3 v4 ts, σ = [some (vn top), some (.ref b), some (.ref c), v3, v4, none, none, none, none] ∧ Same H H' ∧ H' c = some (.lst (ts.map V.ref)) ∧ A2 (CvAny H') ts (coversTo ms i))
      ⟨o3, none, none, [o2], rfl, sA, upd_same, hcv0⟩ ?_ ?_
    · rintro i σ H2 hi ⟨c, v3, v4, ts, rfl, sm, hc, hC⟩
      have ei : V.int (1 + (i : Int)) = vn (i + 1) := by
        show V.int _ = V.int _
        congr 1
        omega
      rw [ei]
      refine ⟨_, rfl, b, ms.map vn, rfl, sm.seq hb, fun D nD => ?_⟩
      refine lc_it walk_enum (fun j H' => ∃ us, Same H2 H' ∧ H' D = some (.lst (us.map V.ref)) ∧ A2 (StAt H') us (startsTo ms (i + 1) j)) ⟨[], same_upd nD, upd_same, trivial⟩ (fun j H' _ ⟨_, s2, _⟩ => s2.seq (sm.seq hb)) ?_ ?_
      · rintro j x H3 H4 hj ⟨us, s3, hD, hU⟩ ⟨T, x1, x2, rfl, nT, rfl, e1, e2⟩
        rw [List.length_map] at hj
        obtain rfl : x1 = .int (j : Nat) := (Option.some.inj e1).symm
        obtain ⟨m, hm, rfl⟩ := get_map e2
        have eb : ms.getD j 0 = m := by rw [List.getD_eq_getElem?_getD, hm]; rfl
        have sT : Same H3 (upd H3 T (.tup [.int (j : Nat), vn m])) := same_upd nT
        refine ⟨T, _, rfl, .inl (.inl upd_same), rfl, _, _, rfl, _, _, rfl, rfl, rfl, ?_⟩
        refine ⟨_, rfl, m, rfl, hpos m (List.mem_of_getElem? hm), _, rfl, low m, i + 1, rfl, rfl, _, rfl, ite2 (fun hz => ?_) (fun hz => ?_)⟩
        · have hz' : low m = i + 1 := of_decide_eq_true hz
          refine ⟨_, rfl, _, rfl, (by show 2 ≤ sizeLine; decide), fun T2 nT2 => ?_⟩
          have sT2 := same_upd (o := .tup [vn j, vn m]) nT2
          have hD2 := sT2 _ _ (sT _ _ hD)
          refine ⟨_, hD2, ?_, us ++ [T2], same_put (s3.trans (sT.trans sT2)) nD, ?_, ?_⟩
          · rw [List.length_map, hU.length]
            have := startsTo_length ms (i + 1) j
            exact small1000 (by omega)
          · rw [upd_same, List.map_append]; rfl
          · rw [startsTo_succ, eb, if_pos hz']
            refine A2.snoc ?_ (hU.mono fun t z h => ((h.same sT).same sT2).put hD2)
            exact StAt.put (z := (j, m)) upd_same hD2
        · have hz' : ¬ low m = i + 1 := fun z => hz (decide_eq_true z)
          refine ⟨us, s3.trans sT, sT _ _ hD, ?_⟩
          rw [startsTo_succ, eb, if_neg hz', List.append_nil]
          exact hU.mono fun t z h => h.same sT
      · rintro H3 ⟨us, s3, hD, hU⟩
        rw [List.length_map] at hU
        refine ⟨_, rfl, _, rfl, _, rfl, c, D, ts, us, i + 1, coversTo ms i, startsTo ms (i + 1) ms.length, rfl, s3 _ _ hc, hC.mono fun t cv h => h.same s3, hD, hU, ?_, fun cv hcv => ?_, fun H4 p ts' s4 np hp hA => ?_⟩
        · have : (coversTo ms (i + 1)).length ≤ 1048576 := covers_few hl (i + 1)
          exact Nat.lt_of_le_of_lt this (by decide)
        · have := (covers_nums ms i cv hcv).1
          omega
        · exact ⟨p, _, _, ts', rfl, sm.trans (s3.trans s4), hp, hA⟩
    · rintro σ H2 ⟨c, v3, v4, ts, rfl, sm, hc, hC⟩
      refine ⟨_, rfl, c, rfl, ⟨_, .inl (.inl hc)⟩, fun D nD => lc_list (K := K) (a := c) (xs := ts.map V.ref)
        (fun i H' => ∃ as, Same H2 H' ∧ H' D = some (.lst (as.map V.ref)) ∧ A2 (LsAt H2) as (((coversTo ms top).take i).map (·.1))) ⟨[], same_upd nD, upd_same, by rw [List.take_zero]; exact trivial⟩ (fun i H' _ ⟨_, s2, _⟩ => .inl (.inl (s2 _ _ hc))) ?_ ?_⟩
      · rintro i x H3 hi ⟨as, s3, hD, hA⟩
        obtain ⟨t, ht, rfl⟩ := get_ref hi
        obtain ⟨cv, hcv, a, ht1, ha1⟩ := hC.get ht
        refine ⟨t, _, rfl, .inl (.inl (s3 _ _ ht1)), rfl, _, _, rfl, _, _, rfl, rfl, rfl, _, rfl, _, hD, ?_, as ++ [a], same_put s3 nD, ?_, ?_⟩
        · rw [List.length_map, hA.length, List.length_map, List.length_take]
          have := covers_few hl top
          exact Nat.lt_of_le_of_lt (show _ ≤ 1048576 by omega) (by decide)
        · rw [upd_same, List.map_append]; rfl
        · rw [take_more hcv, List.map_append]
          exact A2.snoc (R := LsAt H2) ha1 hA
      · rintro H3 ⟨as, s3, hD, hA⟩
        rw [List.length_map, hC.length, List.take_length] at hA
        exact q H3 D as (sm.trans s3) (sm.free nD) hD (hA.mono fun a ns h => h.same s3)
end
end Eb

set_option Elab.async false
set_option maxRecDepth 100000
set_option maxHeartbeats 2000000
set_option linter.all false
namespace Eb
open PySem PySem.Spec PyProof.Rows L2
/-- a class: a tuple of its numbers' list and their mask -/
def ClAt (H : Hp) (t : Addr) (c : List Nat) : Prop := ∃ a, H t = some (.tup [.ref a, vn (maskOf c)]) ∧ H a = some (.lst (c.map vn))
theorem ClAt.same {H H' : Hp} {t : Addr} {c : List Nat} (s : Same H H') (h : ClAt H t c) : ClAt H' t c := by
  obtain ⟨a, h1, h2⟩ := h
  exact ⟨a, s _ _ h1, s _ _ h2⟩
/-- its list stands since H -/
def ClOld (H H' : Hp) (t : Addr) (c : List Nat) : Prop := ∃ a, H' t = some (.tup [.ref a, vn (maskOf c)]) ∧ H a = some (.lst (c.map vn))
theorem ClOld.at {H H' : Hp} {t : Addr} {c : List Nat} (s : Same H H') (h : ClOld H H' t c) : ClAt H' t c := by
  obtain ⟨a, h1, h2⟩ := h
  exact ⟨a, h1, s _ _ h2⟩
theorem ClOld.same {H H1 H2 : Hp} {t : Addr} {c : List Nat} (s : Same H1 H2) (h : ClOld H H1 t c) : ClOld H H2 t c := by
  obtain ⟨a, h1, h2⟩ := h
  exact ⟨a, s _ _ h1, h2⟩
theorem ClOld.put {H H1 : Hp} {D t : Addr} {c : List Nat} {l : List V} {x : HO} (h : ClOld H H1 t c) (hD : H1 D = some (.lst l)) : ClOld H (upd H1 D x) t c := by
  obtain ⟨a, h1, h2⟩ := h
  have : t ≠ D := ne_of h1 hD (by intro z; cases z)
  exact ⟨a, by rw [upd_ne this]; exact h1, h2⟩
/-- the classes by their lowest block -/
def byLow (cs : List (List Nat)) (k : Nat) : List (List Nat) := cs.filter fun c => decide (low (maskOf c) = k)
structure PlcAt (H : Hp) (p : Addr) (count : Nat) (cs : List (List Nat)) : Prop where
  ex : ∃ ls : List Addr, H p = some (.lst (ls.map V.ref)) ∧ ls.length = count ∧ ∀ (k : Nat) (l : Addr), ls[k]? = some l → ∃ ts : List Addr, H l = some (.lst (ts.map V.ref)) ∧ A2 (ClAt H) ts (byLow cs k)
theorem PlcAt.same {H H' : Hp} {p : Addr} {count : Nat} {cs : List (List Nat)} (s : Same H H') (h : PlcAt H p count cs) : PlcAt H' p count cs := by
  obtain ⟨ls, h1, h2, h3⟩ := h.ex
  refine ⟨ls, s _ _ h1, h2, fun k l e => ?_⟩
  obtain ⟨ts, h4, h5⟩ := h3 k l e
  exact ⟨ts, s _ _ h4, h5.mono fun t c z => z.same s⟩
theorem byLow_take {cs : List (List Nat)} {i : Nat} {c : List Nat} (h : cs[i]? = some c) (k : Nat) : byLow (cs.take (i + 1)) k = byLow (cs.take i) k ++ (if low (maskOf c) = k then [c] else []) := by
  unfold byLow
  rw [take_more h, List.filter_append]
  congr 1
  simp only [List.filter_cons, List.filter_nil]
  by_cases e : low (maskOf c) = k
  · rw [if_pos (decide_eq_true e), if_pos e]
  · rw [if_neg (by simpa using e), if_neg e]
section
variable {P : Program} {w : World} {K : PySem.W.Frag} {mg : Str → Option Value} {base : Heap}
/-! ### by_lowest_block -/
abbrev s_bylow : Stmt := topS 13
theorem sc_bylow : FnScope ["count", "classes", "places", "number", "numbers"] ["count", "classes"] (defScope s_bylow) := ⟨rfl, rfl, rfl, by decide +kernel, rfl, by decide +kernel, by decide +kernel⟩
def spBylow : Sp := fun vs H Q _ => ∃ (cl : Addr) (as : List Addr) (count : Nat) (cs : List (List Nat)), vs = [vn count, .ref cl] ∧ H cl = some (.lst (as.map V.ref)) ∧ A2 (LsAt H) as cs ∧ cs.length ≤ 1048576 ∧ (∀ c ∈ cs, c ≠ [] ∧ ∀ i ∈ c, i < count) ∧ count ≤ 100 ∧
  ∀ H' p, Same H H' → H p = none → PlcAt H' p count cs → Q (.ref p) H'
theorem okf_bylow {f : Addr} {fd : FuncData} (F : Fun K "by_lowest_block" "by_lowest_block" s_bylow f fd) (mr : mg "range" = none) (mn : mg "min" = none) (cm : Cl P w K mg base 1 "mask_of" ["points"] (spMask K)) : FnOk P w K mg base CX0 2 f fd ["count", "classes"] spBylow := by
  refine F.ok sc_bylow (fun vs H Q E h => ?_) (fun cdv A outer s H vs Q E hr h => ?_)
  · obtain ⟨cl, as, count, cs, rfl, _⟩ := h
    rfl
  · obtain ⟨cl, as, count, cs, rfl, hcl, hA, hlen, hcs, hco, q⟩ := h
    refine ⟨_, pss_cons (ps_setLc (i := 2) (own := [("number", 3)]) (g := gName 3) (tt := tYes) (te := tLst tNil) rfl sc_bylow.nd rfl rfl (sw_true rfl rfl rfl (by decide +kernel)) (by exact pi_range1 rfl mr (pa_cons (pv 0) pa_nil)) (blkOk_by (own := [("number", 3)]) (N := ["count", "classes", "places", "number", "numbers"]) (sc := defScope s_bylow) (by decide +kernel))
          (fun _ _ _ _ _ => pg_name (i := 3) sc_bylow.nd rfl (Or.inl rfl)) (fun _ _ _ _ _ => pts_nil) (fun _ _ _ _ _ => by exact pe_lst pa_nil))
      (pss_cons (ps_for PassesOwn.never rfl (pi_list (pv 1)) (pg_name (i := 4) sc_bylow.nd rfl (.inl rfl))
        (pss_one (ps_expr (pe_bm PySem.F.plainAttrs_list PySem.F.slot_list_append PySem.F.type_list_append mt_append (pe_ix ix_list (pv 2) (pe_callB (cr_min rfl) (by rfl) mn (by decide +kernel) (pa_cons (pv 4) pa_nil)) (fun _ _ => rfl)) (pa_cons
          (pe_tup (pa_cons (pv 4) (pa_cons (pe_cl cm hr (by decide) (by rfl) (pa_cons (pv 4) pa_nil)) pa_nil))) pa_nil)))))
      (pss_one (ps_ret (pv 2)))), ?_⟩
    refine ⟨_, rfl, _, rfl, by omega, by omega, fun D nD => ?_⟩
    rw [Int.toNat_natCast]
    refine lc_range (lo := 0) (n := count) (fun i H' => ∃ ls : List Addr, Same H H' ∧ H' D = some (.lst (ls.map V.ref)) ∧ ls.length = i ∧ ls.Nodup ∧ D ∉ ls ∧ ∀ l ∈ ls, H l = none ∧ H' l = some (.lst [])) ⟨[], same_upd nD, upd_same, rfl, List.nodup_nil, by simp, fun l h => (nomatch h)⟩ ?_ ?_
    · rintro i H2 hi ⟨ls, sm, hD, hl, hnd, hDl, hls⟩
      refine ⟨rfl, Nat.zero_le _, fun p np => ?_⟩
      have sp : Same H2 (upd H2 p (.lst [])) := same_upd np
      have npD : D ≠ p := ne_of_none hD np
      refine ⟨_, sp _ _ hD, ?_, ls ++ [p], same_put (sm.trans sp) nD, ?_, ?_, ?_, ?_, ?_⟩
      · rw [List.length_map, hl]
        exact small1000 (by omega)
      · rw [upd_same, List.map_append]; rfl
      · rw [List.length_append, hl]; rfl
      · rw [List.nodup_append]
        refine ⟨hnd, by simp, fun a ha b hb e => ?_⟩
        have hb' : b = p := by simpa using hb
        have := (hls a ha).2
        rw [e, hb', np] at this
        cases this
      · intro z
        rcases List.mem_append.mp z with z | z
        · exact hDl z
        · exact npD (by simpa using z)
      · intro l h
        rcases List.mem_append.mp h with h | h
        · have hne : l ≠ D := fun z => hDl (z ▸ h)
          exact ⟨(hls l h).1, by rw [upd_ne hne]; exact sp _ _ (hls l h).2⟩
        · have : l = p := by simpa using h
          subst this
          exact ⟨sm.free np, by rw [upd_ne npD.symm, upd_same]⟩
    · rintro H1 ⟨ls, s1, hD, hl, hnd, hDl, hls⟩
      refine ⟨_, rfl, cl, rfl, ⟨_, .inl (.inl (s1 _ _ hcl))⟩, for_list (K := K) (a := cl) (xs := as.map V.ref)
        (fun i σ H' => ∃ v4, σ = [some (vn count), some (.ref cl), some (.ref D), none, v4] ∧ Same H H' ∧ H' D = some (.lst (ls.map V.ref)) ∧ ∀ (k : Nat) (l : Addr), ls[k]? = some l → ∃ ts : List Addr, H' l = some (.lst (ts.map V.ref)) ∧ A2 (ClOld H H') ts (byLow (cs.take i) k))
        ⟨none, rfl, s1, hD, fun k l e => ⟨[], (hls l (List.mem_of_getElem? e)).2, by rw [List.take_zero]; exact trivial⟩⟩ (fun i σ H' _ ⟨_, _, s2, _⟩ => .inl (.inl (s2 _ _ hcl))) ?_ ?_⟩
      · rintro i y σ H2 hi ⟨v4, rfl, sm, hD2, hk⟩
        obtain ⟨a, ha, rfl⟩ := get_ref hi
        obtain ⟨c, hc, haL⟩ := hA.get ha
        have haL : H a = some (.lst (c.map vn)) := haL
        obtain ⟨hne, hin⟩ := hcs c (List.mem_of_getElem? hc)
        have haI : H2 a = some (.lst ((c.map fun (n : Nat) => (n : Int)).map V.int)) := by
          rw [sm _ _ haL, List.map_map]; rfl
        refine ⟨_, rfl, _, rfl, a, _, rfl, .inl (.inl haI), by
          rw [List.length_map]
          exact List.length_pos_iff.mpr hne, fun mi hmi hmi2 => ?_⟩
        obtain ⟨n, hn, rfl⟩ := List.mem_map.mp hmi
        have hlow : low (maskOf c) = n := low_mask hn fun y hy => by
          have := hmi2 (y : Int) (List.mem_map.mpr ⟨y, hy, rfl⟩)
          omega
        have hnc := hin n hn
        obtain ⟨l, hll⟩ : ∃ l, ls[n]? = some l := ⟨_, List.getElem?_eq_getElem (by omega)⟩
        have hlm := List.mem_of_getElem? hll
        obtain ⟨ts, hts, hTA⟩ := hk n l hll
        refine ⟨D, _, _, _, rfl, rfl, .inl (.inl hD2), atI_nat (by rw [List.getElem?_map, hll]; rfl), ?_⟩
        refine ⟨.inl ⟨rfl, _, .inl (.inl hts)⟩, _, rfl, _, rfl, a, c, rfl, .inl (.inl (sm _ _ haL)), fun x hx => ?_, ?_⟩
        · have := hin x hx
          omega
        refine ⟨(by show 2 ≤ sizeLine; decide), fun T nT => ?_⟩
        have sT : Same H2 (upd H2 T (.tup [.ref a, vn (maskOf c)])) := same_upd nT
        have hnl : H l = none := (hls l hlm).1
        refine ⟨l, _, _, rfl, rfl, sT _ _ hts, ?_, ?_⟩
        · rw [List.length_map, hTA.length]
          unfold byLow
          have h1 := List.length_filter_le (fun c => decide (low (maskOf c) = n)) (cs.take i)
          rw [List.length_take] at h1
          exact Nat.lt_of_le_of_lt (show _ ≤ 1048576 by omega) (by decide)
        · have hDne : D ≠ l := fun z => hDl (z ▸ hlm)
          refine ⟨_, rfl, same_put (sm.trans sT) hnl, by rw [upd_ne hDne]; exact sT _ _ hD2, fun k l' hl' => ?_⟩
          rw [byLow_take hc, hlow]
          by_cases e : n = k
          · subst e
            rw [hll] at hl'
            cases hl'
            refine ⟨ts ++ [T], by rw [upd_same, List.map_append]; rfl, ?_⟩
            rw [if_pos rfl]
            refine A2.snoc ?_ (hTA.mono fun t c z => (z.same sT).put (sT _ _ hts))
            exact ClOld.put (H := H) ⟨a, upd_same, haL⟩ (sT _ _ hts)
          · rw [if_neg e, List.append_nil]
            obtain ⟨ts', hts', hTA'⟩ := hk k l' hl'
            have hne' : l' ≠ l := by
              intro z
              subst z
              apply e
              have h1 := (List.getElem?_eq_some_iff.mp hll)
              have h2 := (List.getElem?_eq_some_iff.mp hl')
              obtain ⟨p1, q1⟩ := h1
              obtain ⟨p2, q2⟩ := h2
              have hpw := List.pairwise_iff_getElem.mp hnd
              rcases Nat.lt_trichotomy n k with c1 | c1 | c1
              · exact absurd (q1.trans q2.symm) (hpw n k p1 p2 c1)
              · exact c1
              · exact absurd (q2.trans q1.symm) (hpw k n p2 p1 c1)
            exact ⟨ts', by rw [upd_ne hne']; exact sT _ _ hts', hTA'.mono fun t c z => (z.same sT).put (sT _ _ hts)⟩
      · rintro σ H2 ⟨v4, rfl, sm, hD2, hk⟩
        rw [List.length_map, hA.length, List.take_length] at hk
        refine ⟨_, rfl, q H2 D sm nD ⟨ls, hD2, hl, fun k l e => ?_⟩⟩
        obtain ⟨ts, h1, h2⟩ := hk k l e
        exact ⟨ts, h1, h2.mono fun t c z => z.at sm⟩
end
end Eb

set_option Elab.async false
set_option maxRecDepth 100000
set_option maxHeartbeats 2000000
set_option linter.all false
namespace Eb
open PySem PySem.Spec PyProof.Rows L2
theorem xor_pos {a b : Nat} (h : b ≠ a) : 0 < a ^^^ b := by
  rcases Nat.eq_zero_or_pos (a ^^^ b) with e | e
  · exfalso
    apply h
    apply Nat.eq_of_testBit_eq
    intro i
    have := congrArg (fun z => z.testBit i) e
    simp only [Nat.testBit_xor, Nat.zero_testBit] at this
    cases h1 : a.testBit i <;> cases h2 : b.testBit i <;> simp [h1, h2] at this ⊢
  · exact e
/-- lists and tuples stand as before -/
def Lt (H H' : Hp) : Prop := (∀ b l, H b = some (.lst l) → H' b = some (.lst l)) ∧ ∀ b l, H b = some (.tup l) → H' b = some (.tup l)
theorem Lt.trans {H1 H2 H3 : Hp} (a : Lt H1 H2) (b : Lt H2 H3) : Lt H1 H3 := ⟨fun x l e => b.1 _ _ (a.1 _ _ e), fun x l e => b.2 _ _ (a.2 _ _ e)⟩
theorem lt_same {H H' : Hp} (s : Same H H') : Lt H H' := ⟨fun _ _ e => s _ _ e, fun _ _ e => s _ _ e⟩
theorem lt_dict {H : Hp} {D : Addr} {kvs : List (Key × V)} {x : HO} (h : H D = some (.dK kvs)) : Lt H (upd H D x) :=
  ⟨fun b l e => by rw [upd_ne (ne_of e h (by intro z; cases z))]; exact e, fun b l e => by rw [upd_ne (ne_of e h (by intro z; cases z))]; exact e⟩
theorem lt_frz {H : Hp} {D : Addr} {o : Obj} {u : HO} {x : HO} (h : H D = some (.frz o u)) : Lt H (upd H D x) :=
  ⟨fun b l e => by rw [upd_ne (ne_of e h (by intro z; cases z))]; exact e, fun b l e => by rw [upd_ne (ne_of e h (by intro z; cases z))]; exact e⟩
theorem LsAt.lt {H H' : Hp} {a : Addr} {ns : List Nat} (s : Lt H H') (h : LsAt H a ns) : LsAt H' a ns := s.1 _ _ h
theorem ClAt.lt {H H' : Hp} {t : Addr} {c : List Nat} (s : Lt H H') (h : ClAt H t c) : ClAt H' t c := by
  obtain ⟨a, h1, h2⟩ := h
  exact ⟨a, s.2 _ _ h1, s.1 _ _ h2⟩
theorem PlcAt.lt {H H' : Hp} {p : Addr} {count : Nat} {cs : List (List Nat)} (s : Lt H H') (h : PlcAt H p count cs) : PlcAt H' p count cs := by
  obtain ⟨ls, h1, h2, h3⟩ := h.ex
  refine ⟨ls, s.1 _ _ h1, h2, fun k l e => ?_⟩
  obtain ⟨ts, h4, h5⟩ := h3 k l e
  exact ⟨ts, s.1 _ _ h4, h5.mono fun t c z => z.lt s⟩
/-- a way: its blocks' mask, the list of its classes -/
def WyAt (H : Hp) (kv : Key × V) (z : Way) : Prop := kv.1 = Sum.inl (z.1 : Int) ∧ ∃ (r : Addr) (as : List Addr), kv.2 = .ref r ∧ H r = some (.lst (as.map V.ref)) ∧ A2 (LsAt H) as z.2
theorem WyAt.lt {H H' : Hp} {kv : Key × V} {z : Way} (s : Lt H H') (h : WyAt H kv z) : WyAt H' kv z := by
  obtain ⟨h1, r, as, h2, h3, h4⟩ := h
  exact ⟨h1, r, as, h2, s.1 _ _ h3, h4.mono fun a c e => e.lt s⟩
theorem key_eq (a b : Nat) : (Sum.inl (a : Int) : Key) = Sum.inl (b : Int) ↔ a = b := ⟨fun h => by have := Sum.inl.inj h; omega, fun h => by rw [h]⟩
theorem val_isSome {H : Hp} (k : Nat) : ∀ {kvs : List (Key × V)} {d : List Way}, A2 (WyAt H) kvs d → (valV kvs (Sum.inl (k : Int))).isSome = hasKey d k
  | [], [], _ => rfl
  | [], _ :: _, h => h.elim
  | _ :: _, [], h => h.elim
  | kv :: kvs, z :: d, h => by
    have ih := val_isSome k h.2
    have hk := h.1.1
    unfold hasKey at ih ⊢
    rw [List.any_cons]
    by_cases c : z.1 = k
    · rw [valV_pos (by rw [hk, key_eq]; exact c), show (z.1 == k) = true by simpa using c]
      rfl
    · rw [valV_neg (by rw [hk, key_eq]; exact c), show (z.1 == k) = false by simpa using c, Bool.false_or]
      exact ih
theorem put_new {H : Hp} {k : Nat} {v : V} {kvs : List (Key × V)} {d : List Way} (h : A2 (WyAt H) kvs d) (hk : hasKey d k = false) : putK kvs (Sum.inl (k : Int)) v = kvs ++ [(Sum.inl (k : Int), v)] := by
  have := val_isSome k h
  rw [hk] at this
  unfold putK
  rw [if_neg]
  intro z
  obtain ⟨kv, h1, h2⟩ := List.any_eq_true.mp z
  unfold valV at this
  cases e : kvs.find? fun kv => decide (kv.1 = Sum.inl (k : Int)) with
  | some y => rw [e] at this; cases this
  | none =>
    have := List.find?_eq_none.mp e kv h1
    exact this h2
theorem val_at {H : Hp} : ∀ {kvs : List (Key × V)} {ws : List Way} {i : Nat} {z : Way}, A2 (WyAt H) kvs ws → (ws.map (·.1)).Nodup → ws[i]? = some z → ∃ (r : Addr) (as : List Addr), valV kvs (Sum.inl (z.1 : Int)) = some (.ref r) ∧ H r = some (.lst (as.map V.ref)) ∧ A2 (LsAt H) as z.2
  | [], [], i, z, _, _, h => by simp at h
  | [], _ :: _, _, _, h, _, _ => h.elim
  | _ :: _, [], _, _, h, _, _ => h.elim
  | kv :: kvs, y :: ws, 0, z, h, nd, e => by
    have : y = z := by simpa using e
    subst this
    obtain ⟨h1, r, as, h2, h3, h4⟩ := h.1
    exact ⟨r, as, by rw [valV_pos h1, h2], h3, h4⟩
  | kv :: kvs, y :: ws, i + 1, z, h, nd, e => by
    rw [List.map_cons, List.nodup_cons] at nd
    have e' : ws[i]? = some z := by simpa using e
    obtain ⟨r, as, h1, h2, h3⟩ := val_at (i := i) h.2 nd.2 e'
    refine ⟨r, as, ?_, h2, h3⟩
    have hne : ¬ y.1 = z.1 := fun c => nd.1 (by rw [c]; exact List.mem_map.mpr ⟨z, List.mem_of_getElem? e', rfl⟩)
    rw [valV_neg (by rw [h.1.1, key_eq]; exact hne)]
    exact h1
section
variable {P : Program} {w : World} {K : PySem.W.Frag} {mg : Str → Option Value} {base : Heap}
/-! ### one_class_more -/
abbrev s_more : Stmt := topS 14
theorem sc_more : FnScope ["ways", "every", "places", "longer", "used", "numbers", "members"] ["ways", "every", "places"] (defScope s_more) := ⟨rfl, rfl, rfl, by decide +kernel, rfl, by decide +kernel, by decide +kernel⟩
abbrev psOf (p : Dg01.Plan) : List (List Nat) := possible (p.blocks.map maskOf) p.many
def spMore : Sp := fun vs H Q _ => ∃ (W pl : Addr) (kvs : List (Key × V)) (ws : List Way) (p : Dg01.Plan) (j : Nat), vs = [.ref W, vn (every p.blocks.length), .ref pl] ∧ H W = some (.dK kvs) ∧ A2 (WyAt H) kvs ws ∧ PlcAt H pl p.blocks.length (psOf p) ∧
  Wf p ∧ 1 ≤ p.many ∧ p.blocks.length ≤ 20 ∧ Lv p j ws ∧ (∀ z ∈ ws, z.1 ≠ every p.blocks.length) ∧ j ≤ 1000 ∧
  ∀ H' L kvs', Same H H' → H L = none → H' L = some (.dK kvs') → A2 (WyAt H') kvs' (oneMore (nxOf (psOf p) p.blocks.length) ws) → Q (.ref L) H'
theorem okf_more {f : Addr} {fd : FuncData} (F : Fun K "one_class_more" "one_class_more" s_more f fd) (cl : Cl P w K mg base 1 "lowest_of" ["mask"] spLow) : FnOk P w K mg base CX0 2 f fd ["ways", "every", "places"] spMore := by
  refine F.ok sc_more (fun vs H Q E h => ?_) (fun cdv A outer s H vs Q E hr h => ?_)
  · obtain ⟨W, pl, kvs, ws, p, j, rfl, _⟩ := h
    rfl
  · obtain ⟨W, pl, kvs, ws, p, j, rfl, hW, hA, hPl, wf, hp, hn, hLv, hne, hj, q⟩ := h
    refine ⟨_, pss_cons (ps_set (i := 3) sc_more.nd rfl (.inl rfl) pe_dnewK)
      (pss_cons (ps_lock (ps_for PassesOwn.never rfl (pi_keys (pv 0)) (pg_name (i := 4) sc_more.nd rfl (.inl rfl))
        (pss_one (ps_for PassesOwn.never rfl (pi_list (pe_ix ix_list (pv 2) (pe_cl cl hr (by decide) (by rfl) (pa_cons (pe_op op_xorN (pv 1) (pv 4)) pa_nil)) (fun _ _ => rfl))) (pg_tup rfl (pgs_cons (pg_name (i := 5) sc_more.nd rfl (.inl rfl)) (pgs_cons (pg_name (i := 6) sc_more.nd rfl (.inl rfl)) pgs_nil)))
          (pss_one (ps_if (pw_and (pt_cmpR op_eqN (pe_op op_andN (pv 4) (pv 6)) pe_int (nomark _)) (pw_and1 (pt_cmp (pc_dnotin (hu_of hr) (pe_op op_orN (pv 4) (pv 6)) (pv 3))))).pt
            (pss_one (ps_dput (hu_of hr) (pv 3) (pe_op op_orN (pv 4) (pv 6)) (pe_op op_cat (pe_dget (hu_of hr) (pv 0) (pv 4) (fun _ _ => rfl)) (pe_lst (pa_cons (pv 5) pa_nil))) rfl)) pss_nil))))))
      (pss_one (ps_ret (pv 3)))), ?_⟩
    intro L nL
    have nLW : W ≠ L := ne_of_none hW nL
    have hW1 : (upd H L (.dK [])) W = some (.dK kvs) := by rw [upd_ne nLW]; exact hW
    refine ⟨W, _, hW1, trivial, fun od => ?_⟩
    generalize hz : upd H W (.frz od (.dK kvs)) = Hz
    have hzL : Hz L = none := by rw [← hz, upd_ne nLW.symm]; exact nL
    have hzW : Hz W = some (.frz od (.dK kvs)) := by rw [← hz, upd_same]
    have ltz : Lt H Hz := by rw [← hz]; exact lt_dict hW
    have hAz : A2 (WyAt Hz) kvs ws := hA.mono fun kv z e => e.lt ltz
    have hPz := hPl.lt ltz
    have sz : Same Hz (upd (upd H L (.dK [])) W (.frz od (.dK kvs))) := by
      intro b o e
      rw [← hz] at e
      by_cases c : b = W
      · subst c
        rw [upd_same] at e ⊢
        exact e
      · rw [upd_ne c] at e ⊢
        rw [upd_ne (ne_of_none e nL)]
        exact e
    refine ⟨_, rfl, W, od, rfl, .inl ⟨kvs, upd_same, for_it walk_keys
      (fun i σ H' => ∃ v4 v5 v6 kvs', σ = [some (.ref W), some (vn (every p.blocks.length)), some (.ref pl), some (.ref L), v4, v5, v6] ∧ Same Hz H' ∧ H' L = some (.dK kvs') ∧ A2 (WyAt H') kvs' ((ws.take i).foldl (fun d z => (nxOf (psOf p) p.blocks.length z.1).foldl (put z) d) []) ∧ Lv p (j + 1) ((ws.take i).foldl (fun d z => (nxOf (psOf p) p.blocks.length z.1).foldl (put z) d) []))
      ⟨none, none, none, [], rfl, sz, by rw [upd_ne nLW.symm, upd_same], by rw [List.take_zero]; exact trivial, by rw [List.take_zero]; exact Lv.nil p (j + 1)⟩ (fun i σ H' _ ⟨_, _, _, _, _, s2, _⟩ => s2 _ _ hzW) ?_ ?_⟩⟩
    · rintro i x σ H2 H2' hi ⟨v4, v5, v6, kvs', rfl, sm, hL, hK, hLd⟩ ⟨rfl, k, v, hkv, rfl⟩
      obtain ⟨z, hzi, hzk, _⟩ := hAz.get hkv
      have hzm := List.mem_of_getElem? hzi
      subst hzk
      obtain ⟨r, as, hval, hr1, hr2⟩ := val_at hAz hLv.nd hzi
      have hzlt := hLv.lt z hzm
      have hzne := hne z hzm
      obtain ⟨_, _, hlow, _⟩ := left_head hzlt hzne
      obtain ⟨ls, hls, hlsn, hlk⟩ := hPz.ex
      obtain ⟨l, hll⟩ : ∃ l, ls[low (every p.blocks.length ^^^ z.1)]? = some l := ⟨_, List.getElem?_eq_getElem (by omega)⟩
      obtain ⟨ts, hts, hTA⟩ := hlk _ l hll
      have hTA : A2 (ClAt Hz) ts (nxOf (psOf p) p.blocks.length z.1) := hTA
      refine ⟨_, rfl, _, rfl, _, rfl, _, _, rfl, rfl, _, rfl, xor_pos hzne, ?_⟩
      refine ⟨pl, _, _, _, rfl, rfl, .inl (.inl (sm _ _ hls)), atI_nat (by rw [List.getElem?_map, hll]; rfl), ?_⟩
      generalize hd0 : (ws.take i).foldl (fun d z => (nxOf (psOf p) p.blocks.length z.1).foldl (put z) d) [] = d0 at hK hLd
      refine ⟨l, rfl, ⟨_, .inl (.inl (sm _ _ hts))⟩, for_list (K := K) (a := l) (xs := ts.map V.ref)
        (fun t σ H' => ∃ v5 v6 kvs', σ = [some (.ref W), some (vn (every p.blocks.length)), some (.ref pl), some (.ref L), some (vn z.1), v5, v6] ∧ Same Hz H' ∧ H' L = some (.dK kvs') ∧ A2 (WyAt H') kvs' (((nxOf (psOf p) p.blocks.length z.1).take t).foldl (put z) d0) ∧ Lv p (j + 1) (((nxOf (psOf p) p.blocks.length z.1).take t).foldl (put z) d0))
        ⟨v5, v6, kvs', rfl, sm, hL, by rw [List.take_zero]; exact hK, by rw [List.take_zero]; exact hLd⟩ (fun t σ H' _ ⟨_, _, _, _, s2, _⟩ => .inl (.inl (s2 _ _ hts))) ?_ ?_⟩
      · rintro t y σ H3 ht ⟨v5, v6, kvs3, rfl, sm3, hL3, hK3, hLd3⟩
        obtain ⟨T, hT, rfl⟩ := get_ref ht
        obtain ⟨c, hc, a, hT1, ha1⟩ := hTA.get hT
        have hcm : c ∈ psOf p := (List.mem_filter.mp (List.mem_of_getElem? hc)).1
        generalize hd3 : ((nxOf (psOf p) p.blocks.length z.1).take t).foldl (put z) d0 = d3 at hK3 hLd3
        have hnext : ((nxOf (psOf p) p.blocks.length z.1).take (t + 1)).foldl (put z) d0 = put z d3 c := by
          rw [take_more hc, List.foldl_append, hd3]; rfl
        have hLd4 : Lv p (j + 1) (put z d3 c) := hLd3.put wf hp hzlt (hLv.dg z hzm) (hLv.len z hzm) (hLv.cls z hzm) hcm
        refine ⟨T, _, rfl, .inl (.inl (sm3 _ _ hT1)), rfl, _, _, rfl, _, _, rfl, rfl, ?_⟩
        -- what stands where nothing is put
        have same : ¬ (z.1 &&& maskOf c = 0 ∧ hasKey d3 (z.1 ||| maskOf c) = false) → ∃ v5 v6 kvs', [some (.ref W), some (vn (every p.blocks.length)), some (.ref pl), some (.ref L), some (vn z.1), some (.ref a), some (vn (maskOf c))] = [some (.ref W), some (vn (every p.blocks.length)), some (.ref pl), some (.ref L), some (vn z.1), v5, v6] ∧ Same Hz H3 ∧ H3 L = some (.dK kvs') ∧ A2 (WyAt H3) kvs' (((nxOf (psOf p) p.blocks.length z.1).take (t + 1)).foldl (put z) d0) ∧ Lv p (j + 1) (((nxOf (psOf p) p.blocks.length z.1).take (t + 1)).foldl (put z) d0) := by
          intro hno
          have e : put z d3 c = d3 := if_neg hno
          refine ⟨_, _, kvs3, rfl, sm3, hL3, ?_, ?_⟩
          · rw [hnext, e]; exact hK3
          · rw [hnext]; exact hLd4
        refine ⟨_, rfl, _, rfl, z.1, maskOf c, rfl, rfl, _, 0, rfl, rfl, _, rfl, ite2 (fun h1 => ?_) (fun h1 => ?_)⟩
        · have h1' : z.1 &&& maskOf c = 0 := of_decide_eq_true h1
          refine ⟨_, rfl, _, rfl, z.1, maskOf c, rfl, rfl, _, rfl, L, _, rfl, DGet.k (k := Sum.inl ((z.1 ||| maskOf c : Nat) : Int)) hL3, _, rfl, ?_⟩
          rw [val_isSome _ hK3]
          refine ite2 (fun h2 => ?_) (fun h2 => ?_)
          · have h2' : hasKey d3 (z.1 ||| maskOf c) = false := by simpa using h2
            have e : put z d3 c = d3 ++ [(z.1 ||| maskOf c, z.2 ++ [c])] := if_pos ⟨h1', h2'⟩
            refine ⟨_, rfl, _, rfl, W, _, rfl, .inl ⟨kvs, Sum.inl (z.1 : Int), .inr ⟨od, sm3 _ _ hzW⟩, rfl, hval.symm⟩, _, rfl, (by show 1 ≤ sizeLine; decide), fun p1 np1 => ?_⟩
            have sp1 : Same H3 (upd H3 p1 (.lst [.ref a])) := same_upd np1
            refine ⟨r, p1, _, _, rfl, rfl, sp1 _ _ (sm3 _ _ hr1), upd_same, ?_, fun p2 np2 => ?_⟩
            · rw [List.length_map, hr2.length, hLv.len z hzm]
              exact Nat.le_of_lt (Nat.lt_of_le_of_lt (show j + 1 ≤ 1001 by omega) (by decide))
            have sp2 := same_upd (o := .lst (as.map V.ref ++ [.ref a])) np2
            have s32 := sp1.trans sp2
            refine ⟨_, rfl, _, rfl, _, rfl, z.1, maskOf c, rfl, rfl, L, _, rfl, DPut.k (k := Sum.inl ((z.1 ||| maskOf c : Nat) : Int)) (s32 _ _ hL3) ?_, ?_⟩
            · rw [hK3.length]
              have := hLd3.few hn
              exact Nat.lt_of_le_of_lt this (by decide)
            · rw [put_new hK3 h2']
              have ltL := lt_dict (x := .dK (kvs3 ++ [(Sum.inl ((z.1 ||| maskOf c : Nat) : Int), V.ref p2)])) (s32 _ _ hL3)
              refine ⟨_, _, _, rfl, same_put (sm3.trans s32) hzL, upd_same, ?_, ?_⟩
              · rw [hnext, e]
                refine A2.snoc ?_ (hK3.mono fun kv y h => (h.lt (lt_same s32)).lt ltL)
                refine ⟨rfl, p2, as ++ [a], rfl, ltL.1 _ _ ?_, ?_⟩
                · rw [upd_same, List.map_append]; rfl
                · refine A2.snoc (R := LsAt _) ?_ (hr2.mono fun b d h => ((h.same sm3).same s32).lt ltL)
                  exact LsAt.lt ltL (s32 _ _ (sm3 _ _ ha1))
              · rw [hnext]; exact hLd4
          · exact same fun z => h2 (by rw [z.2]; rfl)
        · exact iteF (same fun z => h1 (decide_eq_true z.1))
      · rintro σ H3 ⟨v5, v6, kvs3, rfl, sm3, hL3, hK3, hLd3⟩
        rw [List.length_map, hTA.length, List.take_length] at hK3 hLd3
        refine ⟨_, _, _, kvs3, rfl, sm3, hL3, ?_, ?_⟩
        · rw [take_more hzi, List.foldl_append, hd0]; exact hK3
        · rw [take_more hzi, List.foldl_append, hd0]; exact hLd3
    · rintro σ H2 ⟨v4, v5, v6, kvs', rfl, sm, hL, hK, hLd⟩
      rw [hA.length, List.take_length] at hK
      have hW2 := sm _ _ hzW
      refine ⟨hW2, _, rfl, q _ L kvs' ?_ nL ?_ (hK.mono fun kv y h => h.lt (lt_frz hW2))⟩
      · intro b o e
        by_cases c : b = W
        · subst c
          rw [upd_same, ← e, hW]
        · rw [upd_ne c]
          apply sm
          rw [← hz, upd_ne c]
          exact e
      · rw [upd_ne nLW.symm]; exact hL
end
end Eb

set_option Elab.async false
set_option maxRecDepth 100000
set_option maxHeartbeats 2000000
set_option linter.all false
namespace Eb
open PySem PySem.Spec PyProof.Rows L2
open Dg01 (Plan)
theorem lv_more {p : Plan} (W : Wf p) (hp : 1 ≤ p.many) {j : Nat} {ws : List Way} (h : Lv p j ws) : Lv p (j + 1) (oneMore (nxOf (psOf p) p.blocks.length) ws) := by
  have gen : ∀ (l : List Way) (d : List Way), (∀ z ∈ l, z ∈ ws) → Lv p (j + 1) d → Lv p (j + 1) (l.foldl (fun d z => (nxOf (psOf p) p.blocks.length z.1).foldl (put z) d) d) := by
    intro l
    induction l with
    | nil => intro d _ hd; exact hd
    | cons z l ih =>
      intro d hl hd
      rw [List.foldl_cons]
      have hz := hl z (by simp)
      exact ih _ (fun y hy => hl y (by simp [hy])) (Lv.more W hp (h.lt z hz) (h.dg z hz) (h.len z hz) (h.cls z hz) _ hd fun c hc => (List.mem_filter.mp hc).1)
  exact gen ws [] (fun z hz => hz) (Lv.nil p (j + 1))
theorem val_found {H : Hp} (n : Nat) : ∀ {kvs : List (Key × V)} {ws : List Way}, A2 (WyAt H) kvs ws →
    (found n ws = none → valV kvs (Sum.inl (every n : Int)) = none) ∧ ∀ c, found n ws = some c → (∃ z ∈ ws, z.2 = c) ∧ ∃ (r : Addr) (as : List Addr), valV kvs (Sum.inl (every n : Int)) = some (.ref r) ∧ H r = some (.lst (as.map V.ref)) ∧ A2 (LsAt H) as c
  | [], [], _ => ⟨fun _ => rfl, fun c h => by cases h⟩
  | [], _ :: _, h => h.elim
  | _ :: _, [], h => h.elim
  | kv :: kvs, z :: ws, h => by
    obtain ⟨i1, i2⟩ := val_found n h.2
    obtain ⟨hk, r, as, h1, h2, h3⟩ := h.1
    by_cases e : z.1 = every n
    · have ef : found n (z :: ws) = some z.2 := by
        unfold found
        rw [List.find?_cons, show (z.1 == every n) = true by simpa using e]
        rfl
      rw [ef]
      refine ⟨fun x => (by cases x), fun c hc => ?_⟩
      have : z.2 = c := Option.some.inj hc
      subst this
      exact ⟨⟨z, by simp, rfl⟩, r, as, by rw [valV_pos (by rw [hk, key_eq]; exact e), h1], h2, h3⟩
    · have ef : found n (z :: ws) = found n ws := by
        unfold found
        rw [List.find?_cons, show (z.1 == every n) = false by simpa using e]
      rw [ef, valV_neg (by rw [hk, key_eq]; exact e)]
      refine ⟨i1, fun c hc => ?_⟩
      obtain ⟨⟨y, hy, hyc⟩, rest⟩ := i2 c hc
      exact ⟨⟨y, by simp [hy], hyc⟩, rest⟩
theorem rgV_zero (n : Nat) : rgV 0 (n : Int) = (List.range n).map vn := by
  unfold rgV
  rw [show ((n : Int) - 0).toNat = n by omega]
  apply List.map_congr_left
  intro i _
  show V.int _ = V.int _
  congr 1
  omega
section
variable {P : Program} {w : World} {K : PySem.W.Frag} {mg : Str → Option Value} {base : Heap} {C : Addr}
/-! ### first_way -/
abbrev s_first : Stmt := topS 15
theorem sc_first : FnScope ["top", "blocks", "every", "places", "ways"] ["top", "blocks"] (defScope s_first) := ⟨rfl, rfl, rfl, by decide +kernel, rfl, by decide +kernel, by decide +kernel⟩
def spFirst (K : PySem.W.Frag) : Sp := fun vs H Q _ => ∃ (b : Addr) (p : Plan), vs = [vn p.many, .ref b] ∧ SqL K H b ((masks p).map vn) ∧ Ok p ∧ Full p ∧
  ∀ H', Same H H' → (Dg01.classes p p.blocks.length (List.range p.blocks.length) = none → Q .non H') ∧
    ∀ c r as, Dg01.classes p p.blocks.length (List.range p.blocks.length) = some c → H' r = some (.lst (as.map V.ref)) → A2 (LsAt H') as c → c.length ≤ 20 → (∀ e ∈ c, e.length ≤ 20) → Q (.ref r) H'
theorem okf_first {f : Addr} {fd : FuncData} (F : Fun K "first_way" "first_way" s_first f fd) (mr : mg "range" = none) (ml : mg "list" = none) (mlen : mg "len" = none) (cm : Cl P w K mg base 1 "mask_of" ["points"] (spMask K)) (cb : Cl P w K mg base 2 "by_lowest_block" ["count", "classes"] spBylow)
    (cp : Cl P w K mg base 3 "possible_classes" ["top", "blocks"] (spPoss K)) (co : Cl P w K mg base 2 "one_class_more" ["ways", "every", "places"] spMore) : FnOk P w K mg base CX0 4 f fd ["top", "blocks"] (spFirst K) := by
  refine F.ok sc_first (fun vs H Q E h => ?_) (fun cdv A outer s H vs Q E hr h => ?_)
  · obtain ⟨b, p, rfl, _⟩ := h
    rfl
  · obtain ⟨b, p, rfl, hb, hO, hF, q⟩ := h
    have hn := hO.few
    have hlo := hO.lo
    have hhi := hO.hi
    have W := hO.wf
    refine ⟨_, pss_cons (ps_set (i := 2) sc_first.nd rfl (.inl rfl) (pe_cl cm hr (by decide) (by rfl) (pa_cons (pe_listRg rfl rfl ml (prg_1 rfl mr (pe_callB call_len_seq (by rfl) mlen PySem.boot_len (pa_cons (pv 1) pa_nil)))) pa_nil)))
      (pss_cons (ps_set (i := 3) sc_first.nd rfl (.inl rfl) (pe_cl cb hr (by decide) (by rfl) (pa_cons (pe_callB call_len_seq (by rfl) mlen PySem.boot_len (pa_cons (pv 1) pa_nil)) (pa_cons (pe_cl cp hr (by decide) (by rfl) (pa_cons (pv 0) (pa_cons (pv 1) pa_nil))) pa_nil))))
      (pss_cons (ps_set (i := 4) sc_first.nd rfl (.inl rfl) (pe_disp (pps_cons pe_int (pe_lst pa_nil) pps_nil) (by rfl) (by rfl) (fun z => by cases z) (by decide)))
      (pss_cons (ps_while PassesOwn.never (pw_and (pt_cmpR op_gtN (pe_callB call_lenD (by rfl) mlen PySem.boot_len (pa_cons (pv 4) pa_nil)) pe_int (nomark _)) (pw_and1 (pt_cmp (pc_dnotin (hu_of hr) (pv 2) (pv 4))))).pt
        (pss_one (ps_set (i := 4) sc_first.nd rfl (.inl rfl) (pe_cl co hr (by decide) (by rfl) (pa_cons (pv 4) (pa_cons (pv 2) (pa_cons (pv 3) pa_nil)))))))
      (pss_one (ps_ret (pe_dget1 (hu_of hr) (pv 4) (pv 2) ⟨rfl, rfl, rfl, rfl⟩)))))), ?_⟩
    refine ⟨_, rfl, b, _, rfl, .inl hb, _, rfl, ?_⟩
    rw [List.length_map, masks_length]
    refine ⟨RgOk.of_le (by omega) (by omega) (by omega) (by omega), fun r1 nr1 => ?_⟩
    rw [rgV_zero]
    have s1 : Same H (upd H r1 (.lst ((List.range p.blocks.length).map vn))) := same_upd nr1
    refine ⟨r1, List.range p.blocks.length, rfl, .inl (.inl upd_same), fun x hx => by have := List.mem_range.mp hx; omega, ?_⟩
    refine ⟨_, rfl, b, _, rfl, .inl (s1.seq hb), _, rfl, _, rfl, b, p.many, masks p, rfl, s1.seq hb, by rw [masks_length]; exact hn, fun m hm => ?_, by omega, fun H2 pc as s2 npc hpc hAs => ?_⟩
    · unfold masks at hm
      obtain ⟨bb, hbb, rfl⟩ := List.mem_map.mp hm
      obtain ⟨i, hi, e⟩ := List.getElem_of_mem hbb
      rcases Nat.eq_zero_or_pos (maskOf bb) with z | z
      · exfalso
        have := hF i hi
        apply this
        unfold Bk
        rw [List.getD_eq_getElem?_getD, List.getElem?_eq_getElem hi, e]
        exact mask_pos.mp z
      · exact z
    have hAs : A2 (LsAt H2) as (psOf p) := hAs
    refine ⟨pc, as, p.blocks.length, psOf p, by rw [List.length_map, masks_length]; rfl, hpc, hAs, ?_, fun c hc => ?_, by omega, fun H3 pl s3 npl hpl => ?_⟩
    · show ((coversTo (p.blocks.map maskOf) p.many).map (·.1)).length ≤ 1048576
      rw [List.length_map]
      exact covers_few (by rw [List.length_map]; exact hn) _
    · have hc' : c ∈ cov p p.many (Dg01.points p) := by
        rw [← possible_cov W]; exact hc
      refine ⟨?_, fun i hi => (cov_mem p _ _ c hc' i hi).1⟩
      obtain ⟨i, _, hic, _⟩ := cov_one hlo hc'
      intro z
      rw [z] at hic
      cases hic
    have sH3 := s1.trans (s2.trans s3)
    intro W0 nW0
    refine ⟨Nat.zero_le _, fun l0 nl0 => ?_⟩
    have sW0 : Same H3 (upd H3 W0 (.dK [])) := same_upd nW0
    have sl0 := same_upd (o := .lst []) nl0
    have hW0 := sl0 _ _ (upd_same (H := H3) (a := W0) (o := .dK []))
    refine ⟨hW0, [(Sum.inl ((0 : Nat) : Int), .ref l0)], rfl, (by show 1 ≤ 15; decide), ?_⟩
    have hmerge : mergeK [] [((Sum.inl ((0 : Nat) : Int), V.ref l0) : Key × V)] = [(Sum.inl ((0 : Nat) : Int), .ref l0)] := rfl
    rw [hmerge]
    have sW1 := same_put (o := .dK [(Sum.inl ((0 : Nat) : Int), V.ref l0)]) (sW0.trans sl0) nW0
    have nl0W : l0 ≠ W0 := (ne_of_none (upd_same (H := H3) (a := W0) (o := .dK [])) nl0).symm
    refine ⟨fun m σ H' => ∃ (Wd : Addr) (kvs : List (Key × V)) (ws : List Way) (j : Nat), σ = [some (vn p.many), some (.ref b), some (vn (every p.blocks.length)), some (.ref pl), some (.ref Wd)] ∧ m = 21 - j ∧ Same H H' ∧ PlcAt H' pl p.blocks.length (psOf p) ∧ H' Wd = some (.dK kvs) ∧ A2 (WyAt H') kvs ws ∧ Lv p j ws ∧ S p ws = Dg01.classes p p.blocks.length (List.range p.blocks.length),
      ⟨21, W0, _, [(0, [])], 0, rfl, rfl, sH3.trans sW1, hpl.same sW1, upd_same, ⟨⟨rfl, l0, [], rfl, ?_, trivial⟩, trivial⟩, Lv.start p, S_start p⟩, ?_⟩
    · rw [upd_ne nl0W, upd_same]; rfl
    rintro m σ H4 ⟨Wd, kvs, ws, j, rfl, hm, s4, hP4, hWd, hA4, hLv, hS⟩
    -- at the end
    have fin : (ws = [] ∨ hasKey ws (every p.blocks.length) = true) → tRet (tDGet1 (tVar 4) (tVar 2)) { nx := fun _ H' => Q .non H', rt := Q } [some (vn p.many), some (.ref b), some (vn (every p.blocks.length)), some (.ref pl), some (.ref Wd)] H4 := by
      intro hend
      have hf := S_found W hF hlo hLv hend
      rw [hS] at hf
      obtain ⟨f1, f2⟩ := val_found (n := p.blocks.length) hA4
      refine ⟨_, rfl, Wd, rfl, .inl ⟨kvs, .inl hWd⟩, _, rfl, _, DGet.k (k := Sum.inl (every p.blocks.length : Int)) hWd, ?_⟩
      obtain ⟨q1, q2⟩ := q H4 s4
      cases hc : found p.blocks.length ws with
      | none =>
        rw [f1 hc]
        exact q1 (hf.trans hc)
      | some c =>
        obtain ⟨⟨z, hz, hzc⟩, r, as', hv, hr', hAs'⟩ := f2 c hc
        rw [hv]
        have hjd : j ≤ 20 := by
          have := hLv.dg z hz
          have := deg_few p z.1
          omega
        refine q2 c r as' (hf.trans hc) hr' hAs' ?_ fun e he => ?_
        · rw [← hzc, hLv.len z hz]; exact hjd
        · rw [← hzc] at he
          have := hLv.cls z hz e he
          obtain ⟨cv, hcv, rfl⟩ := List.mem_map.mp this
          have := (covers_nums _ _ cv hcv).1
          omega
    refine ⟨_, rfl, Wd, kvs, rfl, hWd, kvs.length, 0, rfl, rfl, _, rfl, ite2 (fun c1 => ?_) (fun c1 => ?_)⟩
    · have hpos : 0 < ws.length := by
        have := of_decide_eq_true c1
        rwa [hA4.length] at this
      refine ⟨_, rfl, _, rfl, Wd, _, rfl, DGet.k (k := Sum.inl (every p.blocks.length : Int)) hWd, _, rfl, ?_⟩
      rw [val_isSome _ hA4]
      refine ite2 (fun c2 => ?_) (fun c2 => ?_)
      · have hk : hasKey ws (every p.blocks.length) = false := by simpa using c2
        have hne : ∀ z ∈ ws, z.1 ≠ every p.blocks.length := by
          intro z hz e
          have : hasKey ws (every p.blocks.length) = true := by
            rw [hasKey_iff, ← e]
            exact List.mem_map.mpr ⟨z, hz, rfl⟩
          rw [hk] at this
          cases this
        have hjd : j ≤ 20 := by
          cases ws with
          | nil => simp at hpos
          | cons z ws =>
            have := hLv.dg z (by simp)
            have := deg_few p z.1
            omega
        refine ⟨fun σ' H' => ∃ (Wd : Addr) (kvs : List (Key × V)) (ws : List Way), σ' = [some (vn p.many), some (.ref b), some (vn (every p.blocks.length)), some (.ref pl), some (.ref Wd)] ∧ Same H H' ∧ PlcAt H' pl p.blocks.length (psOf p) ∧ H' Wd = some (.dK kvs) ∧ A2 (WyAt H') kvs ws ∧ Lv p (j + 1) ws ∧ S p ws = Dg01.classes p p.blocks.length (List.range p.blocks.length),
          fun σ' H' ⟨Wd', kvs', ws', h1, h2, h3, h4, h5, h6, h7⟩ => ⟨21 - (j + 1), by omega, Wd', kvs', ws', j + 1, h1, rfl, h2, h3, h4, h5, h6, h7⟩, ?_⟩
        refine ⟨_, rfl, _, rfl, _, rfl, Wd, pl, kvs, ws, p, j, rfl, hWd, hA4, hP4, W, hlo, hn, hLv, hne, by omega, fun H5 L kvs' s5 nL hL hA5 => ?_⟩
        refine ⟨L, kvs', _, rfl, s4.trans s5, hP4.same s5, hL, hA5, lv_more W hlo hLv, ?_⟩
        rw [S_more W hF fun z hz => ⟨hLv.lt z hz, hne z hz⟩]
        exact hS
      · exact fin (.inr (by simpa using c2))
    · refine iteF (fin (.inl ?_))
      have : ¬ 0 < kvs.length := fun z => c1 (decide_eq_true z)
      rw [hA4.length] at this
      exact List.length_eq_zero_iff.mp (by omega)
end
end Eb

set_option Elab.async false
set_option maxRecDepth 100000
set_option maxHeartbeats 2000000
set_option linter.all false
namespace Eb
open PySem PySem.Spec PyProof.Rows L2
open Dg01 (Plan)
theorem in_zero (l : List Nat) : inV (.int 0) (l.map vn) = l.any fun m => m == 0 := by
  unfold inV
  rw [List.any_map]
  congr 1
  funext m
  show eqV (vn m) (vn 0) = _
  rw [eqV_nat]
  cases m <;> rfl
theorem flat_vn (l : List Nat) : (l.map vn).all flatV = true := by
  rw [List.all_eq_true]
  intro x hx
  obtain ⟨n, _, rfl⟩ := List.mem_map.mp hx
  rfl
theorem empty_any (p : Plan) : ((masks p).any fun m => m == 0) = p.blocks.any fun b => b.isEmpty := by
  unfold masks
  rw [List.any_map]
  congr 1
  funext b
  show (maskOf b == 0) = b.isEmpty
  rw [Bool.eq_iff_iff, beq_iff_eq, mask_pos, List.isEmpty_iff]
theorem full_of {p : Plan} (h : (p.blocks.any fun b => b.isEmpty) = false) : Full p := by
  intro i hi e
  rw [List.any_eq_false] at h
  have := h (Bk p i) (getD_mem hi)
  rw [e] at this
  exact this rfl
theorem told_flat_len {c : List (List Nat)} (h1 : c.length ≤ 20) (h2 : ∀ e ∈ c, e.length ≤ 20) (i : Nat) : ((c.take i).flatMap fun e => e.length :: e).length ≤ 420 := by
  have : ∀ (l : List (List Nat)), (∀ m ∈ l, m.length ≤ 20) → (l.flatMap fun m => m.length :: m).length ≤ l.length * 21 := by
    intro l
    induction l with
    | nil => intro _; simp
    | cons a l ih =>
      intro h
      have := ih fun m hm => h m (by simp [hm])
      have := h a (by simp)
      rw [List.flatMap_cons, List.length_append, List.length_cons (as := a), List.length_cons (as := l), Nat.add_mul]
      omega
  have h := this (c.take i) fun m hm => h2 m (List.mem_of_mem_take hm)
  have h3 : (c.take i).length * 21 ≤ 20 * 21 := Nat.mul_le_mul_right _ (by rw [List.length_take]; omega)
  omega
section
variable {P : Program} {w : World} {K : PySem.W.Frag} {mg : Str → Option Value} {base : Heap} {C : Addr}
abbrev s_classes : Stmt := topS 62
theorem sc_classes : FnScope ["plan", "numbers", "way", "answer", "members"] ["plan", "numbers"] (defScope s_classes) := ⟨rfl, rfl, rfl, by decide +kernel, rfl, by decide +kernel, by decide +kernel⟩
theorem okf_classes {f : Addr} {fd : FuncData} (F : Fun K "classes_call" "classes_call" s_classes f fd) (T : Tx K mg C) (gb : G mg "NO_POINTS_IN_BLOCK" (.int (-6))) (gw : G mg "NO_WAY" (.int (-3))) (cf : Cl P w K mg base 4 "first_way" ["top", "blocks"] (spFirst K)) : FnOk P w K mg base CX0 5 f fd ["plan", "numbers"] (spC K C 14) := by
  refine F.ok sc_classes (fun vs H Q E h => ?_) (fun cdv A outer s H vs Q E hr h => ?_)
  · obtain ⟨pl, bl, a, p, l, rfl, _⟩ := h
    rfl
  · obtain ⟨pl, bl, a, p, l, rfl, hP, hO, hA, hk, q⟩ := h
    obtain rfl := no_num (by simp) hk
    obtain ⟨dx, hpl⟩ := hP.ins
    have hbl := hP.lst
    refine ⟨_, pss_cons (ps_if (pt_cmpR op_in_seq pe_int (pe_fld (pv 0) rfl) rfl) (pss_one (ps_ret (pe_lst (pa_cons (pe_g gb) pa_nil)))) pss_nil)
      (pss_cons (ps_set (i := 2) sc_classes.nd rfl (.inl rfl) (pe_cl cf hr (by decide) (by rfl) (pa_cons (pe_fld (pv 0) rfl) (pa_cons (pe_fld (pv 0) rfl) pa_nil))))
      (pss_cons (ps_if (pt_cmpR op_isN (pv 2) pe_non (nomark _)) (pss_one (ps_ret (pe_lst (pa_cons (pe_g gw) pa_nil)))) pss_nil)
      (pss_cons (ps_set (i := 3) sc_classes.nd rfl (.inl rfl) (pe_lst (pa_cons (pe_callB call_len_seq (by rfl) T.len PySem.boot_len (pa_cons (pv 2) pa_nil)) pa_nil)))
      (pss_cons (ps_for PassesOwn.never rfl (pi_list (pv 2)) (pg_name (i := 4) sc_classes.nd rfl (.inl rfl))
        (pss_cons (ps_expr (pe_bm PySem.F.plainAttrs_list PySem.F.slot_list_append PySem.F.type_list_append mt_append (pv 3) (pa_cons (pe_callB call_len_seq (by rfl) T.len PySem.boot_len (pa_cons (pv 4) pa_nil)) pa_nil)))
        (pss_one (ps_expr (pe_bm PySem.F.plainAttrs_list PySem.F.slot_list_extend PySem.F.type_list_extend mt_extend (pv 3) (pa_cons (pv 4) pa_nil))))))
      (pss_one (ps_ret (pv 3))))))), ?_⟩
    have st : stepN 14 [] p = (p, if p.blocks.any (fun b => b.isEmpty) = true then [-6] else match Dg01.classes p p.blocks.length (List.range p.blocks.length) with
      | none => [-3]
      | some c => (c.length : Int) :: c.flatMap Dg01.told) := rfl
    refine ⟨_, rfl, pl, C, dx, _, _, rfl, hpl, T.cl, T.nB, pF_blocks p bl, bl, _, rfl, .inl (.inl (.inl hbl)), rfl, flat_vn _, _, rfl, ?_⟩
    show if inV (.int 0) ((masks p).map vn) = true then _ else _
    rw [in_zero, empty_any]
    refine ite2 (fun c => ?_) (fun c => ?_)
    · rw [if_pos c] at st
      exact Goes.one q hP st (Same.refl H)
    · rw [if_neg c] at st
      have hF : Full p := full_of (Bool.eq_false_iff.mpr c)
      refine ⟨_, rfl, pl, C, dx, _, _, rfl, hpl, T.cl, T.nT, pF_top p bl, _, rfl, pl, C, dx, _, _, rfl, hpl, T.cl, T.nB, pF_blocks p bl, bl, p, rfl, .inl (.inl hbl), hO, hF, fun H1 s1 => ⟨fun hn => ?_, fun cs r as hs hr1 hAs hl1 hl2 => ?_⟩⟩
      · rw [hn] at st
        refine ⟨_, rfl, rfl, _, rfl, iteT ?_⟩
        exact Goes.one q hP st s1
      · rw [hs] at st
        refine ⟨_, rfl, rfl, _, rfl, iteF ?_⟩
        have hlen : (as.map V.ref).length = cs.length := by rw [List.length_map, hAs.length]
        refine ⟨_, rfl, r, _, rfl, .inl (.inl (.inl hr1)), (by show 1 ≤ sizeLine; decide), fun o no => ?_⟩
        rw [hlen]
        have s2 : Same H1 (upd H1 o (.lst [.int (cs.length : Nat)])) := same_upd no
        refine ⟨_, rfl, r, rfl, ⟨_, .inl (.inl (s2 _ _ hr1))⟩, for_list (K := K) (a := r) (xs := as.map V.ref)
          (fun i σ H' => ∃ v4, σ = [some (.ref pl), some (.ref a), some (.ref r), some (.ref o), v4] ∧ Same H1 H' ∧ H' o = some (.lst ((cs.length :: (cs.take i).flatMap fun e => e.length :: e).map vn)))
          ⟨none, rfl, s2, by rw [upd_same, List.take_zero]; rfl⟩ (fun i σ H' _ ⟨_, _, s3, _⟩ => .inl (.inl (s3 _ _ hr1))) ?_ ?_⟩
        · rintro i y σ H2 hi ⟨v4, rfl, sm, ho⟩
          obtain ⟨b, hb, rfl⟩ := get_ref hi
          obtain ⟨e, he, hbe⟩ := hAs.get hb
          have hbe : H1 b = some (.lst (e.map vn)) := hbe
          have hlen2 := told_flat_len hl1 hl2 (i + 1)
          rw [take_more he, List.flatMap_append, List.flatMap_cons, List.flatMap_nil, List.append_nil, List.length_append, List.length_cons] at hlen2
          refine ⟨_, rfl, .inl ⟨rfl, _, .inl (.inl ho)⟩, _, rfl, b, _, rfl, .inl (.inl (.inl (sm _ _ hbe))), o, _, _, rfl, rfl, ho, ?_, ?_⟩
          · rw [List.length_map, List.length_cons]
            exact small1000 (by omega)
          have hnb : b ≠ o := ne_of_none hbe no
          have hbo : (upd H2 o (.lst ((cs.length :: (cs.take i).flatMap fun e => e.length :: e).map vn ++ [.int ((e.map vn).length : Nat)]))) b = some (.lst (e.map vn)) := by
            rw [upd_ne hnb]; exact sm _ _ hbe
          refine ⟨_, rfl, .inl ⟨rfl, _, .inl (.inl upd_same)⟩, _, rfl, o, b, _, _, rfl, rfl, upd_same, hbo, ?_, _, rfl, same_put (same_put sm no) no, ?_⟩
          · simp only [List.length_map, List.length_append, List.length_cons, List.length_nil]
            exact Nat.le_of_lt (small1000 (by omega))
          · rw [upd_same, take_more he, List.flatMap_append, List.flatMap_cons, List.flatMap_nil, List.append_nil, List.length_map]
            simp
        · rintro σ H2 ⟨v4, rfl, sm, ho⟩
          rw [hlen, List.take_length] at ho
          refine ⟨_, rfl, Goes.pure q hP st (s1.trans sm) (s1.free no) ?_⟩
          rw [ho]
          congr 2
          rw [List.map_cons, List.map_cons]
          congr 1
          rw [List.map_flatMap, List.map_flatMap]
          apply flatMap_congr_mem
          intro e _
          unfold Dg01.told
          rw [ints_vn]
end
end Eb

set_option Elab.async false
set_option maxRecDepth 100000
set_option maxHeartbeats 4000000
set_option linter.all false
namespace Eb
open PySem PySem.Spec PyProof.Rows L2
theorem up_level {P : Program} {w : World} {K : PySem.W.Frag} {mg : Str → Option Value} {base : Heap} {k j : Nat} {f : Addr} {fd : FuncData} {ps : List Str} {sp : Sp} (h : FnOk P w K mg base CX0 k f fd ps sp) (hk : k ≤ j) : FnOk P w K mg base CX0 j f fd ps sp := h.mono hk

theorem all_mk {P : Program} {w : World} {K : PySem.W.Frag} {h : Heap} {mg : Str → Option Value} {fa : Addr} (X : K.In h) (G0 : h.Ns mainGlobals mg) (hfa : mg "answers" = some (.ref fa))
    {C fI : Addr}
    {f0 : Addr} {od0 an0 : Option Addr} {sl0 : Array (Option Value)} {oc0 kV0 dc0 pm0 cd0 ct0 : Value}
    {f1 : Addr} {od1 an1 : Option Addr} {sl1 : Array (Option Value)} {oc1 kV1 dc1 pm1 cd1 ct1 : Value}
    {f2 : Addr} {od2 an2 : Option Addr} {sl2 : Array (Option Value)} {oc2 kV2 dc2 pm2 cd2 ct2 : Value}
    {f3 : Addr} {od3 an3 : Option Addr} {sl3 : Array (Option Value)} {oc3 kV3 dc3 pm3 cd3 ct3 : Value}
    {f4 : Addr} {od4 an4 : Option Addr} {sl4 : Array (Option Value)} {oc4 kV4 dc4 pm4 cd4 ct4 : Value}
    {f5 : Addr} {od5 an5 : Option Addr} {sl5 : Array (Option Value)} {oc5 kV5 dc5 pm5 cd5 ct5 : Value}
    {f6 : Addr} {od6 an6 : Option Addr} {sl6 : Array (Option Value)} {oc6 kV6 dc6 pm6 cd6 ct6 : Value}
    {f7 : Addr} {od7 an7 : Option Addr} {sl7 : Array (Option Value)} {oc7 kV7 dc7 pm7 cd7 ct7 : Value}
    {f8 : Addr} {od8 an8 : Option Addr} {sl8 : Array (Option Value)} {oc8 kV8 dc8 pm8 cd8 ct8 : Value}
    {f9 : Addr} {od9 an9 : Option Addr} {sl9 : Array (Option Value)} {oc9 kV9 dc9 pm9 cd9 ct9 : Value}
    {f10 : Addr} {od10 an10 : Option Addr} {sl10 : Array (Option Value)} {oc10 kV10 dc10 pm10 cd10 ct10 : Value}
    {f11 : Addr} {od11 an11 : Option Addr} {sl11 : Array (Option Value)} {oc11 kV11 dc11 pm11 cd11 ct11 : Value}
    {f12 : Addr} {od12 an12 : Option Addr} {sl12 : Array (Option Value)} {oc12 kV12 dc12 pm12 cd12 ct12 : Value}
    {f13 : Addr} {od13 an13 : Option Addr} {sl13 : Array (Option Value)} {oc13 kV13 dc13 pm13 cd13 ct13 : Value}
    {f14 : Addr} {od14 an14 : Option Addr} {sl14 : Array (Option Value)} {oc14 kV14 dc14 pm14 cd14 ct14 : Value}
    {f15 : Addr} {od15 an15 : Option Addr} {sl15 : Array (Option Value)} {oc15 kV15 dc15 pm15 cd15 ct15 : Value}
    {f16 : Addr} {od16 an16 : Option Addr} {sl16 : Array (Option Value)} {oc16 kV16 dc16 pm16 cd16 ct16 : Value}
    {f17 : Addr} {od17 an17 : Option Addr} {sl17 : Array (Option Value)} {oc17 kV17 dc17 pm17 cd17 ct17 : Value}
    {f18 : Addr} {od18 an18 : Option Addr} {sl18 : Array (Option Value)} {oc18 kV18 dc18 pm18 cd18 ct18 : Value}
    {f19 : Addr} {od19 an19 : Option Addr} {sl19 : Array (Option Value)} {oc19 kV19 dc19 pm19 cd19 ct19 : Value}
    {f20 : Addr} {od20 an20 : Option Addr} {sl20 : Array (Option Value)} {oc20 kV20 dc20 pm20 cd20 ct20 : Value}
    {f21 : Addr} {od21 an21 : Option Addr} {sl21 : Array (Option Value)} {oc21 kV21 dc21 pm21 cd21 ct21 : Value}
    {f22 : Addr} {od22 an22 : Option Addr} {sl22 : Array (Option Value)} {oc22 kV22 dc22 pm22 cd22 ct22 : Value}
    {f23 : Addr} {od23 an23 : Option Addr} {sl23 : Array (Option Value)} {oc23 kV23 dc23 pm23 cd23 ct23 : Value}
    {f24 : Addr} {od24 an24 : Option Addr} {sl24 : Array (Option Value)} {oc24 kV24 dc24 pm24 cd24 ct24 : Value}
    {f25 : Addr} {od25 an25 : Option Addr} {sl25 : Array (Option Value)} {oc25 kV25 dc25 pm25 cd25 ct25 : Value}
    {f26 : Addr} {od26 an26 : Option Addr} {sl26 : Array (Option Value)} {oc26 kV26 dc26 pm26 cd26 ct26 : Value}
    {f27 : Addr} {od27 an27 : Option Addr} {sl27 : Array (Option Value)} {oc27 kV27 dc27 pm27 cd27 ct27 : Value}
    {f28 : Addr} {od28 an28 : Option Addr} {sl28 : Array (Option Value)} {oc28 kV28 dc28 pm28 cd28 ct28 : Value}
    {f29 : Addr} {od29 an29 : Option Addr} {sl29 : Array (Option Value)} {oc29 kV29 dc29 pm29 cd29 ct29 : Value}
    {f30 : Addr} {od30 an30 : Option Addr} {sl30 : Array (Option Value)} {oc30 kV30 dc30 pm30 cd30 ct30 : Value}
    {f31 : Addr} {od31 an31 : Option Addr} {sl31 : Array (Option Value)} {oc31 kV31 dc31 pm31 cd31 ct31 : Value}
    {f32 : Addr} {od32 an32 : Option Addr} {sl32 : Array (Option Value)} {oc32 kV32 dc32 pm32 cd32 ct32 : Value}
    {f33 : Addr} {od33 an33 : Option Addr} {sl33 : Array (Option Value)} {oc33 kV33 dc33 pm33 cd33 ct33 : Value}
    {f34 : Addr} {od34 an34 : Option Addr} {sl34 : Array (Option Value)} {oc34 kV34 dc34 pm34 cd34 ct34 : Value}
    {f35 : Addr} {od35 an35 : Option Addr} {sl35 : Array (Option Value)} {oc35 kV35 dc35 pm35 cd35 ct35 : Value}
    {f36 : Addr} {od36 an36 : Option Addr} {sl36 : Array (Option Value)} {oc36 kV36 dc36 pm36 cd36 ct36 : Value}
    {f37 : Addr} {od37 an37 : Option Addr} {sl37 : Array (Option Value)} {oc37 kV37 dc37 pm37 cd37 ct37 : Value}
    {f38 : Addr} {od38 an38 : Option Addr} {sl38 : Array (Option Value)} {oc38 kV38 dc38 pm38 cd38 ct38 : Value}
    {f39 : Addr} {od39 an39 : Option Addr} {sl39 : Array (Option Value)} {oc39 kV39 dc39 pm39 cd39 ct39 : Value}
    {f40 : Addr} {od40 an40 : Option Addr} {sl40 : Array (Option Value)} {oc40 kV40 dc40 pm40 cd40 ct40 : Value}
    {f41 : Addr} {od41 an41 : Option Addr} {sl41 : Array (Option Value)} {oc41 kV41 dc41 pm41 cd41 ct41 : Value}
    {f42 : Addr} {od42 an42 : Option Addr} {sl42 : Array (Option Value)} {oc42 kV42 dc42 pm42 cd42 ct42 : Value}
    {f43 : Addr} {od43 an43 : Option Addr} {sl43 : Array (Option Value)} {oc43 kV43 dc43 pm43 cd43 ct43 : Value}
    {f44 : Addr} {od44 an44 : Option Addr} {sl44 : Array (Option Value)} {oc44 kV44 dc44 pm44 cd44 ct44 : Value}
    {f45 : Addr} {od45 an45 : Option Addr} {sl45 : Array (Option Value)} {oc45 kV45 dc45 pm45 cd45 ct45 : Value}
    {f46 : Addr} {od46 an46 : Option Addr} {sl46 : Array (Option Value)} {oc46 kV46 dc46 pm46 cd46 ct46 : Value}
    {f47 : Addr} {od47 an47 : Option Addr} {sl47 : Array (Option Value)} {oc47 kV47 dc47 pm47 cd47 ct47 : Value}
    {f48 : Addr} {od48 an48 : Option Addr} {sl48 : Array (Option Value)} {oc48 kV48 dc48 pm48 cd48 ct48 : Value}
    {odI anI : Option Addr} {slI : Array (Option Value)} {ocI kVI dcI pmI cdI ctI : Value}
    {t_MOST_POINTS : Tok}
    {t_MOST_BLOCKS : Tok}
    {t_MOST_EVEN : Tok}
    {t_WRONG_POINTS : Tok}
    {t_NO_BLOCK : Tok}
    {t_NO_WAY : Tok}
    {t_TOO_MANY : Tok}
    {t_NO_POINT_LEFT : Tok}
    {t_NOT_ALIKE : Tok}
    {t_NO_POINTS_IN_BLOCK : Tok}
    {a_ROW_CALLS : Addr} {d_ROW_CALLS : Option Addr} {n_ROW_CALLS : Nat} {s_ROW_CALLS : Array (Option Value)} {t_ROW_CALLS_0 : Tok} {t_ROW_CALLS_1 : Tok}
    {a_NUMBER_CALLS : Addr} {d_NUMBER_CALLS : Option Addr} {n_NUMBER_CALLS : Nat} {s_NUMBER_CALLS : Array (Option Value)} {t_NUMBER_CALLS_0 : Tok} {t_NUMBER_CALLS_1 : Tok} {t_NUMBER_CALLS_2 : Tok} {t_NUMBER_CALLS_3 : Tok} {t_NUMBER_CALLS_4 : Tok} {t_NUMBER_CALLS_5 : Tok} {t_NUMBER_CALLS_6 : Tok}
    {aT : Addr} {dT : Option Addr} {nT : Nat} {sT : Array (Option Value)}
    (a0 : PySem.W.nsIn K mainGlobals "rise_within" = some (some (.ref f0)))
    (l0 : K.lookup f0 = some ⟨oc0, od0, .func (PySem.W.fnOf "rise_within" "rise_within" (defArgs s_rise) (defBody s_rise) (defScope s_rise) .none kV0 dc0 pm0 an0 cd0 ct0), sl0⟩)
    (c0 : PySem.W.codeIn K cd0 "rise_within" = true)
    (k0 : PySem.W.keepIn K (.ref f0) = true)
    (a1 : PySem.W.nsIn K mainGlobals "mask_of" = some (some (.ref f1)))
    (l1 : K.lookup f1 = some ⟨oc1, od1, .func (PySem.W.fnOf "mask_of" "mask_of" (defArgs s_mask) (defBody s_mask) (defScope s_mask) .none kV1 dc1 pm1 an1 cd1 ct1), sl1⟩)
    (c1 : PySem.W.codeIn K cd1 "mask_of" = true)
    (k1 : PySem.W.keepIn K (.ref f1) = true)
    (a2 : PySem.W.nsIn K mainGlobals "mask_up_to" = some (some (.ref f2)))
    (l2 : K.lookup f2 = some ⟨oc2, od2, .func (PySem.W.fnOf "mask_up_to" "mask_up_to" (defArgs s_upto) (defBody s_upto) (defScope s_upto) .none kV2 dc2 pm2 an2 cd2 ct2), sl2⟩)
    (c2 : PySem.W.codeIn K cd2 "mask_up_to" = true)
    (k2 : PySem.W.keepIn K (.ref f2) = true)
    (a3 : PySem.W.nsIn K mainGlobals "has" = some (some (.ref f3)))
    (l3 : K.lookup f3 = some ⟨oc3, od3, .func (PySem.W.fnOf "has" "has" (defArgs s_has) (defBody s_has) (defScope s_has) .none kV3 dc3 pm3 an3 cd3 ct3), sl3⟩)
    (c3 : PySem.W.codeIn K cd3 "has" = true)
    (k3 : PySem.W.keepIn K (.ref f3) = true)
    (a4 : PySem.W.nsIn K mainGlobals "lowest_of" = some (some (.ref f4)))
    (l4 : K.lookup f4 = some ⟨oc4, od4, .func (PySem.W.fnOf "lowest_of" "lowest_of" (defArgs s_low) (defBody s_low) (defScope s_low) .none kV4 dc4 pm4 an4 cd4 ct4), sl4⟩)
    (c4 : PySem.W.codeIn K cd4 "lowest_of" = true)
    (k4 : PySem.W.keepIn K (.ref f4) = true)
    (a5 : PySem.W.nsIn K mainGlobals "points_of" = some (some (.ref f5)))
    (l5 : K.lookup f5 = some ⟨oc5, od5, .func (PySem.W.fnOf "points_of" "points_of" (defArgs s_ptsof) (defBody s_ptsof) (defScope s_ptsof) .none kV5 dc5 pm5 an5 cd5 ct5), sl5⟩)
    (c5 : PySem.W.codeIn K cd5 "points_of" = true)
    (k5 : PySem.W.keepIn K (.ref f5) = true)
    (a6 : PySem.W.nsIn K mainGlobals "size_of" = some (some (.ref f6)))
    (l6 : K.lookup f6 = some ⟨oc6, od6, .func (PySem.W.fnOf "size_of" "size_of" (defArgs s_size) (defBody s_size) (defScope s_size) .none kV6 dc6 pm6 an6 cd6 ct6), sl6⟩)
    (c6 : PySem.W.codeIn K cd6 "size_of" = true)
    (k6 : PySem.W.keepIn K (.ref f6) = true)
    (a7 : PySem.W.nsIn K mainGlobals "count_together" = some (some (.ref f7)))
    (l7 : K.lookup f7 = some ⟨oc7, od7, .func (PySem.W.fnOf "count_together" "count_together" (defArgs s_count) (defBody s_count) (defScope s_count) .none kV7 dc7 pm7 an7 cd7 ct7), sl7⟩)
    (c7 : PySem.W.codeIn K cd7 "count_together" = true)
    (k7 : PySem.W.keepIn K (.ref f7) = true)
    (a8 : PySem.W.nsIn K mainGlobals "common_sizes" = some (some (.ref f8)))
    (l8 : K.lookup f8 = some ⟨oc8, od8, .func (PySem.W.fnOf "common_sizes" "common_sizes" (defArgs s_common) (defBody s_common) (defScope s_common) .none kV8 dc8 pm8 an8 cd8 ct8), sl8⟩)
    (c8 : PySem.W.codeIn K cd8 "common_sizes" = true)
    (k8 : PySem.W.keepIn K (.ref f8) = true)
    (a9 : PySem.W.nsIn K mainGlobals "with_point" = some (some (.ref f9)))
    (l9 : K.lookup f9 = some ⟨oc9, od9, .func (PySem.W.fnOf "with_point" "with_point" (defArgs s_with) (defBody s_with) (defScope s_with) .none kV9 dc9 pm9 an9 cd9 ct9), sl9⟩)
    (c9 : PySem.W.codeIn K cd9 "with_point" = true)
    (k9 : PySem.W.keepIn K (.ref f9) = true)
    (a10 : PySem.W.nsIn K mainGlobals "possible_classes" = some (some (.ref f10)))
    (l10 : K.lookup f10 = some ⟨oc10, od10, .func (PySem.W.fnOf "possible_classes" "possible_classes" (defArgs s_poss) (defBody s_poss) (defScope s_poss) .none kV10 dc10 pm10 an10 cd10 ct10), sl10⟩)
    (c10 : PySem.W.codeIn K cd10 "possible_classes" = true)
    (k10 : PySem.W.keepIn K (.ref f10) = true)
    (a11 : PySem.W.nsIn K mainGlobals "by_lowest_block" = some (some (.ref f11)))
    (l11 : K.lookup f11 = some ⟨oc11, od11, .func (PySem.W.fnOf "by_lowest_block" "by_lowest_block" (defArgs s_bylow) (defBody s_bylow) (defScope s_bylow) .none kV11 dc11 pm11 an11 cd11 ct11), sl11⟩)
    (c11 : PySem.W.codeIn K cd11 "by_lowest_block" = true)
    (k11 : PySem.W.keepIn K (.ref f11) = true)
    (a12 : PySem.W.nsIn K mainGlobals "one_class_more" = some (some (.ref f12)))
    (l12 : K.lookup f12 = some ⟨oc12, od12, .func (PySem.W.fnOf "one_class_more" "one_class_more" (defArgs s_more) (defBody s_more) (defScope s_more) .none kV12 dc12 pm12 an12 cd12 ct12), sl12⟩)
    (c12 : PySem.W.codeIn K cd12 "one_class_more" = true)
    (k12 : PySem.W.keepIn K (.ref f12) = true)
    (a13 : PySem.W.nsIn K mainGlobals "first_way" = some (some (.ref f13)))
    (l13 : K.lookup f13 = some ⟨oc13, od13, .func (PySem.W.fnOf "first_way" "first_way" (defArgs s_first) (defBody s_first) (defScope s_first) .none kV13 dc13 pm13 an13 cd13 ct13), sl13⟩)
    (c13 : PySem.W.codeIn K cd13 "first_way" = true)
    (k13 : PySem.W.keepIn K (.ref f13) = true)
    (a14 : PySem.W.nsIn K mainGlobals "one_longer" = some (some (.ref f14)))
    (l14 : K.lookup f14 = some ⟨oc14, od14, .func (PySem.W.fnOf "one_longer" "one_longer" (defArgs s_longer) (defBody s_longer) (defScope s_longer) .none kV14 dc14 pm14 an14 cd14 ct14), sl14⟩)
    (c14 : PySem.W.codeIn K cd14 "one_longer" = true)
    (k14 : PySem.W.keepIn K (.ref f14) = true)
    (a15 : PySem.W.nsIn K mainGlobals "choices_of" = some (some (.ref f15)))
    (l15 : K.lookup f15 = some ⟨oc15, od15, .func (PySem.W.fnOf "choices_of" "choices_of" (defArgs s_choices) (defBody s_choices) (defScope s_choices) .none kV15 dc15 pm15 an15 cd15 ct15), sl15⟩)
    (c15 : PySem.W.codeIn K cd15 "choices_of" = true)
    (k15 : PySem.W.keepIn K (.ref f15) = true)
    (a16 : PySem.W.nsIn K mainGlobals "even_answer" = some (some (.ref f16)))
    (l16 : K.lookup f16 = some ⟨oc16, od16, .func (PySem.W.fnOf "even_answer" "even_answer" (defArgs s_evena) (defBody s_evena) (defScope s_evena) .none kV16 dc16 pm16 an16 cd16 ct16), sl16⟩)
    (c16 : PySem.W.codeIn K cd16 "even_answer" = true)
    (k16 : PySem.W.keepIn K (.ref f16) = true)
    (a17 : PySem.W.nsIn K mainGlobals "ways" = some (some (.ref f17)))
    (l17 : K.lookup f17 = some ⟨oc17, od17, .func (PySem.W.fnOf "ways" "ways" (defArgs s_ways) (defBody s_ways) (defScope s_ways) .none kV17 dc17 pm17 an17 cd17 ct17), sl17⟩)
    (c17 : PySem.W.codeIn K cd17 "ways" = true)
    (k17 : PySem.W.keepIn K (.ref f17) = true)
    (a18 : PySem.W.nsIn K mainGlobals "is_even" = some (some (.ref f18)))
    (l18 : K.lookup f18 = some ⟨oc18, od18, .func (PySem.W.fnOf "is_even" "is_even" (defArgs s_iseven) (defBody s_iseven) (defScope s_iseven) .none kV18 dc18 pm18 an18 cd18 ct18), sl18⟩)
    (c18 : PySem.W.codeIn K cd18 "is_even" = true)
    (k18 : PySem.W.keepIn K (.ref f18) = true)
    (a19 : PySem.W.nsIn K mainGlobals "greatest_even" = some (some (.ref f19)))
    (l19 : K.lookup f19 = some ⟨oc19, od19, .func (PySem.W.fnOf "greatest_even" "greatest_even" (defArgs s_great) (defBody s_great) (defScope s_great) .none kV19 dc19 pm19 an19 cd19 ct19), sl19⟩)
    (c19 : PySem.W.codeIn K cd19 "greatest_even" = true)
    (k19 : PySem.W.keepIn K (.ref f19) = true)
    (a20 : PySem.W.nsIn K mainGlobals "turned" = some (some (.ref f20)))
    (l20 : K.lookup f20 = some ⟨oc20, od20, .func (PySem.W.fnOf "turned" "turned" (defArgs s_turned) (defBody s_turned) (defScope s_turned) .none kV20 dc20 pm20 an20 cd20 ct20), sl20⟩)
    (c20 : PySem.W.codeIn K cd20 "turned" = true)
    (k20 : PySem.W.keepIn K (.ref f20) = true)
    (a21 : PySem.W.nsIn K mainGlobals "filled" = some (some (.ref f21)))
    (l21 : K.lookup f21 = some ⟨oc21, od21, .func (PySem.W.fnOf "filled" "filled" (defArgs s_filled) (defBody s_filled) (defScope s_filled) .none kV21 dc21 pm21 an21 cd21 ct21), sl21⟩)
    (c21 : PySem.W.codeIn K cd21 "filled" = true)
    (k21 : PySem.W.keepIn K (.ref f21) = true)
    (a22 : PySem.W.nsIn K mainGlobals "renumbered" = some (some (.ref f22)))
    (l22 : K.lookup f22 = some ⟨oc22, od22, .func (PySem.W.fnOf "renumbered" "renumbered" (defArgs s_renum) (defBody s_renum) (defScope s_renum) .none kV22 dc22 pm22 an22 cd22 ct22), sl22⟩)
    (c22 : PySem.W.codeIn K cd22 "renumbered" = true)
    (k22 : PySem.W.keepIn K (.ref f22) = true)
    (a23 : PySem.W.nsIn K mainGlobals "points_besides" = some (some (.ref f23)))
    (l23 : K.lookup f23 = some ⟨oc23, od23, .func (PySem.W.fnOf "points_besides" "points_besides" (defArgs s_ptsb) (defBody s_ptsb) (defScope s_ptsb) .none kV23 dc23 pm23 an23 cd23 ct23), sl23⟩)
    (c23 : PySem.W.codeIn K cd23 "points_besides" = true)
    (k23 : PySem.W.keepIn K (.ref f23) = true)
    (a24 : PySem.W.nsIn K mainGlobals "blocks_besides" = some (some (.ref f24)))
    (l24 : K.lookup f24 = some ⟨oc24, od24, .func (PySem.W.fnOf "blocks_besides" "blocks_besides" (defArgs s_blkb) (defBody s_blkb) (defScope s_blkb) .none kV24 dc24 pm24 an24 cd24 ct24), sl24⟩)
    (c24 : PySem.W.codeIn K cd24 "blocks_besides" = true)
    (k24 : PySem.W.keepIn K (.ref f24) = true)
    (a25 : PySem.W.nsIn K mainGlobals "points_call" = some (some (.ref f25)))
    (l25 : K.lookup f25 = some ⟨oc25, od25, .func (PySem.W.fnOf "points_call" "points_call" (defArgs s_points) (defBody s_points) (defScope s_points) .none kV25 dc25 pm25 an25 cd25 ct25), sl25⟩)
    (c25 : PySem.W.codeIn K cd25 "points_call" = true)
    (k25 : PySem.W.keepIn K (.ref f25) = true)
    (a26 : PySem.W.nsIn K mainGlobals "block_call" = some (some (.ref f26)))
    (l26 : K.lookup f26 = some ⟨oc26, od26, .func (PySem.W.fnOf "block_call" "block_call" (defArgs s_block) (defBody s_block) (defScope s_block) .none kV26 dc26 pm26 an26 cd26 ct26), sl26⟩)
    (c26 : PySem.W.codeIn K cd26 "block_call" = true)
    (k26 : PySem.W.keepIn K (.ref f26) = true)
    (a27 : PySem.W.nsIn K mainGlobals "gone_call" = some (some (.ref f27)))
    (l27 : K.lookup f27 = some ⟨oc27, od27, .func (PySem.W.fnOf "gone_call" "gone_call" (defArgs s_gone) (defBody s_gone) (defScope s_gone) .none kV27 dc27 pm27 an27 cd27 ct27), sl27⟩)
    (c27 : PySem.W.codeIn K cd27 "gone_call" = true)
    (k27 : PySem.W.keepIn K (.ref f27) = true)
    (a28 : PySem.W.nsIn K mainGlobals "together_call" = some (some (.ref f28)))
    (l28 : K.lookup f28 = some ⟨oc28, od28, .func (PySem.W.fnOf "together_call" "together_call" (defArgs s_together) (defBody s_together) (defScope s_together) .none kV28 dc28 pm28 an28 cd28 ct28), sl28⟩)
    (c28 : PySem.W.codeIn K cd28 "together_call" = true)
    (k28 : PySem.W.keepIn K (.ref f28) = true)
    (a29 : PySem.W.nsIn K mainGlobals "even_call" = some (some (.ref f29)))
    (l29 : K.lookup f29 = some ⟨oc29, od29, .func (PySem.W.fnOf "even_call" "even_call" (defArgs s_even) (defBody s_even) (defScope s_even) .none kV29 dc29 pm29 an29 cd29 ct29), sl29⟩)
    (c29 : PySem.W.codeIn K cd29 "even_call" = true)
    (k29 : PySem.W.keepIn K (.ref f29) = true)
    (a30 : PySem.W.nsIn K mainGlobals "strength_call" = some (some (.ref f30)))
    (l30 : K.lookup f30 = some ⟨oc30, od30, .func (PySem.W.fnOf "strength_call" "strength_call" (defArgs s_strength) (defBody s_strength) (defScope s_strength) .none kV30 dc30 pm30 an30 cd30 ct30), sl30⟩)
    (c30 : PySem.W.codeIn K cd30 "strength_call" = true)
    (k30 : PySem.W.keepIn K (.ref f30) = true)
    (a31 : PySem.W.nsIn K mainGlobals "degrees_call" = some (some (.ref f31)))
    (l31 : K.lookup f31 = some ⟨oc31, od31, .func (PySem.W.fnOf "degrees_call" "degrees_call" (defArgs s_degrees) (defBody s_degrees) (defScope s_degrees) .none kV31 dc31 pm31 an31 cd31 ct31), sl31⟩)
    (c31 : PySem.W.codeIn K cd31 "degrees_call" = true)
    (k31 : PySem.W.keepIn K (.ref f31) = true)
    (a32 : PySem.W.nsIn K mainGlobals "meets_call" = some (some (.ref f32)))
    (l32 : K.lookup f32 = some ⟨oc32, od32, .func (PySem.W.fnOf "meets_call" "meets_call" (defArgs s_meets) (defBody s_meets) (defScope s_meets) .none kV32 dc32 pm32 an32 cd32 ct32), sl32⟩)
    (c32 : PySem.W.codeIn K cd32 "meets_call" = true)
    (k32 : PySem.W.keepIn K (.ref f32) = true)
    (a33 : PySem.W.nsIn K mainGlobals "plan_told" = some (some (.ref f33)))
    (l33 : K.lookup f33 = some ⟨oc33, od33, .func (PySem.W.fnOf "plan_told" "plan_told" (defArgs s_told) (defBody s_told) (defScope s_told) .none kV33 dc33 pm33 an33 cd33 ct33), sl33⟩)
    (c33 : PySem.W.codeIn K cd33 "plan_told" = true)
    (k33 : PySem.W.keepIn K (.ref f33) = true)
    (a34 : PySem.W.nsIn K mainGlobals "reshape" = some (some (.ref f34)))
    (l34 : K.lookup f34 = some ⟨oc34, od34, .func (PySem.W.fnOf "reshape" "reshape" (defArgs s_reshape) (defBody s_reshape) (defScope s_reshape) .none kV34 dc34 pm34 an34 cd34 ct34), sl34⟩)
    (c34 : PySem.W.codeIn K cd34 "reshape" = true)
    (k34 : PySem.W.keepIn K (.ref f34) = true)
    (a35 : PySem.W.nsIn K mainGlobals "narrow" = some (some (.ref f35)))
    (l35 : K.lookup f35 = some ⟨oc35, od35, .func (PySem.W.fnOf "narrow" "narrow" (defArgs s_narrow) (defBody s_narrow) (defScope s_narrow) .none kV35 dc35 pm35 an35 cd35 ct35), sl35⟩)
    (c35 : PySem.W.codeIn K cd35 "narrow" = true)
    (k35 : PySem.W.keepIn K (.ref f35) = true)
    (a36 : PySem.W.nsIn K mainGlobals "narrow_at_point" = some (some (.ref f36)))
    (l36 : K.lookup f36 = some ⟨oc36, od36, .func (PySem.W.fnOf "narrow_at_point" "narrow_at_point" (defArgs s_nap) (defBody s_nap) (defScope s_nap) .none kV36 dc36 pm36 an36 cd36 ct36), sl36⟩)
    (c36 : PySem.W.codeIn K cd36 "narrow_at_point" = true)
    (k36 : PySem.W.keepIn K (.ref f36) = true)
    (a37 : PySem.W.nsIn K mainGlobals "narrow_at_block" = some (some (.ref f37)))
    (l37 : K.lookup f37 = some ⟨oc37, od37, .func (PySem.W.fnOf "narrow_at_block" "narrow_at_block" (defArgs s_nab) (defBody s_nab) (defScope s_nab) .none kV37 dc37 pm37 an37 cd37 ct37), sl37⟩)
    (c37 : PySem.W.codeIn K cd37 "narrow_at_block" = true)
    (k37 : PySem.W.keepIn K (.ref f37) = true)
    (a38 : PySem.W.nsIn K mainGlobals "turn_call" = some (some (.ref f38)))
    (l38 : K.lookup f38 = some ⟨oc38, od38, .func (PySem.W.fnOf "turn_call" "turn_call" (defArgs s_turn) (defBody s_turn) (defScope s_turn) .none kV38 dc38 pm38 an38 cd38 ct38), sl38⟩)
    (c38 : PySem.W.codeIn K cd38 "turn_call" = true)
    (k38 : PySem.W.keepIn K (.ref f38) = true)
    (a39 : PySem.W.nsIn K mainGlobals "fill_call" = some (some (.ref f39)))
    (l39 : K.lookup f39 = some ⟨oc39, od39, .func (PySem.W.fnOf "fill_call" "fill_call" (defArgs s_fill) (defBody s_fill) (defScope s_fill) .none kV39 dc39 pm39 an39 cd39 ct39), sl39⟩)
    (c39 : PySem.W.codeIn K cd39 "fill_call" = true)
    (k39 : PySem.W.keepIn K (.ref f39) = true)
    (a40 : PySem.W.nsIn K mainGlobals "around_call" = some (some (.ref f40)))
    (l40 : K.lookup f40 = some ⟨oc40, od40, .func (PySem.W.fnOf "around_call" "around_call" (defArgs s_around) (defBody s_around) (defScope s_around) .none kV40 dc40 pm40 an40 cd40 ct40), sl40⟩)
    (c40 : PySem.W.codeIn K cd40 "around_call" = true)
    (k40 : PySem.W.keepIn K (.ref f40) = true)
    (a41 : PySem.W.nsIn K mainGlobals "away_call" = some (some (.ref f41)))
    (l41 : K.lookup f41 = some ⟨oc41, od41, .func (PySem.W.fnOf "away_call" "away_call" (defArgs s_away) (defBody s_away) (defScope s_away) .none kV41 dc41 pm41 an41 cd41 ct41), sl41⟩)
    (c41 : PySem.W.codeIn K cd41 "away_call" = true)
    (k41 : PySem.W.keepIn K (.ref f41) = true)
    (a42 : PySem.W.nsIn K mainGlobals "inside_call" = some (some (.ref f42)))
    (l42 : K.lookup f42 = some ⟨oc42, od42, .func (PySem.W.fnOf "inside_call" "inside_call" (defArgs s_inside) (defBody s_inside) (defScope s_inside) .none kV42 dc42 pm42 an42 cd42 ct42), sl42⟩)
    (c42 : PySem.W.codeIn K cd42 "inside_call" = true)
    (k42 : PySem.W.keepIn K (.ref f42) = true)
    (a43 : PySem.W.nsIn K mainGlobals "outside_call" = some (some (.ref f43)))
    (l43 : K.lookup f43 = some ⟨oc43, od43, .func (PySem.W.fnOf "outside_call" "outside_call" (defArgs s_outside) (defBody s_outside) (defScope s_outside) .none kV43 dc43 pm43 an43 cd43 ct43), sl43⟩)
    (c43 : PySem.W.codeIn K cd43 "outside_call" = true)
    (k43 : PySem.W.keepIn K (.ref f43) = true)
    (a44 : PySem.W.nsIn K mainGlobals "classes_call" = some (some (.ref f44)))
    (l44 : K.lookup f44 = some ⟨oc44, od44, .func (PySem.W.fnOf "classes_call" "classes_call" (defArgs s_classes) (defBody s_classes) (defScope s_classes) .none kV44 dc44 pm44 an44 cd44 ct44), sl44⟩)
    (c44 : PySem.W.codeIn K cd44 "classes_call" = true)
    (k44 : PySem.W.keepIn K (.ref f44) = true)
    (a45 : PySem.W.nsIn K mainGlobals "blocks_call" = some (some (.ref f45)))
    (l45 : K.lookup f45 = some ⟨oc45, od45, .func (PySem.W.fnOf "blocks_call" "blocks_call" (defArgs s_blocks) (defBody s_blocks) (defScope s_blocks) .none kV45 dc45 pm45 an45 cd45 ct45), sl45⟩)
    (c45 : PySem.W.codeIn K cd45 "blocks_call" = true)
    (k45 : PySem.W.keepIn K (.ref f45) = true)
    (a46 : PySem.W.nsIn K mainGlobals "numbers_start" = some (some (.ref f46)))
    (l46 : K.lookup f46 = some ⟨oc46, od46, .func (PySem.W.fnOf "numbers_start" "numbers_start" (defArgs s_start) (defBody s_start) (defScope s_start) .none kV46 dc46 pm46 an46 cd46 ct46), sl46⟩)
    (c46 : PySem.W.codeIn K cd46 "numbers_start" = true)
    (k46 : PySem.W.keepIn K (.ref f46) = true)
    (a47 : PySem.W.nsIn K mainGlobals "numbers_length" = some (some (.ref f47)))
    (l47 : K.lookup f47 = some ⟨oc47, od47, .func (PySem.W.fnOf "numbers_length" "numbers_length" (defArgs s_length) (defBody s_length) (defScope s_length) .none kV47 dc47 pm47 an47 cd47 ct47), sl47⟩)
    (c47 : PySem.W.codeIn K cd47 "numbers_length" = true)
    (k47 : PySem.W.keepIn K (.ref f47) = true)
    (a48 : PySem.W.nsIn K mainGlobals "answers" = some (some (.ref f48)))
    (l48 : K.lookup f48 = some ⟨oc48, od48, .func (PySem.W.fnOf "answers" "answers" (defArgs s_answers) (defBody s_answers) (defScope s_answers) .none kV48 dc48 pm48 an48 cd48 ct48), sl48⟩)
    (c48 : PySem.W.codeIn K cd48 "answers" = true)
    (k48 : PySem.W.keepIn K (.ref f48) = true)
    (aC : PySem.W.nsIn K mainGlobals "Plan" = some (some (.ref C)))
    (aI : PySem.W.findIn K (.ref C) "__init__" = some (some (.ref fI)))
    (iI : PySem.W.isFn K (.ref fI) = true)
    (lI : K.lookup fI = some ⟨ocI, odI, .func (PySem.W.fnOf "__init__" "Plan.__init__" (defArgs s_init) (defBody s_init) (defScope s_init) .none kVI dcI pmI anI cdI ctI), slI⟩)
    (cI : PySem.W.codeIn K cdI "Plan.__init__" = true)
    (kI : PySem.W.keepIn K (.ref fI) = true)
    (pg : PySem.W.plainGet K C Str.empty = true)
    (hd : PySem.W.hasDictIn K C = true)
    (po : PySem.W.plainOver K C = true)
    (sa : PySem.W.findIn K (.ref C) "__setattr__" = some (some (.builtin "object.__setattr__")))
    (mk : PySem.W.makesIn K C = true)
    (kc : PySem.W.keepIn K (.ref C) = true)
    (n_top : PySem.W.findIn K (.ref C) "top" = some none)
    (n_blocks : PySem.W.findIn K (.ref C) "blocks" = some none)
    (b_len : PySem.W.nsIn K mainGlobals "len" = some none)
    (b_range : PySem.W.nsIn K mainGlobals "range" = some none)
    (b_enumerate : PySem.W.nsIn K mainGlobals "enumerate" = some none)
    (b_sum : PySem.W.nsIn K mainGlobals "sum" = some none)
    (b_min : PySem.W.nsIn K mainGlobals "min" = some none)
    (b_max : PySem.W.nsIn K mainGlobals "max" = some none)
    (b_list : PySem.W.nsIn K mainGlobals "list" = some none)
    (g_MOST_POINTS : PySem.W.nsIn K mainGlobals "MOST_POINTS" = some (some (.int (16) t_MOST_POINTS)))
    (g_MOST_BLOCKS : PySem.W.nsIn K mainGlobals "MOST_BLOCKS" = some (some (.int (20) t_MOST_BLOCKS)))
    (g_MOST_EVEN : PySem.W.nsIn K mainGlobals "MOST_EVEN" = some (some (.int (4) t_MOST_EVEN)))
    (g_WRONG_POINTS : PySem.W.nsIn K mainGlobals "WRONG_POINTS" = some (some (.int (-1) t_WRONG_POINTS)))
    (g_NO_BLOCK : PySem.W.nsIn K mainGlobals "NO_BLOCK" = some (some (.int (-2) t_NO_BLOCK)))
    (g_NO_WAY : PySem.W.nsIn K mainGlobals "NO_WAY" = some (some (.int (-3) t_NO_WAY)))
    (g_TOO_MANY : PySem.W.nsIn K mainGlobals "TOO_MANY" = some (some (.int (-5) t_TOO_MANY)))
    (g_NO_POINT_LEFT : PySem.W.nsIn K mainGlobals "NO_POINT_LEFT" = some (some (.int (-5) t_NO_POINT_LEFT)))
    (g_NOT_ALIKE : PySem.W.nsIn K mainGlobals "NOT_ALIKE" = some (some (.int (-6) t_NOT_ALIKE)))
    (g_NO_POINTS_IN_BLOCK : PySem.W.nsIn K mainGlobals "NO_POINTS_IN_BLOCK" = some (some (.int (-6) t_NO_POINTS_IN_BLOCK)))
    (g_ROW_CALLS : PySem.W.nsIn K mainGlobals "ROW_CALLS" = some (some (.ref a_ROW_CALLS)))
    (l_ROW_CALLS : K.lookup a_ROW_CALLS = some ⟨.type "tuple", d_ROW_CALLS, .seq #[.int 1 t_ROW_CALLS_0, .int 3 t_ROW_CALLS_1] n_ROW_CALLS, s_ROW_CALLS⟩)
    (g_NUMBER_CALLS : PySem.W.nsIn K mainGlobals "NUMBER_CALLS" = some (some (.ref a_NUMBER_CALLS)))
    (l_NUMBER_CALLS : K.lookup a_NUMBER_CALLS = some ⟨.type "tuple", d_NUMBER_CALLS, .seq #[.int 0 t_NUMBER_CALLS_0, .int 2 t_NUMBER_CALLS_1, .int 4 t_NUMBER_CALLS_2, .int 10 t_NUMBER_CALLS_3, .int 11 t_NUMBER_CALLS_4, .int 12 t_NUMBER_CALLS_5, .int 13 t_NUMBER_CALLS_6] n_NUMBER_CALLS, s_NUMBER_CALLS⟩)
    (gT : PySem.W.nsIn K mainGlobals "CALLS" = some (some (.ref aT)))
    (lT : K.lookup aT = some ⟨.type "tuple", dT, .seq #[.ref f25, .ref f26, .ref f27, .ref f28, .ref f29, .ref f30, .ref f31, .ref f32, .ref f38, .ref f39, .ref f40, .ref f41, .ref f42, .ref f43, .ref f44, .ref f45] nT, sT⟩) :
    ∃ fd : FuncData, (∀ (s : Shared) (us : List Value), us.length = (["calls"] : List Str).length → BindsTo s fd ⟨us, []⟩ ((["calls"] : List Str).zip us)) ∧ ∀ base : Heap, K.In base → base.Ns mainGlobals mg → FnOk P w K mg base CX0 8 fa fd ["calls"] (spAns K) := by
  have e := hfa.symm.trans (PySem.W.mg_of X G0 a48)
  cases e
  have F0 := fun_mk (st := s_rise) l0 c0 k0
  have B0 := F0.binds (ps := ["points", "top"]) fun _ _ _ _ _ _ us hl => match us, hl with | [_, _], _ => rfl
  have m0 := PySem.W.mg_of X G0 a0
  have F1 := fun_mk (st := s_mask) l1 c1 k1
  have B1 := F1.binds (ps := ["points"]) fun _ _ _ _ _ _ us hl => match us, hl with | [_], _ => rfl
  have m1 := PySem.W.mg_of X G0 a1
  have F2 := fun_mk (st := s_upto) l2 c2 k2
  have B2 := F2.binds (ps := ["top"]) fun _ _ _ _ _ _ us hl => match us, hl with | [_], _ => rfl
  have m2 := PySem.W.mg_of X G0 a2
  have F3 := fun_mk (st := s_has) l3 c3 k3
  have B3 := F3.binds (ps := ["mask", "point"]) fun _ _ _ _ _ _ us hl => match us, hl with | [_, _], _ => rfl
  have m3 := PySem.W.mg_of X G0 a3
  have F4 := fun_mk (st := s_low) l4 c4 k4
  have B4 := F4.binds (ps := ["mask"]) fun _ _ _ _ _ _ us hl => match us, hl with | [_], _ => rfl
  have m4 := PySem.W.mg_of X G0 a4
  have F5 := fun_mk (st := s_ptsof) l5 c5 k5
  have B5 := F5.binds (ps := ["mask"]) fun _ _ _ _ _ _ us hl => match us, hl with | [_], _ => rfl
  have m5 := PySem.W.mg_of X G0 a5
  have F6 := fun_mk (st := s_size) l6 c6 k6
  have B6 := F6.binds (ps := ["mask"]) fun _ _ _ _ _ _ us hl => match us, hl with | [_], _ => rfl
  have m6 := PySem.W.mg_of X G0 a6
  have F7 := fun_mk (st := s_count) l7 c7 k7
  have B7 := F7.binds (ps := ["blocks", "mask"]) fun _ _ _ _ _ _ us hl => match us, hl with | [_, _], _ => rfl
  have m7 := PySem.W.mg_of X G0 a7
  have F8 := fun_mk (st := s_common) l8 c8 k8
  have B8 := F8.binds (ps := ["blocks"]) fun _ _ _ _ _ _ us hl => match us, hl with | [_], _ => rfl
  have m8 := PySem.W.mg_of X G0 a8
  have F9 := fun_mk (st := s_with) l9 c9 k9
  have B9 := F9.binds (ps := ["covers", "point", "starting"]) fun _ _ _ _ _ _ us hl => match us, hl with | [_, _, _], _ => rfl
  have m9 := PySem.W.mg_of X G0 a9
  have F10 := fun_mk (st := s_poss) l10 c10 k10
  have B10 := F10.binds (ps := ["top", "blocks"]) fun _ _ _ _ _ _ us hl => match us, hl with | [_, _], _ => rfl
  have m10 := PySem.W.mg_of X G0 a10
  have F11 := fun_mk (st := s_bylow) l11 c11 k11
  have B11 := F11.binds (ps := ["count", "classes"]) fun _ _ _ _ _ _ us hl => match us, hl with | [_, _], _ => rfl
  have m11 := PySem.W.mg_of X G0 a11
  have F12 := fun_mk (st := s_more) l12 c12 k12
  have B12 := F12.binds (ps := ["ways", "every", "places"]) fun _ _ _ _ _ _ us hl => match us, hl with | [_, _, _], _ => rfl
  have m12 := PySem.W.mg_of X G0 a12
  have F13 := fun_mk (st := s_first) l13 c13 k13
  have B13 := F13.binds (ps := ["top", "blocks"]) fun _ _ _ _ _ _ us hl => match us, hl with | [_, _], _ => rfl
  have m13 := PySem.W.mg_of X G0 a13
  have F14 := fun_mk (st := s_longer) l14 c14 k14
  have B14 := F14.binds (ps := ["choices", "top"]) fun _ _ _ _ _ _ us hl => match us, hl with | [_, _], _ => rfl
  have m14 := PySem.W.mg_of X G0 a14
  have F15 := fun_mk (st := s_choices) l15 c15 k15
  have B15 := F15.binds (ps := ["top", "t"]) fun _ _ _ _ _ _ us hl => match us, hl with | [_, _], _ => rfl
  have m15 := PySem.W.mg_of X G0 a15
  have F16 := fun_mk (st := s_evena) l16 c16 k16
  have B16 := F16.binds (ps := ["top", "blocks", "t"]) fun _ _ _ _ _ _ us hl => match us, hl with | [_, _, _], _ => rfl
  have m16 := PySem.W.mg_of X G0 a16
  have F17 := fun_mk (st := s_ways) l17 c17 k17
  have B17 := F17.binds (ps := ["count", "t"]) fun _ _ _ _ _ _ us hl => match us, hl with | [_, _], _ => rfl
  have m17 := PySem.W.mg_of X G0 a17
  have F18 := fun_mk (st := s_iseven) l18 c18 k18
  have B18 := F18.binds (ps := ["top", "sizes", "commons", "t"]) fun _ _ _ _ _ _ us hl => match us, hl with | [_, _, _, _], _ => rfl
  have m18 := PySem.W.mg_of X G0 a18
  have F19 := fun_mk (st := s_great) l19 c19 k19
  have B19 := F19.binds (ps := ["top", "blocks"]) fun _ _ _ _ _ _ us hl => match us, hl with | [_, _], _ => rfl
  have m19 := PySem.W.mg_of X G0 a19
  have F20 := fun_mk (st := s_turned) l20 c20 k20
  have B20 := F20.binds (ps := ["top", "blocks"]) fun _ _ _ _ _ _ us hl => match us, hl with | [_, _], _ => rfl
  have m20 := PySem.W.mg_of X G0 a20
  have F21 := fun_mk (st := s_filled) l21 c21 k21
  have B21 := F21.binds (ps := ["top", "blocks"]) fun _ _ _ _ _ _ us hl => match us, hl with | [_, _], _ => rfl
  have m21 := PySem.W.mg_of X G0 a21
  have F22 := fun_mk (st := s_renum) l22 c22 k22
  have B22 := F22.binds (ps := ["block", "kept"]) fun _ _ _ _ _ _ us hl => match us, hl with | [_, _], _ => rfl
  have m22 := PySem.W.mg_of X G0 a22
  have F23 := fun_mk (st := s_ptsb) l23 c23 k23
  have B23 := F23.binds (ps := ["top", "point"]) fun _ _ _ _ _ _ us hl => match us, hl with | [_, _], _ => rfl
  have m23 := PySem.W.mg_of X G0 a23
  have F24 := fun_mk (st := s_blkb) l24 c24 k24
  have B24 := F24.binds (ps := ["blocks", "number"]) fun _ _ _ _ _ _ us hl => match us, hl with | [_, _], _ => rfl
  have m24 := PySem.W.mg_of X G0 a24
  have F25 := fun_mk (st := s_points) l25 c25 k25
  have B25 := F25.binds (ps := ["plan", "numbers"]) fun _ _ _ _ _ _ us hl => match us, hl with | [_, _], _ => rfl
  have m25 := PySem.W.mg_of X G0 a25
  have F26 := fun_mk (st := s_block) l26 c26 k26
  have B26 := F26.binds (ps := ["plan", "numbers"]) fun _ _ _ _ _ _ us hl => match us, hl with | [_, _], _ => rfl
  have m26 := PySem.W.mg_of X G0 a26
  have F27 := fun_mk (st := s_gone) l27 c27 k27
  have B27 := F27.binds (ps := ["plan", "numbers"]) fun _ _ _ _ _ _ us hl => match us, hl with | [_, _], _ => rfl
  have m27 := PySem.W.mg_of X G0 a27
  have F28 := fun_mk (st := s_together) l28 c28 k28
  have B28 := F28.binds (ps := ["plan", "numbers"]) fun _ _ _ _ _ _ us hl => match us, hl with | [_, _], _ => rfl
  have m28 := PySem.W.mg_of X G0 a28
  have F29 := fun_mk (st := s_even) l29 c29 k29
  have B29 := F29.binds (ps := ["plan", "numbers"]) fun _ _ _ _ _ _ us hl => match us, hl with | [_, _], _ => rfl
  have m29 := PySem.W.mg_of X G0 a29
  have F30 := fun_mk (st := s_strength) l30 c30 k30
  have B30 := F30.binds (ps := ["plan", "numbers"]) fun _ _ _ _ _ _ us hl => match us, hl with | [_, _], _ => rfl
  have m30 := PySem.W.mg_of X G0 a30
  have F31 := fun_mk (st := s_degrees) l31 c31 k31
  have B31 := F31.binds (ps := ["plan", "numbers"]) fun _ _ _ _ _ _ us hl => match us, hl with | [_, _], _ => rfl
  have m31 := PySem.W.mg_of X G0 a31
  have F32 := fun_mk (st := s_meets) l32 c32 k32
  have B32 := F32.binds (ps := ["plan", "numbers"]) fun _ _ _ _ _ _ us hl => match us, hl with | [_, _], _ => rfl
  have m32 := PySem.W.mg_of X G0 a32
  have F33 := fun_mk (st := s_told) l33 c33 k33
  have B33 := F33.binds (ps := ["plan"]) fun _ _ _ _ _ _ us hl => match us, hl with | [_], _ => rfl
  have m33 := PySem.W.mg_of X G0 a33
  have F34 := fun_mk (st := s_reshape) l34 c34 k34
  have B34 := F34.binds (ps := ["plan", "top", "blocks"]) fun _ _ _ _ _ _ us hl => match us, hl with | [_, _, _], _ => rfl
  have m34 := PySem.W.mg_of X G0 a34
  have F35 := fun_mk (st := s_narrow) l35 c35 k35
  have B35 := F35.binds (ps := ["plan", "kept", "blocks"]) fun _ _ _ _ _ _ us hl => match us, hl with | [_, _, _], _ => rfl
  have m35 := PySem.W.mg_of X G0 a35
  have F36 := fun_mk (st := s_nap) l36 c36 k36
  have B36 := F36.binds (ps := ["plan", "point", "standing"]) fun _ _ _ _ _ _ us hl => match us, hl with | [_, _, _], _ => rfl
  have m36 := PySem.W.mg_of X G0 a36
  have F37 := fun_mk (st := s_nab) l37 c37 k37
  have B37 := F37.binds (ps := ["plan", "number", "sides"]) fun _ _ _ _ _ _ us hl => match us, hl with | [_, _, _], _ => rfl
  have m37 := PySem.W.mg_of X G0 a37
  have F38 := fun_mk (st := s_turn) l38 c38 k38
  have B38 := F38.binds (ps := ["plan", "numbers"]) fun _ _ _ _ _ _ us hl => match us, hl with | [_, _], _ => rfl
  have m38 := PySem.W.mg_of X G0 a38
  have F39 := fun_mk (st := s_fill) l39 c39 k39
  have B39 := F39.binds (ps := ["plan", "numbers"]) fun _ _ _ _ _ _ us hl => match us, hl with | [_, _], _ => rfl
  have m39 := PySem.W.mg_of X G0 a39
  have F40 := fun_mk (st := s_around) l40 c40 k40
  have B40 := F40.binds (ps := ["plan", "numbers"]) fun _ _ _ _ _ _ us hl => match us, hl with | [_, _], _ => rfl
  have m40 := PySem.W.mg_of X G0 a40
  have F41 := fun_mk (st := s_away) l41 c41 k41
  have B41 := F41.binds (ps := ["plan", "numbers"]) fun _ _ _ _ _ _ us hl => match us, hl with | [_, _], _ => rfl
  have m41 := PySem.W.mg_of X G0 a41
  have F42 := fun_mk (st := s_inside) l42 c42 k42
  have B42 := F42.binds (ps := ["plan", "numbers"]) fun _ _ _ _ _ _ us hl => match us, hl with | [_, _], _ => rfl
  have m42 := PySem.W.mg_of X G0 a42
  have F43 := fun_mk (st := s_outside) l43 c43 k43
  have B43 := F43.binds (ps := ["plan", "numbers"]) fun _ _ _ _ _ _ us hl => match us, hl with | [_, _], _ => rfl
  have m43 := PySem.W.mg_of X G0 a43
  have F44 := fun_mk (st := s_classes) l44 c44 k44
  have B44 := F44.binds (ps := ["plan", "numbers"]) fun _ _ _ _ _ _ us hl => match us, hl with | [_, _], _ => rfl
  have m44 := PySem.W.mg_of X G0 a44
  have F45 := fun_mk (st := s_blocks) l45 c45 k45
  have B45 := F45.binds (ps := ["plan", "numbers"]) fun _ _ _ _ _ _ us hl => match us, hl with | [_, _], _ => rfl
  have m45 := PySem.W.mg_of X G0 a45
  have F46 := fun_mk (st := s_start) l46 c46 k46
  have B46 := F46.binds (ps := ["call", "place"]) fun _ _ _ _ _ _ us hl => match us, hl with | [_, _], _ => rfl
  have m46 := PySem.W.mg_of X G0 a46
  have F47 := fun_mk (st := s_length) l47 c47 k47
  have B47 := F47.binds (ps := ["calls", "place"]) fun _ _ _ _ _ _ us hl => match us, hl with | [_, _], _ => rfl
  have m47 := PySem.W.mg_of X G0 a47
  have F48 := fun_mk (st := s_answers) l48 c48 k48
  have FI := fun_mk (st := s_init) lI cI kI
  have BI := FI.binds (ps := ["self"]) fun _ _ _ _ _ _ us hl => match us, hl with | [_], _ => rfl
  have cC := PySem.W.mg_of X G0 aC
  have gg : ∀ {x : Str} {v : Int} {t : Tok}, PySem.W.nsIn K mainGlobals x = some (some (.int v t)) → G mg x (.int v) := fun e => ⟨_, PySem.W.mg_of X G0 e, ⟨_, rfl⟩⟩
  have R_ROW_CALLS : Tp K mg "ROW_CALLS" rowVs := ⟨a_ROW_CALLS, ⟨_, PySem.W.mg_of X G0 g_ROW_CALLS, rfl⟩, fun H => .inr ⟨_, _, _, l_ROW_CALLS, rfl, rfl, (by show 2 ≤ sizeLine; decide), (Paired.cons ⟨_, rfl⟩ (Paired.cons ⟨_, rfl⟩ Paired.nil))⟩⟩
  have R_NUMBER_CALLS : Tp K mg "NUMBER_CALLS" oneVs := ⟨a_NUMBER_CALLS, ⟨_, PySem.W.mg_of X G0 g_NUMBER_CALLS, rfl⟩, fun H => .inr ⟨_, _, _, l_NUMBER_CALLS, rfl, rfl, (by show 7 ≤ sizeLine; decide), (Paired.cons ⟨_, rfl⟩ (Paired.cons ⟨_, rfl⟩ (Paired.cons ⟨_, rfl⟩ (Paired.cons ⟨_, rfl⟩ (Paired.cons ⟨_, rfl⟩ (Paired.cons ⟨_, rfl⟩ (Paired.cons ⟨_, rfl⟩ Paired.nil)))))))⟩⟩
  have T : Tx K mg C := ⟨⟨pg, hd, po, sa⟩, n_top, n_blocks, (PySem.W.mg_none_of X G0 b_len), (PySem.W.mg_none_of X G0 b_range), (PySem.W.mg_none_of X G0 b_min), (PySem.W.mg_none_of X G0 b_max), gg g_MOST_POINTS, gg g_MOST_BLOCKS, gg g_MOST_EVEN, gg g_WRONG_POINTS, gg g_NO_BLOCK, gg g_TOO_MANY, gg g_NOT_ALIKE⟩
  refine ⟨PySem.W.fnOf "answers" "answers" (defArgs s_answers) (defBody s_answers) (defScope s_answers) .none kV48 dc48 pm48 an48 cd48 ct48, fun s us hu => match us, hu with | [_], _ => .of_eq rfl, fun base _ _ => ?_⟩
  have O0 := ok_rise (P := P) (w := w) (mg := mg) (base := base) F0 
  have C0 : Cl P w K mg base _ "rise_within" ["points", "top"] _ := ⟨f0, _, O0, m0, k0, B0⟩
  have O1 := ok_mask (P := P) (w := w) (mg := mg) (base := base) F1 
  have C1 : Cl P w K mg base _ "mask_of" ["points"] _ := ⟨f1, _, O1, m1, k1, B1⟩
  have O2 := ok_upto (P := P) (w := w) (mg := mg) (base := base) F2 T.range (PySem.W.mg_none_of X G0 b_list) C1
  have C2 : Cl P w K mg base _ "mask_up_to" ["top"] _ := ⟨f2, _, O2, m2, k2, B2⟩
  have O3 := ok_has (P := P) (w := w) (mg := mg) (base := base) F3 
  have C3 : Cl P w K mg base _ "has" ["mask", "point"] _ := ⟨f3, _, O3, m3, k3, B3⟩
  have O4 := ok_low (P := P) (w := w) (mg := mg) (base := base) F4 
  have C4 : Cl P w K mg base _ "lowest_of" ["mask"] _ := ⟨f4, _, O4, m4, k4, B4⟩
  have O5 := ok_ptsof (P := P) (w := w) (mg := mg) (base := base) F5 T.range C3
  have C5 : Cl P w K mg base _ "points_of" ["mask"] _ := ⟨f5, _, O5, m5, k5, B5⟩
  have O6 := ok_size (P := P) (w := w) (mg := mg) (base := base) F6 
  have C6 : Cl P w K mg base _ "size_of" ["mask"] _ := ⟨f6, _, O6, m6, k6, B6⟩
  have O7 := ok_count (P := P) (w := w) (mg := mg) (base := base) F7 T.len
  have C7 : Cl P w K mg base _ "count_together" ["blocks", "mask"] _ := ⟨f7, _, O7, m7, k7, B7⟩
  have O8 := ok_common (P := P) (w := w) (mg := mg) (base := base) F8 (PySem.W.mg_none_of X G0 b_enumerate) C6
  have C8 : Cl P w K mg base _ "common_sizes" ["blocks"] _ := ⟨f8, _, O8, m8, k8, B8⟩
  have O9 := okf_with (P := P) (w := w) (mg := mg) (base := base) F9 C3
  have C9 : Cl P w K mg base _ "with_point" ["covers", "point", "starting"] _ := ⟨f9, _, O9, m9, k9, B9⟩
  have O10 := okf_poss (P := P) (w := w) (mg := mg) (base := base) F10 T.range (PySem.W.mg_none_of X G0 b_enumerate) C4 C9
  have C10 : Cl P w K mg base _ "possible_classes" ["top", "blocks"] _ := ⟨f10, _, O10, m10, k10, B10⟩
  have O11 := okf_bylow (P := P) (w := w) (mg := mg) (base := base) F11 T.range T.min C1
  have C11 : Cl P w K mg base _ "by_lowest_block" ["count", "classes"] _ := ⟨f11, _, O11, m11, k11, B11⟩
  have O12 := okf_more (P := P) (w := w) (mg := mg) (base := base) F12 C4
  have C12 : Cl P w K mg base _ "one_class_more" ["ways", "every", "places"] _ := ⟨f12, _, O12, m12, k12, B12⟩
  have O13 := okf_first (P := P) (w := w) (mg := mg) (base := base) F13 T.range (PySem.W.mg_none_of X G0 b_list) T.len C1 C11 C10 C12
  have C13 : Cl P w K mg base _ "first_way" ["top", "blocks"] _ := ⟨f13, _, O13, m13, k13, B13⟩
  have O14 := ok_longer (P := P) (w := w) (mg := mg) (base := base) F14 T.len T.range
  have C14 : Cl P w K mg base _ "one_longer" ["choices", "top"] _ := ⟨f14, _, O14, m14, k14, B14⟩
  have O15 := ok_choices (P := P) (w := w) (mg := mg) (base := base) F15 T.range C14
  have C15 : Cl P w K mg base _ "choices_of" ["top", "t"] _ := ⟨f15, _, O15, m15, k15, B15⟩
  have O16 := ok_evena (P := P) (w := w) (mg := mg) (base := base) F16 C15 C7 C1
  have C16 : Cl P w K mg base _ "even_answer" ["top", "blocks", "t"] _ := ⟨f16, _, O16, m16, k16, B16⟩
  have O17 := ok_ways (P := P) (w := w) (mg := mg) (base := base) F17 T.range
  have C17 : Cl P w K mg base _ "ways" ["count", "t"] _ := ⟨f17, _, O17, m17, k17, B17⟩
  have O18 := ok_iseven (P := P) (w := w) (mg := mg) (base := base) F18 (PySem.W.mg_none_of X G0 b_sum) C17
  have C18 : Cl P w K mg base _ "is_even" ["top", "sizes", "commons", "t"] _ := ⟨f18, _, O18, m18, k18, B18⟩
  have O19 := ok_great (P := P) (w := w) (mg := mg) (base := base) F19 C6 C8 C18
  have C19 : Cl P w K mg base _ "greatest_even" ["top", "blocks"] _ := ⟨f19, _, O19, m19, k19, B19⟩
  have O20 := okf_turned (P := P) (w := w) (mg := mg) (base := base) F20 T.range (PySem.W.mg_none_of X G0 b_enumerate) C3 C1
  have C20 : Cl P w K mg base _ "turned" ["top", "blocks"] _ := ⟨f20, _, O20, m20, k20, B20⟩
  have O21 := okf_filled (P := P) (w := w) (mg := mg) (base := base) F21 C2
  have C21 : Cl P w K mg base _ "filled" ["top", "blocks"] _ := ⟨f21, _, O21, m21, k21, B21⟩
  have O22 := okf_renum (P := P) (w := w) (mg := mg) (base := base) F22 (PySem.W.mg_none_of X G0 b_enumerate) C3 C1
  have C22 : Cl P w K mg base _ "renumbered" ["block", "kept"] _ := ⟨f22, _, O22, m22, k22, B22⟩
  have O23 := okf_ptsb (P := P) (w := w) (mg := mg) (base := base) F23 T.range
  have C23 : Cl P w K mg base _ "points_besides" ["top", "point"] _ := ⟨f23, _, O23, m23, k23, B23⟩
  have O24 := okf_blkb (P := P) (w := w) (mg := mg) (base := base) F24 
  have C24 : Cl P w K mg base _ "blocks_besides" ["blocks", "number"] _ := ⟨f24, _, O24, m24, k24, B24⟩
  have O25 := ok_points (P := P) (w := w) (mg := mg) (base := base) F25 T
  have O26 := ok_block (P := P) (w := w) (mg := mg) (base := base) F26 T C0 C1
  have O27 := ok_gone (P := P) (w := w) (mg := mg) (base := base) F27 T
  have O28 := ok_together (P := P) (w := w) (mg := mg) (base := base) F28 T C0 C1 C7
  have O29 := ok_even (P := P) (w := w) (mg := mg) (base := base) F29 T C16
  have O30 := ok_strength (P := P) (w := w) (mg := mg) (base := base) F30 T C6 C19
  have O31 := ok_degrees (P := P) (w := w) (mg := mg) (base := base) F31 T C1 C7
  have O32 := ok_meets (P := P) (w := w) (mg := mg) (base := base) F32 T C8
  have O33 := okf_told (P := P) (w := w) (mg := mg) (base := base) F33 T C6 C5
  have C33 : Cl P w K mg base _ "plan_told" ["plan"] _ := ⟨f33, _, O33, m33, k33, B33⟩
  have O34 := okf_reshape (P := P) (w := w) (mg := mg) (base := base) F34 T (gg g_NO_POINT_LEFT) C33
  have C34 : Cl P w K mg base _ "reshape" ["plan", "top", "blocks"] _ := ⟨f34, _, O34, m34, k34, B34⟩
  have O35 := okf_narrow (P := P) (w := w) (mg := mg) (base := base) F35 T C34 C22
  have C35 : Cl P w K mg base _ "narrow" ["plan", "kept", "blocks"] _ := ⟨f35, _, O35, m35, k35, B35⟩
  have O36 := okf_nap (P := P) (w := w) (mg := mg) (base := base) F36 T C0 C3 C23 C35
  have C36 : Cl P w K mg base _ "narrow_at_point" ["plan", "point", "standing"] _ := ⟨f36, _, O36, m36, k36, B36⟩
  have O37 := okf_nab (P := P) (w := w) (mg := mg) (base := base) F37 T C5 C24 C35
  have C37 : Cl P w K mg base _ "narrow_at_block" ["plan", "number", "sides"] _ := ⟨f37, _, O37, m37, k37, B37⟩
  have O38 := okf_turn (P := P) (w := w) (mg := mg) (base := base) F38 T C34 C20
  have O39 := okf_fill (P := P) (w := w) (mg := mg) (base := base) F39 T C34 C21
  have O40 := okf_around (P := P) (w := w) (mg := mg) (base := base) F40 C36
  have O41 := okf_away (P := P) (w := w) (mg := mg) (base := base) F41 C36
  have O42 := okf_inside (P := P) (w := w) (mg := mg) (base := base) F42 T C37
  have O43 := okf_outside (P := P) (w := w) (mg := mg) (base := base) F43 T C21 C37
  have O44 := okf_classes (P := P) (w := w) (mg := mg) (base := base) F44 T (gg g_NO_POINTS_IN_BLOCK) (gg g_NO_WAY) C13
  have O45 := okf_blocks (P := P) (w := w) (mg := mg) (base := base) F45 C33
  have O46 := ok_start (P := P) (w := w) (mg := mg) (base := base) F46 R_ROW_CALLS
  have C46 : Cl P w K mg base _ "numbers_start" ["call", "place"] _ := ⟨f46, _, O46, m46, k46, B46⟩
  have O47 := ok_length (P := P) (w := w) (mg := mg) (base := base) F47 R_ROW_CALLS R_NUMBER_CALLS
  have C47 : Cl P w K mg base _ "numbers_length" ["calls", "place"] _ := ⟨f47, _, O47, m47, k47, B47⟩
  have tb : Table P w K mg base C 7 := by
    refine ⟨aT, [f25, f26, f27, f28, f29, f30, f31, f32, f38, f39, f40, f41, f42, f43, f44, f45], ⟨_, PySem.W.mg_of X G0 gT, rfl⟩, fun H => .inr ⟨_, _, _, lT, rfl, rfl, (by show 16 ≤ sizeLine; decide), (Paired.cons rfl (Paired.cons rfl (Paired.cons rfl (Paired.cons rfl (Paired.cons rfl (Paired.cons rfl (Paired.cons rfl (Paired.cons rfl (Paired.cons rfl (Paired.cons rfl (Paired.cons rfl (Paired.cons rfl (Paired.cons rfl (Paired.cons rfl (Paired.cons rfl (Paired.cons rfl Paired.nil))))))))))))))))⟩, fun i hi => ?_⟩
    have hc : i = 0 ∨ i = 1 ∨ i = 2 ∨ i = 3 ∨ i = 4 ∨ i = 5 ∨ i = 6 ∨ i = 7 ∨ i = 8 ∨ i = 9 ∨ i = 10 ∨ i = 11 ∨ i = 12 ∨ i = 13 ∨ i = 14 ∨ i = 15 := by omega
    rcases hc with rfl | rfl | rfl | rfl | rfl | rfl | rfl | rfl | rfl | rfl | rfl | rfl | rfl | rfl | rfl | rfl
    · exact ⟨_, rfl, ⟨_, _, up_level O25 (by decide), k25, B25⟩⟩
    · exact ⟨_, rfl, ⟨_, _, up_level O26 (by decide), k26, B26⟩⟩
    · exact ⟨_, rfl, ⟨_, _, up_level O27 (by decide), k27, B27⟩⟩
    · exact ⟨_, rfl, ⟨_, _, up_level O28 (by decide), k28, B28⟩⟩
    · exact ⟨_, rfl, ⟨_, _, up_level O29 (by decide), k29, B29⟩⟩
    · exact ⟨_, rfl, ⟨_, _, up_level O30 (by decide), k30, B30⟩⟩
    · exact ⟨_, rfl, ⟨_, _, up_level O31 (by decide), k31, B31⟩⟩
    · exact ⟨_, rfl, ⟨_, _, up_level O32 (by decide), k32, B32⟩⟩
    · exact ⟨_, rfl, ⟨_, _, up_level O38 (by decide), k38, B38⟩⟩
    · exact ⟨_, rfl, ⟨_, _, up_level O39 (by decide), k39, B39⟩⟩
    · exact ⟨_, rfl, ⟨_, _, up_level O40 (by decide), k40, B40⟩⟩
    · exact ⟨_, rfl, ⟨_, _, up_level O41 (by decide), k41, B41⟩⟩
    · exact ⟨_, rfl, ⟨_, _, up_level O42 (by decide), k42, B42⟩⟩
    · exact ⟨_, rfl, ⟨_, _, up_level O43 (by decide), k43, B43⟩⟩
    · exact ⟨_, rfl, ⟨_, _, up_level O44 (by decide), k44, B44⟩⟩
    · exact ⟨_, rfl, ⟨_, _, up_level O45 (by decide), k45, B45⟩⟩
  exact ok_answers F48 T (by decide) ⟨mk, aI, iI, kc⟩ cC (ok_init FI T) BI C46 C47 tb
end Eb
open PySem PySem.W PyProof.Rows
set_option maxRecDepth 100000 in
set_option maxHeartbeats 8000000 in
theorem PySem.Challenge.cw_evenblocksdesk_s01_answers_holds : PySem.Challenge.rw_evenblocksdesk_s01_answers.Holds := by
  w_on; k_headS; (case hw => exact ⟨[.list [.int 6]], by decide +kernel, by decide +kernel⟩)
  k_fillS
  refine L2.walk_specK (r := PySem.Challenge.rw_evenblocksdesk_s01_answers) (k := 8) (CX := L2.CX0) (ps := ["calls"]) (sp := Eb.spAns) (by decide +kernel) rfl rfl ⟨rfl, by decide, by decide⟩ (fun w h Y => PySem.W.kIn_of Y) ?F ?S (fun _ _ _ _ z => z)
  case F =>
    intro w mg fa h Y KX G hmg
    refine' Eb.all_mk KX G hmg ?a0 ?l0 ?c0 ?k0 ?a1 ?l1 ?c1 ?k1 ?a2 ?l2 ?c2 ?k2 ?a3 ?l3 ?c3 ?k3 ?a4 ?l4 ?c4 ?k4 ?a5 ?l5 ?c5 ?k5 ?a6 ?l6 ?c6 ?k6 ?a7 ?l7 ?c7 ?k7 ?a8 ?l8 ?c8 ?k8 ?a9 ?l9 ?c9 ?k9 ?a10 ?l10 ?c10 ?k10 ?a11 ?l11 ?c11 ?k11 ?a12 ?l12 ?c12 ?k12 ?a13 ?l13 ?c13 ?k13 ?a14 ?l14 ?c14 ?k14 ?a15 ?l15 ?c15 ?k15 ?a16 ?l16 ?c16 ?k16 ?a17 ?l17 ?c17 ?k17 ?a18 ?l18 ?c18 ?k18 ?a19 ?l19 ?c19 ?k19 ?a20 ?l20 ?c20 ?k20 ?a21 ?l21 ?c21 ?k21 ?a22 ?l22 ?c22 ?k22 ?a23 ?l23 ?c23 ?k23 ?a24 ?l24 ?c24 ?k24 ?a25 ?l25 ?c25 ?k25 ?a26 ?l26 ?c26 ?k26 ?a27 ?l27 ?c27 ?k27 ?a28 ?l28 ?c28 ?k28 ?a29 ?l29 ?c29 ?k29 ?a30 ?l30 ?c30 ?k30 ?a31 ?l31 ?c31 ?k31 ?a32 ?l32 ?c32 ?k32 ?a33 ?l33 ?c33 ?k33 ?a34 ?l34 ?c34 ?k34 ?a35 ?l35 ?c35 ?k35 ?a36 ?l36 ?c36 ?k36 ?a37 ?l37 ?c37 ?k37 ?a38 ?l38 ?c38 ?k38 ?a39 ?l39 ?c39 ?k39 ?a40 ?l40 ?c40 ?k40 ?a41 ?l41 ?c41 ?k41 ?a42 ?l42 ?c42 ?k42 ?a43 ?l43 ?c43 ?k43 ?a44 ?l44 ?c44 ?k44 ?a45 ?l45 ?c45 ?k45 ?a46 ?l46 ?c46 ?k46 ?a47 ?l47 ?c47 ?k47 ?a48 ?l48 ?c48 ?k48 ?aC ?aI ?iI ?lI ?cI ?kI ?pg ?hd ?po ?sa ?mk ?kc ?n_top ?n_blocks ?b_len ?b_range ?b_enumerate ?b_sum ?b_min ?b_max ?b_list ?g_MOST_POINTS ?g_MOST_BLOCKS ?g_MOST_EVEN ?g_WRONG_POINTS ?g_NO_BLOCK ?g_NO_WAY ?g_TOO_MANY ?g_NO_POINT_LEFT ?g_NOT_ALIKE ?g_NO_POINTS_IN_BLOCK ?g_ROW_CALLS ?l_ROW_CALLS ?g_NUMBER_CALLS ?l_NUMBER_CALLS ?gT ?lT
    (case a0 => k_is)
    (case l0 => k_is)
    (case c0 => k_is)
    (case k0 => k_is)
    (case a1 => k_is)
    (case l1 => k_is)
    (case c1 => k_is)
    (case k1 => k_is)
    (case a2 => k_is)
    (case l2 => k_is)
    (case c2 => k_is)
    (case k2 => k_is)
    (case a3 => k_is)
    (case l3 => k_is)
    (case c3 => k_is)
    (case k3 => k_is)
    (case a4 => k_is)
    (case l4 => k_is)
    (case c4 => k_is)
    (case k4 => k_is)
    (case a5 => k_is)
    (case l5 => k_is)
    (case c5 => k_is)
    (case k5 => k_is)
    (case a6 => k_is)
    (case l6 => k_is)
    (case c6 => k_is)
    (case k6 => k_is)
    (case a7 => k_is)
    (case l7 => k_is)
    (case c7 => k_is)
    (case k7 => k_is)
    (case a8 => k_is)
    (case l8 => k_is)
    (case c8 => k_is)
    (case k8 => k_is)
    (case a9 => k_is)
    (case l9 => k_is)
    (case c9 => k_is)
    (case k9 => k_is)
    (case a10 => k_is)
    (case l10 => k_is)
    (case c10 => k_is)
    (case k10 => k_is)
    (case a11 => k_is)
    (case l11 => k_is)
    (case c11 => k_is)
    (case k11 => k_is)
    (case a12 => k_is)
    (case l12 => k_is)
    (case c12 => k_is)
    (case k12 => k_is)
    (case a13 => k_is)
    (case l13 => k_is)
    (case c13 => k_is)
    (case k13 => k_is)
    (case a14 => k_is)
    (case l14 => k_is)
    (case c14 => k_is)
    (case k14 => k_is)
    (case a15 => k_is)
    (case l15 => k_is)
    (case c15 => k_is)
    (case k15 => k_is)
    (case a16 => k_is)
    (case l16 => k_is)
    (case c16 => k_is)
    (case k16 => k_is)
    (case a17 => k_is)
    (case l17 => k_is)
    (case c17 => k_is)
    (case k17 => k_is)
    (case a18 => k_is)
    (case l18 => k_is)
    (case c18 => k_is)
    (case k18 => k_is)
    (case a19 => k_is)
    (case l19 => k_is)
    (case c19 => k_is)
    (case k19 => k_is)
    (case a20 => k_is)
    (case l20 => k_is)
    (case c20 => k_is)
    (case k20 => k_is)
    (case a21 => k_is)
    (case l21 => k_is)
    (case c21 => k_is)
    (case k21 => k_is)
    (case a22 => k_is)
    (case l22 => k_is)
    (case c22 => k_is)
    (case k22 => k_is)
    (case a23 => k_is)
    (case l23 => k_is)
    (case c23 => k_is)
    (case k23 => k_is)
    (case a24 => k_is)
    (case l24 => k_is)
    (case c24 => k_is)
    (case k24 => k_is)
    (case a25 => k_is)
    (case l25 => k_is)
    (case c25 => k_is)
    (case k25 => k_is)
    (case a26 => k_is)
    (case l26 => k_is)
    (case c26 => k_is)
    (case k26 => k_is)
    (case a27 => k_is)
    (case l27 => k_is)
    (case c27 => k_is)
    (case k27 => k_is)
    (case a28 => k_is)
    (case l28 => k_is)
    (case c28 => k_is)
    (case k28 => k_is)
    (case a29 => k_is)
    (case l29 => k_is)
    (case c29 => k_is)
    (case k29 => k_is)
    (case a30 => k_is)
    (case l30 => k_is)
    (case c30 => k_is)
    (case k30 => k_is)
    (case a31 => k_is)
    (case l31 => k_is)
    (case c31 => k_is)
    (case k31 => k_is)
    (case a32 => k_is)
    (case l32 => k_is)
    (case c32 => k_is)
    (case k32 => k_is)
    (case a33 => k_is)
    (case l33 => k_is)
    (case c33 => k_is)
    (case k33 => k_is)
    (case a34 => k_is)
    (case l34 => k_is)
    (case c34 => k_is)
    (case k34 => k_is)
    (case a35 => k_is)
    (case l35 => k_is)
    (case c35 => k_is)
    (case k35 => k_is)
    (case a36 => k_is)
    (case l36 => k_is)
    (case c36 => k_is)
    (case k36 => k_is)
    (case a37 => k_is)
    (case l37 => k_is)
    (case c37 => k_is)
    (case k37 => k_is)
    (case a38 => k_is)
    (case l38 => k_is)
    (case c38 => k_is)
    (case k38 => k_is)
    (case a39 => k_is)
    (case l39 => k_is)
    (case c39 => k_is)
    (case k39 => k_is)
    (case a40 => k_is)
    (case l40 => k_is)
    (case c40 => k_is)
    (case k40 => k_is)
    (case a41 => k_is)
    (case l41 => k_is)
    (case c41 => k_is)
    (case k41 => k_is)
    (case a42 => k_is)
    (case l42 => k_is)
    (case c42 => k_is)
    (case k42 => k_is)
    (case a43 => k_is)
    (case l43 => k_is)
    (case c43 => k_is)
    (case k43 => k_is)
    (case a44 => k_is)
    (case l44 => k_is)
    (case c44 => k_is)
    (case k44 => k_is)
    (case a45 => k_is)
    (case l45 => k_is)
    (case c45 => k_is)
    (case k45 => k_is)
    (case a46 => k_is)
    (case l46 => k_is)
    (case c46 => k_is)
    (case k46 => k_is)
    (case a47 => k_is)
    (case l47 => k_is)
    (case c47 => k_is)
    (case k47 => k_is)
    (case a48 => k_is)
    (case l48 => k_is)
    (case c48 => k_is)
    (case k48 => k_is)
    (case aC => k_is)
    (case aI => k_is)
    (case iI => k_is)
    (case lI => k_is)
    (case cI => k_is)
    (case kI => k_is)
    (case pg => k_is)
    (case hd => k_is)
    (case po => k_is)
    (case sa => k_is)
    (case mk => k_is)
    (case kc => k_is)
    (case n_top => k_is)
    (case n_blocks => k_is)
    (case b_len => k_is)
    (case b_range => k_is)
    (case b_enumerate => k_is)
    (case b_sum => k_is)
    (case b_min => k_is)
    (case b_max => k_is)
    (case b_list => k_is)
    (case g_MOST_POINTS => k_is)
    (case g_MOST_BLOCKS => k_is)
    (case g_MOST_EVEN => k_is)
    (case g_WRONG_POINTS => k_is)
    (case g_NO_BLOCK => k_is)
    (case g_NO_WAY => k_is)
    (case g_TOO_MANY => k_is)
    (case g_NO_POINT_LEFT => k_is)
    (case g_NOT_ALIKE => k_is)
    (case g_NO_POINTS_IN_BLOCK => k_is)
    (case g_ROW_CALLS => k_is)
    (case l_ROW_CALLS => k_is)
    (case g_NUMBER_CALLS => k_is)
    (case l_NUMBER_CALLS => k_is)
    (case gT => k_is)
    (case lT => k_is)
  case S =>
    intro K H xs a hO hwi hask hx
    cases hx with
    | cons h1 h2 =>
      cases h2
      cases h1 with
      | lst hs ha =>
        have e := L2.ints_dw a.1 _ ha
        subst e
        have q : ((Codec.inLen 0 1280 a.1 && a.1.all (Codec.inInt 0 4294967295)) && true) = true := hwi
        rw [Bool.and_eq_true, Bool.and_eq_true] at q
        refine ⟨_, a.1, rfl, hs, fun x hx => ?_, hask, fun H' p hp => .lst (L2.SqL.of hp) (L2.dw_ints _)⟩
        have z := List.all_eq_true.mp q.1.2 x hx
        exact Codec.inInt_iff.mp z
