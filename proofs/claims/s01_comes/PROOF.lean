import PyProof.Rows.All
import Wide.All
import OpenK.AllK
import Wide.FinOn
import Open.SpecLaws
import KE.OsGo
import HandS.ForSpec
import HandS.Comp
import HandS.Iter
import HandS.Text
import PySem.Challenge.RW_whocomes_s01_comes
set_option Elab.async false
set_option maxRecDepth 100000
set_option maxHeartbeats 2000000
namespace Wc
open Kzf1 (net knows has bits okNet Net)
open Kzf2 (stays among round size roundsOn rounds core everybody)

/-! ## bits -/
theorem has_eq (m i : Nat) : has m i = m.testBit i := by
  unfold Kzf1.has
  rw [Nat.testBit_eq_decide_div_mod_eq]
  by_cases h : m / 2 ^ i % 2 = 1
  · rw [h]; rfl
  · rw [decide_eq_false h]
    exact beq_eq_false_iff_ne.mpr h

theorem bits_snoc (l : List Nat) (i : Nat) : bits (l ++ [i]) = bits l + 2 ^ i := by
  unfold Kzf1.bits
  rw [List.foldl_append]
  rfl

theorem bits_range (p : Nat → Bool) : ∀ n : Nat, bits ((List.range n).filter p) < 2 ^ n ∧ ∀ j, (bits ((List.range n).filter p)).testBit j = (decide (j < n) && p j)
  | 0 => by
    refine ⟨Nat.two_pow_pos 0, fun j => ?_⟩
    show (0 : Nat).testBit j = _
    simp
  | n + 1 => by
    obtain ⟨h1, h2⟩ := bits_range p n
    rw [List.range_succ, List.filter_append]
    by_cases c : p n = true
    · have e : ([n].filter p) = [n] := by simp [c]
      rw [e, bits_snoc]
      have hlt : bits ((List.range n).filter p) + 2 ^ n < 2 ^ (n + 1) := by
        rw [Nat.pow_succ]; omega
      refine ⟨hlt, fun j => ?_⟩
      rw [Nat.add_comm]
      rcases Nat.lt_trichotomy j n with hj | hj | hj
      · rw [Nat.testBit_two_pow_add_gt hj, h2]
        simp [hj, Nat.lt_succ_of_lt hj]
      · subst hj
        rw [Nat.testBit_two_pow_add_eq, Nat.testBit_lt_two_pow h1]
        simp [c]
      · rw [Nat.add_comm, Nat.testBit_lt_two_pow (Nat.lt_of_lt_of_le hlt (Nat.pow_le_pow_right (by decide) hj))]
        have : ¬ j < n + 1 := by omega
        simp [this]
    · have e : ([n].filter p) = [] := by simp [c]
      rw [e, List.append_nil]
      refine ⟨Nat.lt_of_lt_of_le h1 (Nat.pow_le_pow_right (by decide) (Nat.le_succ n)), fun j => ?_⟩
      rw [h2]
      by_cases hj : j = n
      · subst hj; simp [c]
      · by_cases hl : j < n
        · simp [hl, Nat.lt_succ_of_lt hl]
        · have : ¬ j < n + 1 := by omega
          simp [hl, this]

/-- taking away a subset -/
theorem sub_bits : ∀ (m l : Nat), (∀ j, l.testBit j = true → m.testBit j = true) → l ≤ m ∧ ∀ j, (m - l).testBit j = (m.testBit j && !l.testBit j) := by
  intro m
  induction m using Nat.strongRecOn with
  | _ m ih =>
    intro l h
    by_cases m0 : m = 0
    · subst m0
      have l0 : l = 0 := by
        refine Nat.eq_of_testBit_eq fun j => ?_
        rw [Nat.zero_testBit]
        cases e : l.testBit j with
        | false => rfl
        | true => have := h j e; rw [Nat.zero_testBit] at this; cases this
      subst l0
      exact ⟨Nat.le_refl 0, fun j => by simp⟩
    · have hh : ∀ j, (l / 2).testBit j = true → (m / 2).testBit j = true := fun j hj => by
        rw [← Nat.testBit_succ] at hj ⊢
        exact h _ hj
      obtain ⟨h1, h2⟩ := ih (m / 2) (by omega) (l / 2) hh
      have b0 : l % 2 ≤ m % 2 := by
        have := h 0
        rw [Nat.testBit_zero, Nat.testBit_zero, decide_eq_true_iff, decide_eq_true_iff] at this
        omega
      refine ⟨by omega, fun j => ?_⟩
      cases j with
      | zero =>
        rw [Nat.testBit_zero, Nat.testBit_zero, Nat.testBit_zero]
        have e : (m - l) % 2 = m % 2 - l % 2 := by omega
        rw [e]
        rcases Nat.mod_two_eq_zero_or_one m with a | a <;> rcases Nat.mod_two_eq_zero_or_one l with b | b <;> rw [a, b] <;> first | rfl | omega
      | succ j =>
        rw [Nat.testBit_succ, Nat.testBit_succ, Nat.testBit_succ]
        have e : (m - l) / 2 = m / 2 - l / 2 := by omega
        rw [e]
        exact h2 j

theorem everybody_bits (n j : Nat) : (everybody n).testBit j = decide (j < n) := by
  unfold Kzf2.everybody
  exact Nat.testBit_two_pow_sub_one n j

/-! ## counting -/
def cnt (n : Nat) (p : Nat → Bool) : Nat := ((List.range n).filter p).length
theorem cnt_succ (n : Nat) (p : Nat → Bool) : cnt (n + 1) p = cnt n p + (if p n = true then 1 else 0) := by
  unfold cnt
  rw [List.range_succ, List.filter_append, List.length_append]
  by_cases c : p n = true
  · simp [c]
  · simp [c]
theorem cnt_congr {p q : Nat → Bool} : ∀ n : Nat, (∀ j, j < n → p j = q j) → cnt n p = cnt n q
  | 0, _ => rfl
  | n + 1, h => by
    rw [cnt_succ, cnt_succ, cnt_congr n (fun j hj => h j (Nat.lt_succ_of_lt hj)), h n (Nat.lt_succ_self n)]
theorem cnt_more {p : Nat → Bool} {n : Nat} (h : ∀ j, n ≤ j → p j = false) : ∀ d : Nat, cnt (n + d) p = cnt n p
  | 0 => rfl
  | d + 1 => by
    rw [← Nat.add_assoc, cnt_succ, cnt_more h d, h (n + d) (Nat.le_add_right n d)]
    rfl
theorem cnt_le {p : Nat → Bool} {n N : Nat} (hn : n ≤ N) (h : ∀ j, n ≤ j → p j = false) : cnt N p = cnt n p := by
  have e : N = n + (N - n) := by omega
  rw [e]
  exact cnt_more h _
theorem cnt_mono {p q : Nat → Bool} : ∀ n : Nat, (∀ j, j < n → p j = true → q j = true) → cnt n p ≤ cnt n q
  | 0, _ => Nat.le_refl _
  | n + 1, h => by
    rw [cnt_succ, cnt_succ]
    have i := cnt_mono n (fun j hj => h j (Nat.lt_succ_of_lt hj))
    have := h n (Nat.lt_succ_self n)
    by_cases c : p n = true
    · rw [if_pos c, if_pos (this c)]; omega
    · rw [if_neg c]; omega
theorem cnt_lt {p q : Nat → Bool} : ∀ n : Nat, (∀ j, j < n → p j = true → q j = true) → (∃ j, j < n ∧ q j = true ∧ p j = false) → cnt n p < cnt n q
  | 0, _, ⟨j, hj, _⟩ => absurd hj (Nat.not_lt_zero j)
  | n + 1, h, ⟨j, hj, hq, hp⟩ => by
    rw [cnt_succ, cnt_succ]
    have hh : ∀ j, j < n → p j = true → q j = true := fun j hj => h j (Nat.lt_succ_of_lt hj)
    have i := cnt_mono n hh
    have t := h n (Nat.lt_succ_self n)
    by_cases e : j = n
    · subst e
      rw [if_pos hq, if_neg (by rw [hp]; decide)]
      omega
    · have i2 := cnt_lt n hh ⟨j, by omega, hq, hp⟩
      by_cases c : p n = true
      · rw [if_pos c, if_pos (t c)]; omega
      · rw [if_neg c]; omega
theorem cnt_all (n : Nat) (p : Nat → Bool) (h : ∀ j, j < n → p j = true) : cnt n p = n := by
  induction n with
  | zero => rfl
  | succ n ih => rw [cnt_succ, ih (fun j hj => h j (Nat.lt_succ_of_lt hj)), if_pos (h n (Nat.lt_succ_self n))]
theorem cnt_le_n (n : Nat) (p : Nat → Bool) : cnt n p ≤ n := by
  have := cnt_mono (p := p) (q := fun _ => true) n (fun _ _ _ => rfl)
  rw [cnt_all n (fun _ => true) (fun _ _ => rfl)] at this
  exact this
/-- as the program counts: a sum of bits -/
theorem cnt_sum (p : Nat → Bool) : ∀ n : Nat, ((List.range n).map fun j => if p j = true then (1 : Int) else 0).sum = (cnt n p : Int)
  | 0 => rfl
  | n + 1 => by
    rw [List.range_succ, List.map_append, List.sum_append, cnt_sum p n, cnt_succ]
    by_cases c : p n = true
    · simp [c]
    · simp [c]

theorem size_cnt (n m : Nat) : size n m = cnt n m.testBit := by
  unfold Kzf2.size cnt
  exact congrArg List.length (List.filter_congr fun j _ => has_eq m j)
theorem among_cnt (n : Nat) (g : Net) (m i : Nat) : among n g m i = cnt n (fun j => m.testBit j && knows g i j) := by
  unfold Kzf2.among cnt
  exact congrArg List.length (List.filter_congr fun j _ => by rw [has_eq])

/-! ## rounds -/
/-- who can't come: in m, not sure, fewer than k known -/
def cant (n k : Nat) (g : Net) (a m i : Nat) : Bool := m.testBit i && !(a.testBit i) && decide (among n g m i < k)
theorem stays_cant (n k : Nat) (g : Net) (a m i : Nat) : stays n k g a m i = (m.testBit i && !(cant n k g a m i)) := by
  unfold Kzf2.stays cant
  rw [has_eq, has_eq]
  cases m.testBit i <;> cases a.testBit i <;> simp
  by_cases c : k ≤ among n g m i
  · rw [decide_eq_true c]; symm; simpa using c
  · rw [decide_eq_false c]; symm; simpa using c

theorem round_bits (n k : Nat) (g : Net) (a m j : Nat) : (round n k g a m).testBit j = (decide (j < n) && stays n k g a m j) := (bits_range _ n).2 j
theorem round_lt (n k : Nat) (g : Net) (a m : Nat) : round n k g a m < 2 ^ n := (bits_range _ n).1

theorem tb_lt {m n j : Nat} (h : m < 2 ^ n) (hj : n ≤ j) : m.testBit j = false :=
  Nat.testBit_lt_two_pow (Nat.lt_of_lt_of_le h (Nat.pow_le_pow_right (by decide) hj))

/-- L holds those of the n guests who can't come -/
def IsL (n k : Nat) (g : Net) (a m L : Nat) : Prop := ∀ j, L.testBit j = (decide (j < n) && cant n k g a m j)
theorem IsL.sub {n k : Nat} {g : Net} {a m L : Nat} (hm : m < 2 ^ n) (h : IsL n k g a m L) : L ≤ m ∧ m - L = round n k g a m := by
  have s : ∀ j, L.testBit j = true → m.testBit j = true := fun j hj => by
    rw [h j] at hj
    unfold cant at hj
    simp only [Bool.and_eq_true] at hj
    exact hj.2.1.1
  obtain ⟨h1, h2⟩ := sub_bits m L s
  refine ⟨h1, Nat.eq_of_testBit_eq fun j => ?_⟩
  rw [h2, h, round_bits, stays_cant]
  by_cases c : j < n
  · simp [c]
  · rw [tb_lt hm (Nat.le_of_not_lt c)]; simp [c]

theorem round_size {n k : Nat} {g : Net} {a m L : Nat} (h : IsL n k g a m L) (h0 : 0 < L) : size n (round n k g a m) < size n m := by
  obtain ⟨j, hj⟩ : ∃ j, L.testBit j = true := by
    refine Classical.byContradiction fun no => ?_
    have : L = 0 := Nat.eq_of_testBit_eq fun j => by
      rw [Nat.zero_testBit]
      cases e : L.testBit j with
      | false => rfl
      | true => exact absurd ⟨j, e⟩ no
    omega
  rw [size_cnt, size_cnt]
  have hj2 := hj
  rw [h j, Bool.and_eq_true, decide_eq_true_iff] at hj2
  refine cnt_lt n (fun i hi hr => ?_) ⟨j, hj2.1, ?_, ?_⟩
  · rw [round_bits, stays_cant] at hr
    simp only [Bool.and_eq_true] at hr
    exact hr.2.1
  · have := hj2.2
    unfold cant at this
    simp only [Bool.and_eq_true] at this
    exact this.1.1
  · rw [round_bits, stays_cant, hj2.2]; simp

/-- what stands between two turns of the loop -/
def Run (n k : Nat) (g : Net) (a r m : Nat) : Prop := m < 2 ^ n ∧ ∃ f, size n m ≤ f ∧ rounds n k g a = (r + (roundsOn n k g a f m).1, (roundsOn n k g a f m).2)
theorem Run.start (n k : Nat) (g : Net) (a : Nat) : Run n k g a 0 (everybody n) := by
  refine ⟨?_, n, ?_, ?_⟩
  · have := Nat.two_pow_pos n
    unfold Kzf2.everybody
    omega
  · rw [size_cnt]
    exact cnt_le_n n _
  · unfold Kzf2.rounds
    rw [Nat.zero_add]
theorem roundsOn_stop {n k : Nat} {g : Net} {a m : Nat} (h : round n k g a m = m) : ∀ f, roundsOn n k g a f m = (0, m)
  | 0 => rfl
  | f + 1 => by
    show (if round n k g a m = m then (0, m) else _) = _
    rw [if_pos h]
theorem roundsOn_go {n k : Nat} {g : Net} {a m f : Nat} (h : round n k g a m ≠ m) : roundsOn n k g a (f + 1) m = ((roundsOn n k g a f (round n k g a m)).1 + 1, (roundsOn n k g a f (round n k g a m)).2) := by
  show (if round n k g a m = m then (0, m) else _) = _
  rw [if_neg h]
theorem Run.stop {n k : Nat} {g : Net} {a r m : Nat} (h : Run n k g a r m) (hL : IsL n k g a m 0) : rounds n k g a = (r, m) := by
  obtain ⟨hm, f, _, e⟩ := h
  have s := (hL.sub hm).2
  rw [e, roundsOn_stop (by rw [← s]; rfl)]
  rfl
theorem Run.go {n k : Nat} {g : Net} {a r m L : Nat} (h : Run n k g a r m) (hL : IsL n k g a m L) (h0 : 0 < L) : Run n k g a (r + 1) (m - L) := by
  obtain ⟨hm, f, hf, e⟩ := h
  obtain ⟨s1, s2⟩ := hL.sub hm
  have sz := round_size hL h0
  have ne : round n k g a m ≠ m := by
    rw [← s2]
    omega
  cases f with
  | zero => omega
  | succ f =>
    rw [roundsOn_go ne] at e
    rw [s2]
    refine ⟨round_lt _ _ _ _ _, f, by omega, ?_⟩
    rw [e]
    show (r + ((roundsOn n k g a f (round n k g a m)).1 + 1), _) = _
    rw [Nat.add_assoc, Nat.add_comm 1]

/-! ## the pairs -/
/-- the pairs of a list of whole numbers -/
def prs : List Int → List (Int × Int)
  | a :: b :: l => (a, b) :: prs l
  | _ => []
theorem prs_at : ∀ (xs : List Int) (i : Nat) (x y : Int), xs[2 * i]? = some x → xs[2 * i + 1]? = some y → (prs xs)[i]? = some (x, y)
  | [], i, x, y, h, _ => by simp at h
  | [a], i, x, y, _, h => by simp at h
  | a :: b :: l, 0, x, y, h, h' => by
    have e1 : a = x := by simpa using h
    have e2 : b = y := by simpa using h'
    subst e1 e2
    rfl
  | a :: b :: l, i + 1, x, y, h, h' => by
    have e : 2 * (i + 1) = 2 * i + 1 + 1 := by omega
    rw [e] at h h'
    show (prs l)[i]? = _
    exact prs_at l i x y (by simpa using h) (by simpa using h')
theorem prs_len : ∀ (xs : List Int), (prs xs).length = xs.length / 2
  | [] => rfl
  | [a] => by show 0 = 1 / 2; decide
  | a :: b :: l => by
    show (prs l).length + 1 = (l.length + 1 + 1) / 2
    rw [prs_len l]
    omega
theorem net_prs : ∀ (xs : List Int), net (xs.map Int.toNat) = (prs xs).map fun e => (e.1.toNat, e.2.toNat)
  | [] => rfl
  | [a] => rfl
  | a :: b :: l => by
    show (a.toNat, b.toNat) :: net (l.map Int.toNat) = _
    rw [net_prs l]
    rfl
/-- a pair that is none of n guests -/
def badPair (n : Int) (e : Int × Int) : Bool := decide (e.1 = e.2) || decide (n ≤ e.1) || decide (n ≤ e.2)
def goodList (n : Int) (xs : List Int) : Bool := decide (xs.length % 2 = 0) && decide (xs.length ≤ 56) && (prs xs).all fun e => !badPair n e
theorem prs_mem : ∀ (xs : List Int) (P : Int → Prop), (∀ x ∈ xs, P x) → ∀ e ∈ prs xs, P e.1 ∧ P e.2
  | [], _, _, _, he => by cases he
  | [a], _, _, _, he => by cases he
  | a :: b :: l, P, h, e, he => by
    rcases List.mem_cons.mp he with rfl | he
    · exact ⟨h a (by simp), h b (by simp)⟩
    · exact prs_mem l P (fun x hx => h x (by simp [hx])) e he
/-- as the specification asks -/
theorem good_is (n : Int) (xs : List Int) (h0 : ∀ x ∈ xs, 0 ≤ x) : Kzf1.good n.toNat (xs.map Int.toNat) = (decide (1 ≤ n) && decide (n ≤ 8) && goodList n xs) := by
  unfold Kzf1.good Kzf1.okNet goodList
  rw [net_prs, List.length_map, List.length_map, prs_len, List.all_map]
  have e : ((fun e : Nat × Nat => decide (e.1 < n.toNat) && decide (e.2 < n.toNat) && e.1 != e.2) ∘ fun e : Int × Int => (e.1.toNat, e.2.toNat)) = fun e : Int × Int => decide (e.1.toNat < n.toNat) && decide (e.2.toNat < n.toNat) && e.1.toNat != e.2.toNat := rfl
  rw [e]
  have a : (prs xs).all (fun e : Int × Int => decide (e.1.toNat < n.toNat) && decide (e.2.toNat < n.toNat) && e.1.toNat != e.2.toNat) = (prs xs).all fun e => !badPair n e := by
    have key : ∀ e ∈ prs xs, (decide (e.1.toNat < n.toNat) && decide (e.2.toNat < n.toNat) && e.1.toNat != e.2.toNat) = !badPair n e := fun e he => by
      obtain ⟨p1, p2⟩ := prs_mem xs (fun x => 0 ≤ x) h0 e he
      obtain ⟨x, y⟩ := e
      simp only at p1 p2
      unfold badPair
      rw [Bool.eq_iff_iff]
      simp only [Bool.and_eq_true, decide_eq_true_iff, bne_iff_ne, ne_eq, Bool.not_eq_true', Bool.or_eq_false_iff, decide_eq_false_iff_not]
      omega
    rw [Bool.eq_iff_iff, List.all_eq_true, List.all_eq_true]
    exact ⟨fun h e he => by rw [← key e he]; exact h e he, fun h e he => by rw [key e he]; exact h e he⟩
  rw [a]
  rw [Bool.eq_iff_iff]
  simp only [Bool.and_eq_true, decide_eq_true_iff]
  constructor
  · rintro ⟨h1, ⟨⟨h2, h3⟩, h4⟩, h5⟩
    exact ⟨⟨by omega, by omega⟩, ⟨h1, by omega⟩, h5⟩
  · rintro ⟨⟨h2, h3⟩, ⟨h1, h4⟩, h5⟩
    exact ⟨h1, ⟨⟨by omega, by omega⟩, by omega⟩, h5⟩

/-- one pair more -/
def told (e : Int × Int) (i j : Nat) : Bool := (decide (e.1 = (i : Int)) && decide (e.2 = (j : Int))) || (decide (e.1 = (j : Int)) && decide (e.2 = (i : Int)))
def knows' (l : List (Int × Int)) (i j : Nat) : Bool := l.any fun e => told e i j
theorem knows_is (n : Int) (xs : List Int) (h0 : ∀ x ∈ xs, 0 ≤ x) (hg : goodList n xs = true) (i j : Nat) : knows (net (xs.map Int.toNat)) i j = knows' (prs xs) i j := by
  unfold Kzf1.knows knows'
  rw [net_prs, List.any_map]
  unfold goodList at hg
  rw [Bool.and_eq_true, List.all_eq_true] at hg
  rw [Bool.eq_iff_iff]
  simp only [Bool.and_eq_true, List.any_eq_true, bne_iff_ne, ne_eq, Function.comp, told, Bool.or_eq_true, beq_iff_eq, decide_eq_true_iff]
  constructor
  · rintro ⟨hij, e, he, h⟩
    obtain ⟨p1, p2⟩ := prs_mem xs (fun x => 0 ≤ x) h0 e he
    exact ⟨e, he, by omega⟩
  · rintro ⟨e, he, h⟩
    obtain ⟨p1, p2⟩ := prs_mem xs (fun x => 0 ≤ x) h0 e he
    have b := hg.2 e he
    unfold badPair at b
    simp only [Bool.not_eq_true', Bool.or_eq_false_iff, decide_eq_false_iff_not] at b
    exact ⟨by omega, e, he, by omega⟩
theorem take_more {α : Type} {l : List α} {i : Nat} {x : α} (h : l[i]? = some x) : l.take (i + 1) = l.take i ++ [x] := by
  rw [List.take_add_one, h, Option.toList_some]
/-- what the list of those known holds, told so far -/
def KnownIs (n : Nat) (l : List (Int × Int)) (kn : List Nat) : Prop := kn.length = n ∧ ∀ i K, kn[i]? = some K → ∀ j, K.testBit j = knows' l i j
theorem KnownIs.start (n : Nat) : KnownIs n [] (List.replicate n 0) := by
  refine ⟨List.length_replicate, fun i K h j => ?_⟩
  rw [List.getElem?_replicate] at h
  split at h
  · cases h
    rw [Nat.zero_testBit]
    rfl
  · cases h
/-- one pair more: first one's, then the other's -/
theorem KnownIs.more {n : Nat} {l : List (Int × Int)} {kn : List Nat} (h : KnownIs n l kn) {x y : Nat} (hx : x < n) (hy : y < n) {A B : Nat} (hA : kn[x]? = some A) (hB : kn[y]? = some B) :
    KnownIs n (l ++ [((x : Int), (y : Int))]) ((kn.set x (A ||| 1 <<< y)).set y (B ||| 1 <<< x)) := by
  obtain ⟨h1, h2⟩ := h
  refine ⟨by rw [List.length_set, List.length_set, h1], fun i K hK j => ?_⟩
  have e : knows' (l ++ [((x : Int), (y : Int))]) i j = (knows' l i j || told ((x : Int), (y : Int)) i j) := by
    unfold knows'
    rw [List.any_append]
    simp
  rw [e]
  have tb : ∀ z : Nat, (1 <<< z).testBit j = decide (z = j) := fun z => by
    rw [Nat.one_shiftLeft, Nat.testBit_two_pow]
  rw [List.getElem?_set, List.getElem?_set, List.length_set, h1] at hK
  by_cases c : y = i
  · subst c
    rw [if_pos rfl, if_pos hy] at hK
    cases hK
    rw [Nat.testBit_or, h2 y B hB, tb]
    congr 1
    unfold told
    rw [Bool.eq_iff_iff]
    simp only [Bool.or_eq_true, Bool.and_eq_true, decide_eq_true_iff, and_true]
    constructor <;> intro h <;> omega
  · rw [if_neg c] at hK
    by_cases c2 : x = i
    · subst c2
      rw [if_pos rfl, if_pos hx] at hK
      cases hK
      rw [Nat.testBit_or, h2 x A hA, tb]
      congr 1
      unfold told
      rw [Bool.eq_iff_iff]
      simp only [Bool.or_eq_true, Bool.and_eq_true, decide_eq_true_iff, true_and]
      constructor <;> intro h <;> omega
    · rw [if_neg c2] at hK
      rw [h2 i K hK]
      have f : told ((x : Int), (y : Int)) i j = false := by
        unfold told
        rw [Bool.eq_false_iff]
        simp only [ne_eq, Bool.or_eq_true, Bool.and_eq_true, decide_eq_true_iff]
        omega
      rw [f, Bool.or_false]
end Wc
namespace Wc
open Kzf1 (net knows has bits okNet Net)
open Kzf2 (stays among round size roundsOn rounds core everybody)
/-! ## the answers -/
theorem comes_is (n k a : Int) (xs : List Int) : PyKzf2.comes n k a xs = (if Kzf2.good n.toNat (xs.map Int.toNat) = false ∨ 8 < k.toNat ∨ 2 ^ n.toNat ≤ a.toNat then [-22]
    else [((size n.toNat (core n.toNat k.toNat (net (xs.map Int.toNat)) a.toNat) : Nat) : Int), ((core n.toNat k.toNat (net (xs.map Int.toNat)) a.toNat : Nat) : Int), (((rounds n.toNat k.toNat (net (xs.map Int.toNat)) a.toNat).1 : Nat) : Int)] : List Int) := by
  show (let x := Kzf2.answer (.comes n.toNat k.toNat a.toNat (xs.map Int.toNat)); x.value :: Kzf2Neutral.ints x.nums) = _
  unfold Kzf2.answer
  dsimp only
  split <;> rfl
/-- all that is handed in is as told -/
def Told (n k a : Int) (xs : List Int) : Prop := (1 ≤ n ∧ n ≤ 8 ∧ goodList n xs = true) ∧ k ≤ 8 ∧ a < 2 ^ n.toNat
theorem pow_int (n : Nat) : ((2 ^ n : Nat) : Int) = 2 ^ n := by
  induction n with
  | zero => rfl
  | succ n ih => rw [Nat.pow_succ, Int.pow_succ, Int.natCast_mul, ih]; rfl
theorem told_iff (n k a : Int) (xs : List Int) (h0 : ∀ x ∈ xs, 0 ≤ x) (hk : 0 ≤ k) (ha : 0 ≤ a) :
    (Kzf2.good n.toNat (xs.map Int.toNat) = false ∨ 8 < k.toNat ∨ 2 ^ n.toNat ≤ a.toNat) ↔ ¬ Told n k a xs := by
  unfold Told Kzf2.good
  rw [good_is n xs h0, Bool.and_eq_false_iff, Bool.and_eq_false_iff, decide_eq_false_iff_not, decide_eq_false_iff_not]
  have e := pow_int n.toNat
  rw [← e]
  generalize (2 : Nat) ^ n.toNat = p
  cases goodList n xs <;> simp <;> omega
theorem comes_bad {n k a : Int} {xs : List Int} (h0 : ∀ x ∈ xs, 0 ≤ x) (hk : 0 ≤ k) (ha : 0 ≤ a) (h : ¬ Told n k a xs) : PyKzf2.comes n k a xs = [-22] := by
  rw [comes_is, if_pos ((told_iff n k a xs h0 hk ha).mpr h)]
theorem comes_good {n k a : Int} {xs : List Int} (h0 : ∀ x ∈ xs, 0 ≤ x) (hk : 0 ≤ k) (ha : 0 ≤ a) (h : Told n k a xs) {r m : Nat} (e : rounds n.toNat k.toNat (net (xs.map Int.toNat)) a.toNat = (r, m)) :
    PyKzf2.comes n k a xs = [((size n.toNat m : Nat) : Int), (m : Int), (r : Int)] := by
  rw [comes_is, if_neg (fun q => (told_iff n k a xs h0 hk ha).mp q h)]
  unfold Kzf2.core
  rw [e]
end Wc
namespace Wc
open Kzf1 (net knows has bits okNet Net)
open Kzf2 (stays among round size roundsOn rounds core everybody lastOn)
/-! ## one by one -/
theorem cant_test (n k : Nat) (g : Net) (a m i : Nat) : (has m i && !(stays n k g a m i)) = cant n k g a m i := by
  rw [stays_cant, has_eq]
  cases h : m.testBit i
  · unfold cant; rw [h]; rfl
  · simp
/-- what stands between two who cancel -/
def RunC (n k : Nat) (g : Net) (a : Nat) (r : List Nat) (m : Nat) : Prop := m < 2 ^ n ∧ r.length + size n m ≤ n ∧ ∃ f, size n m ≤ f ∧ Kzf2.cancels n k g a = r ++ lastOn n k g a f m
theorem RunC.start (n k : Nat) (g : Net) (a : Nat) : RunC n k g a [] (everybody n) := by
  have sz : size n (everybody n) ≤ n := by
    rw [size_cnt]
    exact cnt_le_n n _
  refine ⟨?_, ?_, n, sz, rfl⟩
  · have := Nat.two_pow_pos n
    unfold Kzf2.everybody
    omega
  · rw [List.length_nil]
    omega
theorem lastOn_stop {n k : Nat} {g : Net} {a m : Nat} (h : IsL n k g a m 0) : ∀ f, lastOn n k g a f m = []
  | 0 => rfl
  | f + 1 => by
    have e : ((List.range n).find? fun i => has m i && !(stays n k g a m i)) = none := by
      rw [List.find?_eq_none]
      intro j hj
      have := h j
      rw [Nat.zero_testBit, decide_eq_true (List.mem_range.mp hj), Bool.true_and] at this
      rw [cant_test, ← this]
      decide
    show (match (List.range n).find? fun i => has m i && !(stays n k g a m i) with
      | none => []
      | some i => i :: lastOn n k g a f (m - 2 ^ i)) = []
    rw [e]
theorem lastOn_go {n k : Nat} {g : Net} {a m L i f : Nat} (h : IsL n k g a m L) (hi : L.testBit i = true) (least : ∀ j, j < i → L.testBit j = false) : lastOn n k g a (f + 1) m = i :: lastOn n k g a f (m - 2 ^ i) := by
  have hn : i < n ∧ cant n k g a m i = true := by
    have := h i
    rw [hi, eq_comm, Bool.and_eq_true, decide_eq_true_iff] at this
    exact this
  have e : ((List.range n).find? fun i => has m i && !(stays n k g a m i)) = some i := by
    rw [List.find?_range_eq_some]
    refine ⟨by rw [cant_test]; exact hn.2, List.mem_range.mpr hn.1, fun j hj => ?_⟩
    have l := least j hj
    rw [h j, decide_eq_true (Nat.lt_trans hj hn.1), Bool.true_and] at l
    rw [cant_test, l]
    rfl
  show (match (List.range n).find? fun i => has m i && !(stays n k g a m i) with
    | none => []
    | some i => i :: lastOn n k g a f (m - 2 ^ i)) = _
  rw [e]
theorem sub_one {m i : Nat} (h : m.testBit i = true) : 2 ^ i ≤ m ∧ ∀ j, (m - 2 ^ i).testBit j = (m.testBit j && !decide (i = j)) := by
  have s : ∀ j, (2 ^ i).testBit j = true → m.testBit j = true := fun j hj => by
    rw [Nat.testBit_two_pow, decide_eq_true_iff] at hj
    subst hj
    exact h
  obtain ⟨h1, h2⟩ := sub_bits m (2 ^ i) s
  refine ⟨h1, fun j => ?_⟩
  rw [h2, Nat.testBit_two_pow]
theorem RunC.stop {n k : Nat} {g : Net} {a m : Nat} {r : List Nat} (h : RunC n k g a r m) (hL : IsL n k g a m 0) : Kzf2.cancels n k g a = r := by
  obtain ⟨_, _, f, _, e⟩ := h
  rw [e, lastOn_stop hL, List.append_nil]
theorem RunC.go {n k : Nat} {g : Net} {a m L i : Nat} {r : List Nat} (h : RunC n k g a r m) (hL : IsL n k g a m L) (hi : L.testBit i = true) (least : ∀ j, j < i → L.testBit j = false) : 2 ^ i ≤ m ∧ RunC n k g a (r ++ [i]) (m - 2 ^ i) := by
  obtain ⟨hm, hr, f, hf, e⟩ := h
  have hn : i < n ∧ cant n k g a m i = true := by
    have := hL i
    rw [hi, eq_comm, Bool.and_eq_true, decide_eq_true_iff] at this
    exact this
  have mi : m.testBit i = true := by
    have := hn.2
    unfold cant at this
    simp only [Bool.and_eq_true] at this
    exact this.1.1
  obtain ⟨s1, s2⟩ := sub_one mi
  have sz : size n (m - 2 ^ i) < size n m := by
    rw [size_cnt, size_cnt]
    refine cnt_lt n (fun j _ hj => ?_) ⟨i, hn.1, mi, ?_⟩
    · rw [s2, Bool.and_eq_true] at hj
      exact hj.1
    · rw [s2]; simp
  refine ⟨s1, Nat.lt_of_le_of_lt (Nat.sub_le _ _) hm, by rw [List.length_append, List.length_singleton]; omega, ?_⟩
  cases f with
  | zero => omega
  | succ f =>
    refine ⟨f, by omega, ?_⟩
    rw [e, lastOn_go hL hi least, List.append_assoc]
    rfl
theorem cancels_is (n k a : Int) (xs : List Int) : PyKzf2.cancels n k a xs = (if Kzf2.good n.toNat (xs.map Int.toNat) = false ∨ 8 < k.toNat ∨ 2 ^ n.toNat ≤ a.toNat then [-22]
    else (((Kzf2.cancels n.toNat k.toNat (net (xs.map Int.toNat)) a.toNat).length : Nat) : Int) :: (Kzf2.cancels n.toNat k.toNat (net (xs.map Int.toNat)) a.toNat).map fun (x : Nat) => (x : Int)) := by
  show (let x := Kzf2.answer (.cancels n.toNat k.toNat a.toNat (xs.map Int.toNat)); x.value :: Kzf2Neutral.ints x.nums) = _
  unfold Kzf2.answer
  dsimp only
  split <;> rfl
theorem cancels_bad {n k a : Int} {xs : List Int} (h0 : ∀ x ∈ xs, 0 ≤ x) (hk : 0 ≤ k) (ha : 0 ≤ a) (h : ¬ Told n k a xs) : PyKzf2.cancels n k a xs = [-22] := by
  rw [cancels_is, if_pos ((told_iff n k a xs h0 hk ha).mpr h)]
theorem cancels_good {n k a : Int} {xs : List Int} (h0 : ∀ x ∈ xs, 0 ≤ x) (hk : 0 ≤ k) (ha : 0 ≤ a) (h : Told n k a xs) {r : List Nat} (e : Kzf2.cancels n.toNat k.toNat (net (xs.map Int.toNat)) a.toNat = r) :
    PyKzf2.cancels n k a xs = ((r.length : Nat) : Int) :: r.map fun (x : Nat) => (x : Int) := by
  rw [cancels_is, if_neg (fun q => (told_iff n k a xs h0 hk ha).mp q h), e]
/-- the least one of a number's bits -/
theorem bits_some {L : Nat} (h : 0 < L) : ∃ j, L.testBit j = true := by
  refine Classical.byContradiction fun no => ?_
  have : L = 0 := Nat.eq_of_testBit_eq fun j => by
    rw [Nat.zero_testBit]
    cases e : L.testBit j with
    | false => rfl
    | true => exact absurd ⟨j, e⟩ no
  omega
end Wc
namespace Wc
open PySem PySem.Spec PyProof.Rows L2
def topS (i : Nat) : Stmt := PySem.Challenge.pw_whocomes_s01_comes.main.body.getD i (.Pass ⟨0, 0, 0, 0⟩)
abbrev sPairs : Stmt := topS 5
abbrev sParty : Stmt := topS 6
abbrev sHow : Stmt := topS 8
abbrev sHas : Stmt := topS 9
abbrev sAcq : Stmt := topS 10
abbrev sWho : Stmt := topS 11
theorem scPairs : FnScope ["n", "pairs", "place", "one", "other"] ["n", "pairs"] (defScope sPairs) := ⟨rfl, rfl, rfl, by decide +kernel, rfl, by decide +kernel, by decide +kernel⟩
theorem scParty : FnScope ["n", "pairs"] ["n", "pairs"] (defScope sParty) := ⟨rfl, rfl, rfl, by decide +kernel, rfl, by decide +kernel, by decide +kernel⟩
theorem scHow : FnScope ["bits", "guest"] ["bits"] (defScope sHow) := ⟨rfl, rfl, rfl, by decide +kernel, rfl, by decide +kernel, by decide +kernel⟩
theorem scHas : FnScope ["bits", "guest"] ["bits", "guest"] (defScope sHas) := ⟨rfl, rfl, rfl, by decide +kernel, rfl, by decide +kernel, by decide +kernel⟩
theorem scAcq : FnScope ["n", "pairs", "known", "place", "one", "other", "guest"] ["n", "pairs"] (defScope sAcq) := ⟨rfl, rfl, rfl, by decide +kernel, rfl, by decide +kernel, by decide +kernel⟩
theorem scWho : FnScope ["k", "sure_bits", "known", "coming", "leaving", "guest"] ["k", "sure_bits", "known", "coming"] (defScope sWho) := ⟨rfl, rfl, rfl, by decide +kernel, rfl, by decide +kernel, by decide +kernel⟩

/-! ## the promises -/
structure Txt (mg : Str → Option Value) : Prop where
  len : mg "len" = none
  range : mg "range" = none
  sum : mg "sum" = none
  guests : ∃ t, mg "MOST_GUESTS" = some (.int 8 t)
  pairs : ∃ t, mg "MOST_PAIRS" = some (.int 28 t)
  asked : ∃ t, mg "MOST_ASKED" = some (.int 8 t)
  refusal : ∃ t, mg "REFUSAL" = some (.int (-22) t)
/-- how many -/
def spHow : Sp := fun vs H Q _ => ∃ x : Nat, vs = [.int x] ∧ ∀ H', Same H H' → Q (.int (cnt 8 x.testBit : Nat)) H'
/-- has this one -/
def spHas : Sp := fun vs H Q _ => ∃ x g : Nat, vs = [.int x, .int g] ∧ Q (.bl (x.testBit g)) H
section
variable {P : Program} {w : World} {K : PySem.W.Frag} {mg : Str → Option Value} {base : Heap}

theorem bit_int (x g : Nat) : Builtin.bitAnd ((x : Int) / 2 ^ ((g : Int)).toNat) 1 = if x.testBit g = true then 1 else 0 := by
  rw [bitAnd_m1, Int.toNat_natCast, ← pow_int, Nat.testBit_eq_decide_div_mod_eq]
  have e : (x : Int) / ((2 ^ g : Nat) : Int) % 2 = ((x / 2 ^ g % 2 : Nat) : Int) := by
    rw [Int.natCast_emod, Int.natCast_ediv]; rfl
  rw [e]
  by_cases c : x / 2 ^ g % 2 = 1
  · rw [c]; simp
  · have : x / 2 ^ g % 2 = 0 := by omega
    rw [this]; simp

theorem ok_has {f : Addr} {fd : FuncData} (F : Fun K "has_guest" "has_guest" sHas f fd) : FnOk P w K mg base CX0 1 f fd ["bits", "guest"] spHas := by
  refine F.ok scHas (fun vs H Q E h => ?_) (fun cdv A outer s H vs Q E hr h => ?_)
  · obtain ⟨x, g, rfl, _⟩ := h
    rfl
  · refine ⟨_, pss_one (ps_ret (pe_cmpR op_eq (pe_op op_and (pe_op op_shr (pv 0) (pv 1)) pe_int) pe_int (nomark _))), ?_⟩
    obtain ⟨x, g, rfl, k⟩ := h
    refine ⟨_, rfl, _, rfl, _, _, rfl, rfl, Int.natCast_nonneg g, _, _, rfl, rfl, rfl, ?_⟩
    show Q (V.bl (decide (V.int (Builtin.bitAnd _ 1) = V.int 1))) H
    have e0 := bit_int x g
    have e : decide (V.int (Builtin.bitAnd ((x : Int) / 2 ^ ((g : Int)).toNat) 1) = V.int 1) = x.testBit g := by
      rw [dec_int, e0]
      cases x.testBit g <;> rfl
    rw [e]
    exact k

theorem ok_how {f : Addr} {fd : FuncData} (T : Txt mg) (F : Fun K "how_many" "how_many" sHow f fd) : FnOk P w K mg base CX0 1 f fd ["bits"] spHow := by
  refine F.ok scHow (fun vs H Q E h => ?_) (fun cdv A outer s H vs Q E hr h => ?_)
  · obtain ⟨x, rfl, _⟩ := h
    rfl
  · obtain ⟨tg, hg⟩ := T.guests
    refine ⟨_, pss_one (ps_ret (pe_callB (cr_sum rfl) (by rfl) T.sum (by decide +kernel) (pa_cons
      (pe_lc (own := [("guest", 1)]) (g := gName 1) rfl scHow.nd (pi_range1 rfl T.range (pa_cons (pe_glob (v := .int 8) rfl hg ⟨_, rfl⟩) pa_nil)) (blkOk_by (own := [("guest", 1)]) (N := ["bits", "guest"]) (sc := defScope sHow) (by decide +kernel))
        (fun _ _ _ _ _ => pg_name (i := 1) scHow.nd rfl (Or.inl rfl)) (fun _ _ _ _ _ => pts_nil) (fun _ _ _ _ _ => pe_op op_and (pe_op op_shr (pv 0) (pv 1)) pe_int))
      pa_nil))), ?_⟩
    obtain ⟨x, rfl, k⟩ := h
    refine ⟨_, rfl, by decide, by decide, fun D hD => lc_range (lo := 0) (n := 8) (fun i H' => (∀ b, b ≠ D → H' b = H b) ∧ H' D = some (.lst (((List.range i).map fun j => if x.testBit j = true then (1 : Int) else 0).map V.int))) ⟨fun b hb => upd_ne hb, upd_same⟩ ?_ ?_⟩
    · rintro i H' hi ⟨h1, h2⟩
      refine ⟨rfl, _, rfl, _, rfl, _, _, rfl, rfl, ?_, _, _, rfl, rfl, _, h2, ?_, ?_, ?_⟩
      · show 0 ≤ 0 + (i : Int); omega
      · rw [List.length_map, List.length_map, List.length_range]
        exact Nat.lt_of_lt_of_le hi (by decide)
      · intro b hb
        rw [upd_ne hb]
        exact h1 b hb
      · rw [upd_same, Int.zero_add]
        dsimp only
        rw [bit_int, List.range_succ, List.map_append, List.map_append]
        rfl
    · rintro H' ⟨h1, h2⟩
      refine ⟨_, _, rfl, SqL.of h2, ?_⟩
      rw [cnt_sum]
      refine k H' fun b o hb => ?_
      rw [h1 b fun e => ?_]
      · exact hb
      · rw [e, hD] at hb
        cases hb
end
end Wc
namespace Wc
open PySem PySem.Spec PyProof.Rows L2
def spPairs (K : PySem.W.Frag) : Sp := fun vs H Q _ => ∃ (n : Int) (a : Addr) (xs : List Int), vs = [.int n, .ref a] ∧ SqL K H a (xs.map V.int) ∧ Q (.bl (goodList n xs)) H
def spParty (K : PySem.W.Frag) : Sp := fun vs H Q _ => ∃ (n : Int) (a : Addr) (xs : List Int), vs = [.int n, .ref a] ∧ SqL K H a (xs.map V.int) ∧ Q (.bl (decide (1 ≤ n) && decide (n ≤ 8) && goodList n xs)) H
section
variable {P : Program} {w : World} {K : PySem.W.Frag} {mg : Str → Option Value} {base : Heap}
theorem rgc2 : ∀ h : Nat, h ≤ 28 → RgC 0 ((2 * h : Nat) : Int) 2 h := fun h hh => by
  have a : ∀ h : _root_.Fin 29, Builtin.Range.small 0 ((2 * h.val : Nat) : Int) 2 = true ∧ Builtin.Range.rangeSize 0 ((2 * h.val : Nat) : Int) 2 = (h.val : Int) := by decide +kernel
  have b := a ⟨h, by omega⟩
  exact ⟨by decide, by decide, b.1, b.2⟩
/-- the two of the i-th pair -/
theorem two_at {xs : List Int} {h i : Nat} (e : xs.length = 2 * h) (hi : i < h) : ∃ x y : Int, xs[2 * i]? = some x ∧ xs[2 * i + 1]? = some y ∧ (prs xs)[i]? = some (x, y) ∧
    atI (xs.map V.int) (0 + (i : Nat) * 2) = some (V.int x) ∧ atI (xs.map V.int) (0 + (i : Nat) * 2 + 1) = some (V.int y) := by
  have h1 : 2 * i < xs.length := by omega
  have h2 : 2 * i + 1 < xs.length := by omega
  have e1 : xs[2 * i]? = some xs[2 * i] := List.getElem?_eq_getElem h1
  have e2 : xs[2 * i + 1]? = some xs[2 * i + 1] := List.getElem?_eq_getElem h2
  refine ⟨_, _, e1, e2, prs_at _ _ _ _ e1 e2, ?_, ?_⟩
  · have z : (0 + (i : Nat) * 2 : Int) = ((2 * i : Nat) : Int) := by omega
    rw [z]
    exact atI_nat (by rw [List.getElem?_map, e1]; rfl)
  · have z : (0 + (i : Nat) * 2 + 1 : Int) = ((2 * i + 1 : Nat) : Int) := by omega
    rw [z]
    exact atI_nat (by rw [List.getElem?_map, e2]; rfl)
theorem mod_odd (n : Nat) : decide (V.int ((n : Int) % 2) = V.int 1) = decide (n % 2 = 1) := by
  rw [dec_int, Bool.eq_iff_iff, beq_iff_eq, decide_eq_true_iff]
  omega
theorem ok_pairs {f : Addr} {fd : FuncData} (T : Txt mg) (F : Fun K "pairs_are_right" "pairs_are_right" sPairs f fd) : FnOk P w K mg base CX0 1 f fd ["n", "pairs"] (spPairs K) := by
  refine F.ok scPairs (fun vs H Q E h => ?_) (fun cdv A outer s H vs Q E hr h => ?_)
  · obtain ⟨n, a, xs, rfl, _⟩ := h
    rfl
  · obtain ⟨tg, hg⟩ := T.pairs
    refine ⟨_, pss_cons (ps_if (PW.pt (pw_or (pt_cmpR op_eq (pe_op op_mod (pe_callB call_len_seq (by rfl) T.len PySem.boot_len (pa_cons (pv 1) pa_nil)) pe_int) pe_int (nomark _))
          (pw_or1 (pt_cmpR op_gt (pe_callB call_len_seq (by rfl) T.len PySem.boot_len (pa_cons (pv 1) pa_nil)) (pe_op op_mul pe_int (pe_glob (v := .int 28) rfl hg ⟨_, rfl⟩)) (nomark _)))))
        (pss_one (ps_ret pe_bl)) pss_nil)
      (pss_cons (ps_for PassesOwn.never rfl (pi_range3 rfl T.range (pa_cons pe_int (pa_cons (pe_callB call_len_seq (by rfl) T.len PySem.boot_len (pa_cons (pv 1) pa_nil)) (pa_cons pe_int pa_nil)))) (pg_name (i := 2) scPairs.nd rfl (Or.inl rfl))
        (pss_cons (ps_set (i := 3) scPairs.nd rfl (Or.inl rfl) (pe_ix ix_list (pv 1) (pv 2) (fun _ _ => rfl)))
        (pss_cons (ps_set (i := 4) scPairs.nd rfl (Or.inl rfl) (pe_ix ix_list (pv 1) (pe_op op_add (pv 2) pe_int) (fun _ _ => rfl)))
        (pss_one (ps_if (PW.pt (pw_or (pt_cmpR op_eq (pv 3) (pv 4) (nomark _)) (pw_or (pt_cmpR op_ge (pv 3) (pv 0) (nomark _)) (pw_or1 (pt_cmpR op_ge (pv 4) (pv 0) (nomark _))))))
          (pss_one (ps_ret pe_bl)) pss_nil)))))
      (pss_one (ps_ret pe_bl))), ?_⟩
    obtain ⟨n, a, xs, rfl, hS, q⟩ := h
    refine ⟨_, rfl, a, _, rfl, .inl hS, _, _, rfl, rfl, (by show (0 : Int) < 2; decide), rfl, _, rfl, ?_⟩
    rw [List.length_map, mod_odd]
    by_cases odd : xs.length % 2 = 1
    · rw [decide_eq_true odd]
      refine iteT (iteT ?_)
      have e : goodList n xs = false := by
        unfold goodList
        rw [decide_eq_false (show ¬ xs.length % 2 = 0 by omega)]
        rfl
      rw [e] at q
      exact q
    rw [decide_eq_false odd]
    refine iteF ⟨_, rfl, a, _, rfl, .inl hS, _, _, rfl, rfl, .inl ⟨by decide, by decide⟩, _, _, rfl, rfl, _, rfl, ?_⟩
    rw [List.length_map]
    by_cases big : (2 : Int) * 28 < (xs.length : Int)
    · rw [decide_eq_true big]
      refine iteT ?_
      have e : goodList n xs = false := by
        unfold goodList
        rw [decide_eq_false (show ¬ xs.length ≤ 56 by omega), Bool.and_false, Bool.false_and]
      rw [e] at q
      exact q
    rw [decide_eq_false big]
    refine iteF ?_
    obtain ⟨hh, hl⟩ : ∃ hh, xs.length = 2 * hh := ⟨xs.length / 2, by omega⟩
    have h28 : hh ≤ 28 := by omega
    have pl : (prs xs).length = hh := by rw [prs_len]; omega
    refine ⟨_, rfl, a, _, rfl, .inl hS, _, _, _, hh, rfl, by rw [List.length_map, hl]; exact rgc2 hh h28, for_rangeC (lo := 0) (c := 2) (n := hh)
      (fun i σ H' => H' = H ∧ (∃ v2 v3 v4, σ = [some (.int n), some (.ref a), v2, v3, v4]) ∧ ((prs xs).take i).all (fun e => !badPair n e) = true) ⟨rfl, ⟨none, none, none, rfl⟩, rfl⟩ ?_ ?_⟩
    · rintro i σ H' hi ⟨rfl, ⟨v2, v3, v4, rfl⟩, ha⟩
      obtain ⟨x, y, ex, ey, exy, ax, ay⟩ := two_at hl hi
      refine ⟨_, rfl, _, rfl, a, _, _, _, rfl, rfl, hS, ax, _, rfl, _, rfl, _, _, rfl, rfl, a, _, _, _, rfl, rfl, hS, ay, _, rfl, _, rfl, rfl, _, rfl, ?_⟩
      have tk := take_more exy
      have out : badPair n (x, y) = true → goodList n xs = false := fun hb => by
        unfold goodList
        rw [Bool.and_eq_false_iff]
        refine .inr ?_
        rw [List.all_eq_false]
        exact ⟨(x, y), List.mem_of_getElem? exy, by rw [hb]; decide⟩
      by_cases c1 : x = y
      · rw [decide_eq_true (congrArg V.int c1)]
        refine iteT (iteT ?_)
        rw [out (by unfold badPair; rw [decide_eq_true c1]; rfl)] at q
        exact q
      rw [decide_eq_false (fun z => c1 (V.int.inj z))]
      refine iteF ⟨_, rfl, _, rfl, _, _, rfl, rfl, _, rfl, ?_⟩
      by_cases c2 : n ≤ x
      · rw [decide_eq_true c2]
        refine iteT (iteT ?_)
        rw [out (by unfold badPair; rw [decide_eq_true (show n ≤ (x, y).1 from c2), Bool.or_true, Bool.true_or])] at q
        exact q
      rw [decide_eq_false c2]
      refine iteF ⟨_, rfl, _, rfl, _, _, rfl, rfl, _, rfl, ?_⟩
      by_cases c3 : n ≤ y
      · rw [decide_eq_true c3]
        refine iteT ?_
        rw [out (by unfold badPair; rw [decide_eq_true (show n ≤ (x, y).2 from c3), Bool.or_true])] at q
        exact q
      rw [decide_eq_false c3]
      refine iteF ⟨rfl, ⟨_, _, _, rfl⟩, ?_⟩
      rw [tk, List.all_append, ha]
      have nb : badPair n (x, y) = false := by
        unfold badPair
        rw [decide_eq_false c1, decide_eq_false (show ¬ n ≤ (x, y).1 from c2), decide_eq_false (show ¬ n ≤ (x, y).2 from c3)]; rfl
      simp [nb]
    · rintro σ H' ⟨rfl, _, ha⟩
      rw [← pl, List.take_length] at ha
      have e : goodList n xs = true := by
        unfold goodList
        rw [ha, decide_eq_true (show xs.length % 2 = 0 by omega), decide_eq_true (show xs.length ≤ 56 by omega)]
        rfl
      rw [e] at q
      exact q

theorem ok_party {f fP : Addr} {fd fdP : FuncData} (T : Txt mg) (F : Fun K "party_is_right" "party_is_right" sParty f fd) (FP : Fun K "pairs_are_right" "pairs_are_right" sPairs fP fdP) (mP : mg "pairs_are_right" = some (.ref fP)) (bP : Binds K fdP ["n", "pairs"] []) :
    FnOk P w K mg base CX0 2 f fd ["n", "pairs"] (spParty K) := by
  have GP : FnOk P w K mg base CX0 1 fP fdP ["n", "pairs"] (spPairs K) := ok_pairs T FP
  refine F.ok scParty (fun vs H Q E h => ?_) (fun cdv A outer s H vs Q E hr h => ?_)
  · obtain ⟨n, a, xs, rfl, _⟩ := h
    rfl
  · obtain ⟨tg, hg⟩ := T.guests
    refine ⟨_, pss_one (ps_ret (pe_and (pe_chain op_le op_le pe_int (pv 0) (pe_glob (v := .int 8) rfl hg ⟨_, rfl⟩)) (pe_one (pe_call GP hr rfl mP FP.kp bP .nil pass0 (pa_cons (pv 0) (pa_cons (pv 1) pa_nil)))))), ?_⟩
    obtain ⟨n, a, xs, rfl, hS, q⟩ := h
    refine ⟨_, rfl, _, _, rfl, rfl, _, rfl, ?_⟩
    by_cases c1 : 1 ≤ n
    · rw [decide_eq_true c1] at q ⊢
      refine iteT ⟨_, _, rfl, rfl, _, rfl, ?_⟩
      by_cases c2 : n ≤ 8
      · rw [decide_eq_true c2] at q ⊢
        refine iteT ⟨_, rfl, _, rfl, n, a, xs, rfl, hS, ?_⟩
        exact q
      · rw [decide_eq_false c2] at q ⊢
        exact iteF q
    · rw [decide_eq_false c1] at q ⊢
      refine iteF ⟨_, rfl, iteF ?_⟩
      exact q
end
end Wc
namespace Wc
open PySem PySem.Spec PyProof.Rows L2
def nv (K : Nat) : V := .int (K : Int)
def spAcq (K : PySem.W.Frag) : Sp := fun vs H Q _ => ∃ (n : Int) (a : Addr) (xs : List Int), vs = [.int n, .ref a] ∧ SqL K H a (xs.map V.int) ∧ (0 ≤ n ∧ n ≤ 8) ∧ (∀ x ∈ xs, 0 ≤ x) ∧ goodList n xs = true ∧
  ∀ H' p kn, Same H H' → H p = none → H' p = some (.lst (kn.map nv)) → KnownIs n.toNat (prs xs) kn → Q (.ref p) H'
def whoC (k : Int) (a m : Nat) (kn : List Nat) (j : Nat) : Bool := m.testBit j && !a.testBit j && decide ((cnt 8 (kn.getD j 0 &&& m).testBit : Int) < k)
def spWho (K : PySem.W.Frag) : Sp := fun vs H Q _ => ∃ (k : Int) (a m : Nat) (p : Addr) (kn : List Nat), vs = [.int k, .int a, .ref p, .int m] ∧ SqL K H p (kn.map nv) ∧ kn.length ≤ 8 ∧
  ∀ H' L, Same H H' → (∀ j, L.testBit j = (decide (j < kn.length) && whoC k a m kn j)) → Q (nv L) H'
section
variable {P : Program} {w : World} {K : PySem.W.Frag} {mg : Str → Option Value} {base : Heap}
theorem or_shl (A Y : Nat) : V.int (Builtin.bitOr (A : Int) (1 * 2 ^ ((Y : Int)).toNat)) = nv (A ||| 1 <<< Y) := by
  have e : (1 : Int) * (2 : Int) ^ ((Y : Int)).toNat = ((1 <<< Y : Nat) : Int) := by
    rw [Int.toNat_natCast, Int.one_mul, Nat.one_shiftLeft, pow_int]
  rw [e, Bits.bitOr_pp (Int.natCast_nonneg _) (Int.natCast_nonneg _), Int.toNat_natCast, Int.toNat_natCast]
  rfl
theorem and_nn (A B : Nat) : Builtin.bitAnd (A : Int) (B : Int) = ((A &&& B : Nat) : Int) := by
  rw [bitAnd_pp (Int.natCast_nonneg _) (Int.natCast_nonneg _), Int.toNat_natCast, Int.toNat_natCast]
theorem at_nv {kn : List Nat} {X A : Nat} (h : kn[X]? = some A) : atI (kn.map nv) ((X : Nat) : Int) = some (V.int (A : Int)) :=
  atI_nat (by rw [List.getElem?_map, h]; rfl)
theorem good_len {n : Int} {xs : List Int} (h : goodList n xs = true) : ∃ hh, hh ≤ 28 ∧ xs.length = 2 * hh := by
  unfold goodList at h
  simp only [Bool.and_eq_true, decide_eq_true_iff] at h
  exact ⟨xs.length / 2, by omega, by omega⟩
theorem good_pair {n : Int} {xs : List Int} (h0 : ∀ x ∈ xs, 0 ≤ x) (h : goodList n xs = true) {i : Nat} {x y : Int} (e : (prs xs)[i]? = some (x, y)) : ∃ X Y : Nat, x = X ∧ y = Y ∧ (X : Int) < n ∧ (Y : Int) < n ∧ X ≠ Y := by
  have m := List.mem_of_getElem? e
  obtain ⟨p1, p2⟩ := prs_mem xs (fun x => 0 ≤ x) h0 _ m
  unfold goodList at h
  rw [Bool.and_eq_true, List.all_eq_true] at h
  have b := h.2 _ m
  unfold badPair at b
  simp only [Bool.not_eq_true', Bool.or_eq_false_iff, decide_eq_false_iff_not] at b p1 p2
  exact ⟨x.toNat, y.toNat, by omega, by omega, by omega, by omega, by omega⟩
theorem ixN_nat' {n j : Nat} (hj : j < n) : ixN n ((j : Nat) : Int) = some j := by
  unfold ixN
  rw [if_pos (Int.natCast_nonneg j), if_pos (by omega), Int.toNat_natCast]
theorem ok_acq {f : Addr} {fd : FuncData} (T : Txt mg) (F : Fun K "acquaintances" "acquaintances" sAcq f fd) : FnOk P w K mg base CX0 1 f fd ["n", "pairs"] (spAcq K) := by
  refine F.ok scAcq (fun vs H Q E h => ?_) (fun cdv A outer s H vs Q E hr h => ?_)
  · obtain ⟨n, a, xs, rfl, _⟩ := h
    rfl
  · refine ⟨_, pss_cons (ps_setLc (i := 2) (own := [("guest", 6)]) (g := gName 6) (by rfl) scAcq.nd rfl rfl (sw_true rfl rfl rfl (by decide +kernel)) (pi_range1 rfl T.range (pa_cons (pv 0) pa_nil)) (blkOk_by (own := [("guest", 6)]) (N := ["n", "pairs", "known", "place", "one", "other", "guest"]) (sc := defScope sAcq) (by decide +kernel))
        (fun _ _ _ _ _ => pg_name (i := 6) scAcq.nd rfl (Or.inl rfl)) (fun _ _ _ _ _ => pts_nil) (fun _ _ _ _ _ => pe_int))
      (pss_cons (ps_for PassesOwn.never rfl (pi_range3 rfl T.range (pa_cons pe_int (pa_cons (pe_callB call_len_seq (by rfl) T.len PySem.boot_len (pa_cons (pv 1) pa_nil)) (pa_cons pe_int pa_nil)))) (pg_name (i := 3) scAcq.nd rfl (Or.inl rfl))
        (pss_cons (ps_set (i := 4) scAcq.nd rfl (Or.inl rfl) (pe_ix ix_list (pv 1) (pv 3) (fun _ _ => rfl)))
        (pss_cons (ps_set (i := 5) scAcq.nd rfl (Or.inl rfl) (pe_ix ix_list (pv 1) (pe_op op_add (pv 3) pe_int) (fun _ _ => rfl)))
        (pss_cons (ps_asg (pe_op op_or (pe_ix ix_list (pv 2) (pv 4) (fun _ _ => rfl)) (pe_op op_shl pe_int (pv 5))) (pg_sub (pv 2) (pv 4) set_list))
        (pss_one (ps_asg (pe_op op_or (pe_ix ix_list (pv 2) (pv 5) (fun _ _ => rfl)) (pe_op op_shl pe_int (pv 4))) (pg_sub (pv 2) (pv 5) set_list)))))))
      (pss_one (ps_ret (pv 2)))), ?_⟩
    obtain ⟨n, a, xs, rfl, hS, ⟨n0, n8⟩, h0, hg, q⟩ := h
    obtain ⟨hh, h28, hl⟩ := good_len hg
    have pl : (prs xs).length = hh := by rw [prs_len]; omega
    refine ⟨_, rfl, n, rfl, by omega, by omega, fun D hD => lc_range (lo := 0) (n := n.toNat) (fun i H' => (∀ b, b ≠ D → H' b = H b) ∧ H' D = some (.lst ((List.replicate i 0).map nv))) ⟨fun b hb => upd_ne hb, upd_same⟩ ?_ ?_⟩
    · rintro i H' hi ⟨h1, h2⟩
      refine ⟨rfl, _, h2, ?_, ?_, ?_⟩
      · rw [List.length_map, List.length_replicate]
        exact Nat.lt_of_lt_of_le hi (Nat.le_trans (by omega : n.toNat ≤ 8) (by decide))
      · intro b hb
        rw [upd_ne hb]
        exact h1 b hb
      · rw [upd_same, List.replicate_succ', List.map_append]
        rfl
    rintro H1 ⟨h1, h2⟩
    have dn : ∀ {H' : Hp}, (∀ b, b ≠ D → H' b = H b) → Same H H' := fun k b o hb => by
      rw [k b fun e => ?_]
      · exact hb
      · rw [e, hD] at hb
        cases hb
    have s1 : Same H H1 := dn h1
    refine ⟨_, rfl, a, _, rfl, .inl (s1.seq hS), _, _, _, hh, rfl, by rw [List.length_map, hl]; exact rgc2 hh h28, for_rangeC (lo := 0) (c := 2) (n := hh)
      (fun i σ H' => (∀ b, b ≠ D → H' b = H b) ∧ (∃ v3 v4 v5 v6, σ = [some (.int n), some (.ref a), some (.ref D), v3, v4, v5, v6]) ∧ ∃ kn, H' D = some (.lst (kn.map nv)) ∧ KnownIs n.toNat ((prs xs).take i) kn)
      ⟨h1, ⟨none, none, none, none, rfl⟩, _, h2, KnownIs.start _⟩ ?_ ?_⟩
    · rintro i σ H' hi ⟨k1, ⟨v3, v4, v5, v6, rfl⟩, kn, k2, kk⟩
      obtain ⟨x, y, ex, ey, exy, ax, ay⟩ := two_at hl hi
      obtain ⟨X, Y, rfl, rfl, hX, hY, ne⟩ := good_pair h0 hg exy
      have sH := (dn k1).seq hS
      have lX : X < kn.length := by rw [kk.1]; omega
      have lY : Y < kn.length := by rw [kk.1]; omega
      have eA : kn[X]? = some kn[X] := List.getElem?_eq_getElem lX
      have eB : kn[Y]? = some kn[Y] := List.getElem?_eq_getElem lY
      have more := kk.more (by omega) (by omega) eA eB
      refine ⟨_, rfl, _, rfl, a, _, _, _, rfl, rfl, sH, ax, _, rfl, _, rfl, _, _, rfl, rfl, a, _, _, _, rfl, rfl, sH, ay, ?_⟩
      refine ⟨_, rfl, _, rfl, D, _, _, _, rfl, rfl, SqL.of k2, at_nv eA, _, rfl, _, _, rfl, rfl, ⟨by omega, by omega, by decide⟩, _, _, rfl, rfl, ?_⟩
      refine ⟨_, rfl, _, rfl, D, _, _, X, rfl, rfl, k2, by rw [List.length_map]; exact ixN_nat' lX, ?_⟩
      have w1 : (kn.map nv).set X (V.int (Builtin.bitOr ((kn[X] : Nat) : Int) (1 * 2 ^ ((Y : Int)).toNat))) = (kn.set X (kn[X] ||| 1 <<< Y)).map nv := by
        rw [or_shl, List.map_set]
      have eB2 : (kn.set X (kn[X] ||| 1 <<< Y))[Y]? = some kn[Y] := by
        rw [List.getElem?_set_ne ne]
        exact eB
      have k3 : upd H' D (.lst ((kn.map nv).set X (V.int (Builtin.bitOr ((kn[X] : Nat) : Int) (1 * 2 ^ ((Y : Int)).toNat))))) D = some (.lst ((kn.set X (kn[X] ||| 1 <<< Y)).map nv)) := by
        rw [upd_same, w1]
      refine ⟨_, rfl, _, rfl, D, _, _, _, rfl, rfl, SqL.of k3, at_nv eB2, _, rfl, _, _, rfl, rfl, ⟨by omega, by omega, by decide⟩, _, _, rfl, rfl, ?_⟩
      refine ⟨_, rfl, _, rfl, D, _, _, Y, rfl, rfl, k3, by rw [List.length_map, List.length_set]; exact ixN_nat' lY, ?_⟩
      refine ⟨fun b hb => ?_, ⟨_, _, _, _, rfl⟩, (kn.set X (kn[X] ||| 1 <<< Y)).set Y (kn[Y] ||| 1 <<< X), ?_, ?_⟩
      · rw [upd_ne hb, upd_ne hb]
        exact k1 b hb
      · rw [upd_same]
        have w2 : ((kn.set X (kn[X] ||| 1 <<< Y)).map nv).set Y (V.int (Builtin.bitOr ((kn[Y] : Nat) : Int) (1 * 2 ^ ((X : Int)).toNat))) = ((kn.set X (kn[X] ||| 1 <<< Y)).set Y (kn[Y] ||| 1 <<< X)).map nv := by
          rw [or_shl, ← List.map_set]
        exact congrArg (fun z => some (HO.lst z)) w2
      · rw [take_more exy]
        exact more
    · rintro σ H' ⟨k1, ⟨v3, v4, v5, v6, rfl⟩, kn, k2, kk⟩
      refine ⟨_, rfl, ?_⟩
      rw [← pl, List.take_length] at kk
      exact q H' D kn (dn k1) hD k2 kk

theorem one_more (p : Nat → Bool) {L i : Nat} (h : ∀ j, L.testBit j = (decide (j < i) && p j)) (c : p i = true) : ∀ j, (L ||| 1 <<< i).testBit j = (decide (j < i + 1) && p j) := fun j => by
  rw [Nat.testBit_or, h, Nat.one_shiftLeft, Nat.testBit_two_pow]
  by_cases e : i = j
  · subst e
    simp [c]
  · by_cases l : j < i
    · have : j < i + 1 := by omega
      simp [l, this, e]
    · have : ¬ j < i + 1 := by omega
      simp [l, this, e]
theorem one_not (p : Nat → Bool) {L i : Nat} (h : ∀ j, L.testBit j = (decide (j < i) && p j)) (c : p i = false) : ∀ j, L.testBit j = (decide (j < i + 1) && p j) := fun j => by
  rw [h]
  by_cases e : i = j
  · subst e
    simp [c]
  · have : (j < i + 1) = (j < i) := propext ⟨fun _ => by omega, fun _ => by omega⟩
    simp only [this]
theorem ok_who {f fS fC : Addr} {fd fdS fdC : FuncData} (T : Txt mg) (F : Fun K "who_cannot_come" "who_cannot_come" sWho f fd) (FS : Fun K "has_guest" "has_guest" sHas fS fdS) (FC : Fun K "how_many" "how_many" sHow fC fdC)
    (mS : mg "has_guest" = some (.ref fS)) (mC : mg "how_many" = some (.ref fC)) (bS : Binds K fdS ["bits", "guest"] []) (bC : Binds K fdC ["bits"] []) : FnOk P w K mg base CX0 2 f fd ["k", "sure_bits", "known", "coming"] (spWho K) := by
  have GS : FnOk P w K mg base CX0 1 fS fdS ["bits", "guest"] spHas := ok_has FS
  have GC : FnOk P w K mg base CX0 1 fC fdC ["bits"] spHow := ok_how T FC
  refine F.ok scWho (fun vs H Q E h => ?_) (fun cdv A outer s H vs Q E hr h => ?_)
  · obtain ⟨k, a, m, p, kn, rfl, _⟩ := h
    rfl
  · refine ⟨_, pss_cons (ps_set (i := 4) scWho.nd rfl (Or.inl rfl) pe_int)
      (pss_cons (ps_for PassesOwn.never rfl (pi_range1 rfl T.range (pa_cons (pe_callB call_len_seq (by rfl) T.len PySem.boot_len (pa_cons (pv 2) pa_nil)) pa_nil)) (pg_name (i := 5) scWho.nd rfl (Or.inl rfl))
        (pss_one (ps_if (PW.pt (pw_and (pt_val (pe_call GS hr rfl mS FS.kp bS .nil pass0 (pa_cons (pv 3) (pa_cons (pv 5) pa_nil)))) (pw_and1 (pt_not (pt_val (pe_call GS hr rfl mS FS.kp bS .nil pass0 (pa_cons (pv 1) (pa_cons (pv 5) pa_nil))))))))
          (pss_one (ps_if (pt_cmpR op_lt (pe_call GC hr rfl mC FC.kp bC .nil pass0 (pa_cons (pe_op op_and (pe_ix ix_list (pv 2) (pv 5) (fun _ _ => rfl)) (pv 3)) pa_nil)) (pv 0) (nomark _))
            (pss_one (ps_set (i := 4) scWho.nd rfl (Or.inl rfl) (pe_op op_or (pv 4) (pe_op op_shl pe_int (pv 5))))) pss_nil)) pss_nil)))
      (pss_one (ps_ret (pv 4)))), ?_⟩
    obtain ⟨k, a, m, p, kn, rfl, hS, h8, q⟩ := h
    refine ⟨_, rfl, p, _, rfl, .inl hS, _, rfl, ?_, ?_, ?_⟩
    · rw [List.length_map]; omega
    · rw [List.length_map]; omega
    rw [List.length_map, Int.toNat_natCast]
    refine for_range (lo := 0) (n := kn.length) (fun i σ H' => Same H H' ∧ ∃ L v, σ = [some (.int k), some (.int (a : Int)), some (.ref p), some (.int (m : Int)), some (nv L), v] ∧ ∀ j, L.testBit j = (decide (j < i) && whoC k a m kn j))
      ⟨Same.refl H, 0, none, rfl, fun j => by rw [Nat.zero_testBit]; simp⟩ ?_ ?_
    · rintro i σ H' hi ⟨s1, L, v, rfl, hL⟩
      have z : (0 : Int) + (i : Int) = ((i : Nat) : Int) := by omega
      rw [z]
      have eA : kn[i]? = some kn[i] := List.getElem?_eq_getElem hi
      have gd : kn.getD i 0 = kn[i] := by rw [List.getD_eq_getElem?_getD, eA]; rfl
      refine ⟨_, rfl, _, rfl, m, i, rfl, _, rfl, ?_⟩
      by_cases c1 : m.testBit i = true
      · rw [c1]
        refine iteT ⟨_, rfl, _, rfl, a, i, rfl, _, rfl, ?_⟩
        by_cases c2 : a.testBit i = true
        · rw [c2]
          refine iteF ⟨s1, L, _, rfl, one_not _ hL ?_⟩
          unfold whoC
          rw [c2, Bool.not_true, Bool.and_false, Bool.false_and]
        · rw [Bool.not_eq_true] at c2
          rw [c2]
          refine iteT ⟨_, rfl, _, rfl, p, _, _, _, rfl, rfl, s1.seq hS, at_nv eA, _, rfl, _, _, rfl, rfl, (kn[i] &&& m), ?_, ?_⟩
          · show [V.int (Builtin.bitAnd ((kn[i] : Nat) : Int) (m : Int))] = _
            rw [and_nn]
          intro H2 s2
          refine ⟨_, rfl, _, _, rfl, rfl, _, rfl, ?_⟩
          have wc : whoC k a m kn i = decide (((cnt 8 (kn[i] &&& m).testBit : Nat) : Int) < k) := by
            unfold whoC
            rw [c1, c2, gd]
            rfl
          by_cases c3 : ((cnt 8 (kn[i] &&& m).testBit : Nat) : Int) < k
          · rw [decide_eq_true c3]
            refine iteT ⟨_, rfl, _, rfl, _, _, rfl, rfl, ⟨by omega, by omega, by decide⟩, _, _, rfl, rfl, s1.trans s2, L ||| 1 <<< i, some (.int (i : Int)), ?_, one_more _ hL ?_⟩
            · rw [← or_shl]
              rfl
            · rw [wc, decide_eq_true c3]
          · rw [decide_eq_false c3]
            refine iteF ⟨s1.trans s2, L, _, rfl, one_not _ hL ?_⟩
            rw [wc, decide_eq_false c3]
      · rw [Bool.not_eq_true] at c1
        rw [c1]
        refine iteF (iteF ⟨s1, L, _, rfl, one_not _ hL ?_⟩)
        unfold whoC
        rw [c1, Bool.false_and, Bool.false_and]
    · rintro σ H' ⟨s1, L, v, rfl, hL⟩
      exact ⟨_, rfl, q H' L s1 hL⟩
end
end Wc
namespace Wc
open PySem PySem.Spec PyProof.Rows L2
open Kzf1 (net knows has bits okNet Net)
open Kzf2 (stays among round size roundsOn rounds core everybody)
/-- the list of those known, as the specification sees it -/
theorem who_is {n k a m : Nat} {g : Net} {kn : List Nat} (n8 : n ≤ 8) (hm : m < 2 ^ n) (hl : kn.length = n) (hk : ∀ i K, kn[i]? = some K → ∀ j, K.testBit j = knows g i j) {L : Nat}
    (h : ∀ j, L.testBit j = (decide (j < kn.length) && whoC (k : Int) a m kn j)) : IsL n k g a m L := fun j => by
  rw [h, hl]
  by_cases c : j < n
  · rw [decide_eq_true c, Bool.true_and, Bool.true_and]
    unfold whoC cant
    have e : kn[j]? = some kn[j] := List.getElem?_eq_getElem (by omega)
    have gd : kn.getD j 0 = kn[j] := by rw [List.getD_eq_getElem?_getD, e]; rfl
    have s : cnt 8 (kn.getD j 0 &&& m).testBit = among n g m j := by
      rw [among_cnt, gd]
      have z : cnt 8 (kn[j] &&& m).testBit = cnt n (kn[j] &&& m).testBit := cnt_le n8 fun t ht => by
        rw [Nat.testBit_and, tb_lt hm ht, Bool.and_false]
      rw [z]
      exact cnt_congr n fun t _ => by rw [Nat.testBit_and, hk j _ e, Bool.and_comm]
    rw [s]
    congr 1
    rw [Bool.eq_iff_iff, decide_eq_true_iff, decide_eq_true_iff]
    omega
  · rw [decide_eq_false c, Bool.false_and, Bool.false_and]
section
variable {P : Program} {w : World} {K : PySem.W.Frag} {mg : Str → Option Value} {base : Heap}
theorem shr_zero {s n : Int} (hs : 0 ≤ s) : (s / 2 ^ n.toNat = 0) ↔ s < 2 ^ n.toNat := by
  rw [← pow_int]
  have h := Nat.two_pow_pos n.toNat
  generalize (2 : Nat) ^ n.toNat = p at h ⊢
  constructor
  · intro e
    have := Int.lt_ediv_add_one_mul_self s (show (0 : Int) < (p : Int) by omega)
    rw [e] at this
    omega
  · exact fun e => Int.ediv_eq_zero_of_lt hs e
theorem gt_nat (L : Nat) : decide ((0 : Int) < (L : Int)) = decide (0 < L) := by
  rw [Bool.eq_iff_iff, decide_eq_true_iff, decide_eq_true_iff]
  omega
end
end Wc
namespace Wc
open PySem PySem.Spec PyProof.Rows L2
abbrev sTerms : Stmt := topS 7
theorem scTerms : FnScope ["n", "k", "sure_bits"] ["n", "k", "sure_bits"] (defScope sTerms) := ⟨rfl, rfl, rfl, by decide +kernel, rfl, by decide +kernel, by decide +kernel⟩
def spTerms : Sp := fun vs H Q _ => ∃ n k a : Int, vs = [.int n, .int k, .int a] ∧ 0 ≤ n ∧ Q (.bl (decide (k ≤ 8) && decide (a / 2 ^ n.toNat = 0))) H
section
variable {P : Program} {w : World} {K : PySem.W.Frag} {mg : Str → Option Value} {base : Heap}
theorem ok_terms {f : Addr} {fd : FuncData} (T : Txt mg) (F : Fun K "terms_are_right" "terms_are_right" sTerms f fd) : FnOk P w K mg base CX0 1 f fd ["n", "k", "sure_bits"] spTerms := by
  refine F.ok scTerms (fun vs H Q E h => ?_) (fun cdv A outer s H vs Q E hr h => ?_)
  · obtain ⟨n, k, a, rfl, _⟩ := h
    rfl
  · obtain ⟨tg, hg⟩ := T.asked
    refine ⟨_, pss_one (ps_ret (pe_and (pe_cmpR op_le (pv 1) (pe_glob (v := .int 8) rfl hg ⟨_, rfl⟩) (nomark _)) (pe_one (pe_cmpR op_eq (pe_op op_shr (pv 2) (pv 0)) pe_int (nomark _))))), ?_⟩
    obtain ⟨n, k, a, rfl, h0, q⟩ := h
    refine ⟨_, rfl, _, _, rfl, rfl, _, rfl, ?_⟩
    by_cases c : k ≤ 8
    · rw [decide_eq_true c] at q ⊢
      refine iteT ⟨_, rfl, _, rfl, _, _, rfl, rfl, h0, rfl, ?_⟩
      show Q (V.bl (decide (V.int (a / 2 ^ n.toNat) = V.int 0))) H
      have e : decide (V.int (a / 2 ^ n.toNat) = V.int 0) = decide (a / 2 ^ n.toNat = 0) := by
        rw [dec_int]; rfl
      rw [e]
      exact q
    · rw [decide_eq_false c] at q ⊢
      exact iteF q
end
end Wc
namespace Wc
open PySem PySem.Spec PyProof.Rows L2
open Kzf1 (net knows has bits okNet Net)
open Kzf2 (stays among round size roundsOn rounds core everybody)
abbrev sLeft : Stmt := topS 12
theorem scLeft : FnScope ["k", "sure_bits", "known", "left", "leaving"] ["k", "sure_bits", "known"] (defScope sLeft) := ⟨rfl, rfl, rfl, by decide +kernel, rfl, by decide +kernel, by decide +kernel⟩
/-- the list of those known holds, of each one, just those whom the pairs tell -/
def Knows (g : Net) (kn : List Nat) : Prop := ∀ i K, kn[i]? = some K → ∀ j, K.testBit j = knows g i j
/-- the list that is given back: all who were left, round behind round, and at its end those who come -/
def spLeft (K : PySem.W.Frag) : Sp := fun vs H Q _ => ∃ (k a : Nat) (p : Addr) (kn : List Nat) (g : Net), vs = [.int k, .int a, .ref p] ∧ SqL K H p (kn.map nv) ∧ kn.length ≤ 8 ∧ Knows g kn ∧
  ∀ (H' : Hp) (l : Addr) (ms : List Nat) (m : Nat), Same H H' → H' l = some (.lst (ms.map nv ++ [nv m])) → m < 2 ^ kn.length → ms.length ≤ kn.length → rounds kn.length k g a = (ms.length, m) → Q (.ref l) H'
section
variable {P : Program} {w : World} {K : PySem.W.Frag} {mg : Str → Option Value} {base : Heap}
theorem ok_left {f fW : Addr} {fd fdW : FuncData} (T : Txt mg) (F : Fun K "left_by_rounds" "left_by_rounds" sLeft f fd) (GW : FnOk P w K mg base CX0 2 fW fdW ["k", "sure_bits", "known", "coming"] (spWho K))
    (mW : mg "who_cannot_come" = some (.ref fW)) (kW : PySem.W.keepIn K (.ref fW) = true) (bW : Binds K fdW ["k", "sure_bits", "known", "coming"] []) : FnOk P w K mg base CX0 3 f fd ["k", "sure_bits", "known"] (spLeft K) := by
  refine F.ok scLeft (fun vs H Q E h => ?_) (fun cdv A outer s H vs Q E hr h => ?_)
  · obtain ⟨k, a, p, kn, g, rfl, _⟩ := h
    rfl
  · refine ⟨_, pss_cons (ps_set (i := 3) scLeft.nd rfl (Or.inl rfl) (pe_lst (pa_cons (pe_op op_sub (pe_op op_shl pe_int (pe_callB call_len_seq (by rfl) T.len PySem.boot_len (pa_cons (pv 2) pa_nil))) pe_int) pa_nil)))
      (pss_cons (ps_set (i := 4) scLeft.nd rfl (Or.inl rfl) (pe_call GW hr rfl mW kW bW .nil pass0 (pa_cons (pv 0) (pa_cons (pv 1) (pa_cons (pv 2) (pa_cons (pe_ix ix_list (pv 3) (pe_un un_neg pe_int) (fun _ _ => rfl)) pa_nil))))))
      (pss_cons (ps_while PassesOwn.never (pt_cmpR op_gt (pv 4) pe_int (nomark _))
        (pss_cons (ps_expr (pe_bm PySem.F.plainAttrs_list PySem.F.slot_list_append PySem.F.type_list_append mt_append (pv 3) (pa_cons (pe_op op_sub (pe_ix ix_list (pv 3) (pe_un un_neg pe_int) (fun _ _ => rfl)) (pv 4)) pa_nil)))
        (pss_one (ps_set (i := 4) scLeft.nd rfl (Or.inl rfl) (pe_call GW hr rfl mW kW bW .nil pass0 (pa_cons (pv 0) (pa_cons (pv 1) (pa_cons (pv 2) (pa_cons (pe_ix ix_list (pv 3) (pe_un un_neg pe_int) (fun _ _ => rfl)) pa_nil)))))))))
      (pss_one (ps_ret (pv 3))))), ?_⟩
    obtain ⟨k, a, p, kn, g, rfl, hS, h8, hk, q⟩ := h
    refine ⟨_, rfl, p, _, rfl, .inl hS, _, _, rfl, rfl, ⟨Int.natCast_nonneg _, by rw [List.length_map]; omega, by decide⟩, _, _, rfl, rfl, by show 1 ≤ sizeLine; decide, fun C hC => ?_⟩
    have ev : (1 : Int) * (2 : Int) ^ (((kn.map nv).length : Nat) : Int).toNat - 1 = ((everybody kn.length : Nat) : Int) := by
      rw [Int.toNat_natCast, Int.one_mul, ← pow_int, List.length_map]
      have := Nat.two_pow_pos kn.length
      unfold Kzf2.everybody
      omega
    have ev' : V.int ((1 : Int) * (2 : Int) ^ (((kn.map nv).length : Nat) : Int).toNat - 1) = nv (everybody kn.length) := congrArg V.int ev
    have smC : ∀ {H' : Hp} (o : HO), Same H H' → Same H (upd H' C o) := fun o sm b x hb => by
      rw [upd_ne fun e => ?_]
      · exact sm b x hb
      · rw [e, hC] at hb
        cases hb
    have sm1 := smC (.lst [V.int ((1 : Int) * (2 : Int) ^ (((kn.map nv).length : Nat) : Int).toNat - 1)]) (Same.refl H)
    refine ⟨_, rfl, _, rfl, _, rfl, _, rfl, _, rfl, C, [V.int ((1 : Int) * (2 : Int) ^ (((kn.map nv).length : Nat) : Int).toNat - 1)], _, _, rfl, rfl, SqL.of upd_same, atI_last [] _, (k : Int), a, everybody kn.length, p, kn, ?_, sm1.seq hS, h8, fun H2 L0 sm2 hL0 => ?_⟩
    · exact congrArg (fun z => [V.int (k : Int), V.int (a : Int), V.ref p, z]) ev'
    refine while_by (fun σ H' => Same H H' ∧ ∃ (ms : List Nat) (m L : Nat), σ = [some (.int (k : Int)), some (.int (a : Int)), some (.ref p), some (.ref C), some (nv L)] ∧ H' C = some (.lst (ms.map nv ++ [nv m])) ∧
        Run kn.length k g a ms.length m ∧ IsL kn.length k g a m L ∧ ms.length + size kn.length m ≤ kn.length) (fun _ H' => match H' C with
          | some (.lst xs) => 9 - xs.length
          | _ => 0) ?_ ?_ ?_
    · refine ⟨sm1.trans sm2, [], everybody kn.length, L0, rfl, ?_, Run.start _ _ _ _, who_is h8 (Run.start kn.length k g a).1 rfl hk hL0, ?_⟩
      · rw [sm2 C _ upd_same]
        exact congrArg (fun z => some (HO.lst [z])) ev'
      · rw [List.length_nil, size_cnt, Nat.zero_add]
        exact cnt_le_n _ _
    · rintro σ H' ⟨sm, ms, m, L, rfl, hC', hrun, hL, hsz⟩
      refine ⟨_, rfl, _, _, rfl, rfl, _, rfl, ?_⟩
      rw [gt_nat]
      by_cases c : 0 < L
      · rw [decide_eq_true c]
        have sub := hL.sub hrun.1
        have go := hrun.go hL c
        have less := round_size hL c
        rw [← sub.2] at less
        have em : ((m : Nat) : Int) - ((L : Nat) : Int) = ((m - L : Nat) : Int) := by have := sub.1; omega
        refine iteT ⟨_, rfl, .inl ⟨rfl, _, SqL.of hC'⟩, _, rfl, _, rfl, C, _, _, _, rfl, rfl, SqL.of hC', atI_last _ _, _, rfl, _, _, rfl, rfl, C, _, _, rfl, rfl, hC', ?_, ?_⟩
        · rw [List.length_append, List.length_map]
          show ms.length + 1 < sizeLine
          exact Nat.lt_of_le_of_lt (show ms.length + 1 ≤ 9 by omega) (by decide)
        have hC2 : upd H' C (.lst (ms.map nv ++ [nv m] ++ [V.int (((m : Nat) : Int) - ((L : Nat) : Int))])) C = some (.lst ((ms ++ [m]).map nv ++ [nv (m - L)])) := by
          rw [upd_same, em, List.map_append]
          rfl
        have sm3 := smC (.lst (ms.map nv ++ [nv m] ++ [V.int (((m : Nat) : Int) - ((L : Nat) : Int))])) sm
        refine ⟨_, rfl, _, rfl, _, rfl, _, rfl, _, rfl, C, _, _, _, rfl, rfl, SqL.of hC2, atI_last _ _, (k : Int), a, m - L, p, kn, rfl, sm3.seq hS, h8, fun H3 L3 sm4 hL3 => ⟨⟨sm3.trans sm4, ms ++ [m], m - L, L3, rfl, sm4 C _ hC2, ?_, who_is h8 go.1 rfl hk hL3, ?_⟩, ?_⟩⟩
        · rw [List.length_append, List.length_singleton]
          exact go
        · rw [List.length_append, List.length_singleton]
          omega
        · rw [sm4 C _ hC2, hC']
          dsimp only
          rw [List.length_append, List.length_append, List.length_map, List.length_map, List.length_append, List.length_singleton, List.length_singleton, List.length_singleton]
          omega
      · rw [decide_eq_false c]
        have L0 : L = 0 := by omega
        subst L0
        exact iteF ⟨_, rfl, q H' C ms m sm hC' hrun.1 (by omega) (hrun.stop hL)⟩
    · rintro σ H' Q1 Q2 hq ⟨v, e, i, j, e1, e2, k, e3, z⟩
      exact ⟨v, e, i, j, e1, e2, k, e3, hq _ _ z⟩
end
end Wc
namespace Wc
open PySem PySem.Spec PyProof.Rows L2
open Kzf1 (net knows has bits okNet Net)
open Kzf2 (stays among round size roundsOn rounds core everybody)
abbrev sComes : Stmt := topS 13
theorem scComes : FnScope ["n", "k", "sure_bits", "pairs", "left"] ["n", "k", "sure_bits", "pairs"] (defScope sComes) := ⟨rfl, rfl, rfl, by decide +kernel, rfl, by decide +kernel, by decide +kernel⟩
def spComes (K : PySem.W.Frag) : Sp := fun vs H Q _ => ∃ (n k s : Int) (a : Addr) (xs : List Int), vs = [.int n, .int k, .int s, .ref a] ∧ SqL K H a (xs.map V.int) ∧ (0 ≤ n ∧ 0 ≤ k ∧ 0 ≤ s) ∧ (∀ x ∈ xs, 0 ≤ x) ∧
  ∀ H' p, H' p = some (.lst ((PyKzf2.comes n k s xs).map V.int)) → Q (.ref p) H'
section
variable {P : Program} {w : World} {K : PySem.W.Frag} {mg : Str → Option Value} {base : Heap}
theorem ok_comes {f fP fT fA fL fC : Addr} {fd fdP fdT fdA fdL fdC : FuncData} (T : Txt mg) (F : Fun K "comes" "comes" sComes f fd)
    (GP : FnOk P w K mg base CX0 2 fP fdP ["n", "pairs"] (spParty K)) (GT : FnOk P w K mg base CX0 1 fT fdT ["n", "k", "sure_bits"] spTerms) (GA : FnOk P w K mg base CX0 1 fA fdA ["n", "pairs"] (spAcq K))
    (GL : FnOk P w K mg base CX0 3 fL fdL ["k", "sure_bits", "known"] (spLeft K)) (GC : FnOk P w K mg base CX0 1 fC fdC ["bits"] spHow)
    (mP : mg "party_is_right" = some (.ref fP)) (mT : mg "terms_are_right" = some (.ref fT)) (mA : mg "acquaintances" = some (.ref fA)) (mL : mg "left_by_rounds" = some (.ref fL)) (mC : mg "how_many" = some (.ref fC))
    (kP : PySem.W.keepIn K (.ref fP) = true) (kT : PySem.W.keepIn K (.ref fT) = true) (kA : PySem.W.keepIn K (.ref fA) = true) (kL : PySem.W.keepIn K (.ref fL) = true) (kC : PySem.W.keepIn K (.ref fC) = true)
    (bP : Binds K fdP ["n", "pairs"] []) (bT : Binds K fdT ["n", "k", "sure_bits"] []) (bA : Binds K fdA ["n", "pairs"] []) (bL : Binds K fdL ["k", "sure_bits", "known"] []) (bC : Binds K fdC ["bits"] []) :
    FnOk P w K mg base CX0 4 f fd ["n", "k", "sure_bits", "pairs"] (spComes K) := by
  refine F.ok scComes (fun vs H Q E h => ?_) (fun cdv A outer s H vs Q E hr h => ?_)
  · obtain ⟨n, k, s, a, xs, rfl, _⟩ := h
    rfl
  · obtain ⟨tg, hg⟩ := T.refusal
    have hr1 := hr.mono (show 1 ≤ 3 by decide)
    have hr2 := hr.mono (show 2 ≤ 3 by decide)
    refine ⟨_, pss_cons (ps_if (PW.pt (pw_or (pt_not (pt_val (pe_call GP hr2 rfl mP kP bP .nil pass0 (pa_cons (pv 0) (pa_cons (pv 3) pa_nil)))))
          (pw_or1 (pt_not (pt_val (pe_call GT hr1 rfl mT kT bT .nil pass0 (pa_cons (pv 0) (pa_cons (pv 1) (pa_cons (pv 2) pa_nil)))))))))
        (pss_one (ps_ret (pe_lst (pa_cons (pe_glob (v := .int (-22)) rfl hg ⟨_, rfl⟩) pa_nil)))) pss_nil)
      (pss_cons (ps_set (i := 4) scComes.nd rfl (Or.inl rfl) (pe_call GL hr rfl mL kL bL .nil pass0 (pa_cons (pv 1) (pa_cons (pv 2) (pa_cons (pe_call GA hr1 rfl mA kA bA .nil pass0 (pa_cons (pv 0) (pa_cons (pv 3) pa_nil))) pa_nil)))))
      (pss_one (ps_ret (pe_lst (pa_cons (pe_call GC hr1 rfl mC kC bC .nil pass0 (pa_cons (pe_ix ix_list (pv 4) (pe_un un_neg pe_int) (fun _ _ => rfl)) pa_nil)) (pa_cons (pe_ix ix_list (pv 4) (pe_un un_neg pe_int) (fun _ _ => rfl))
        (pa_cons (pe_op op_sub (pe_callB call_len_seq (by rfl) T.len PySem.boot_len (pa_cons (pv 4) pa_nil)) pe_int) pa_nil))))))), ?_⟩
    obtain ⟨n, k, s, a, xs, rfl, hS, ⟨n0, k0, s0⟩, h0, q⟩ := h
    have bad : ¬ Told n k s xs → ∀ p, H p = none → Q (.ref p) (upd H p (.lst [V.int (-22)])) := fun nt p _ => q _ p (by rw [comes_bad h0 k0 s0 nt, upd_same]; rfl)
    refine ⟨_, rfl, _, rfl, n, a, xs, rfl, hS, _, rfl, ?_⟩
    by_cases c1 : (decide (1 ≤ n) && decide (n ≤ 8) && goodList n xs) = true
    rotate_left
    · rw [Bool.not_eq_true] at c1
      rw [c1]
      refine iteT (iteT ⟨by show 1 ≤ sizeLine; decide, bad fun t => ?_⟩)
      obtain ⟨⟨t1, t2, t3⟩, _⟩ := t
      rw [decide_eq_true t1, decide_eq_true t2, t3] at c1
      cases c1
    rw [c1]
    refine iteF ⟨_, rfl, _, rfl, _, rfl, n, k, s, rfl, n0, _, rfl, ?_⟩
    by_cases c2 : (decide (k ≤ 8) && decide (s / 2 ^ n.toNat = 0)) = true
    rotate_left
    · rw [Bool.not_eq_true] at c2
      rw [c2]
      refine iteT ⟨by show 1 ≤ sizeLine; decide, bad fun t => ?_⟩
      obtain ⟨_, t1, t2⟩ := t
      rw [decide_eq_true t1, decide_eq_true ((shr_zero s0).mpr t2)] at c2
      cases c2
    rw [c2]
    refine iteF ?_
    simp only [Bool.and_eq_true, decide_eq_true_iff] at c1 c2
    obtain ⟨⟨n1, n8⟩, hgood⟩ := c1
    obtain ⟨k8, s8⟩ := c2
    have ts := (shr_zero s0).mp s8
    have told : Told n k s xs := ⟨⟨n1, n8, hgood⟩, k8, ts⟩
    obtain ⟨N, rfl⟩ := Int.eq_ofNat_of_zero_le n0
    obtain ⟨k', rfl⟩ := Int.eq_ofNat_of_zero_le k0
    obtain ⟨s', rfl⟩ := Int.eq_ofNat_of_zero_le s0
    have N8 : N ≤ 8 := by omega
    refine ⟨_, rfl, _, rfl, _, rfl, _, rfl, (N : Int), a, xs, rfl, hS, ⟨n0, n8⟩, h0, hgood, fun H1 pk kn sm1 _ hkn kk => ?_⟩
    rw [Int.toNat_natCast] at kk
    have hk : Knows (net (xs.map Int.toNat)) kn := fun i K e j => by rw [kk.2 i K e, knows_is (N : Int) xs h0 hgood]
    refine ⟨k', s', pk, kn, net (xs.map Int.toNat), rfl, SqL.of hkn, by rw [kk.1]; omega, hk, fun H2 l ms m sm2 hl hm hlen e => ?_⟩
    rw [kk.1] at hm hlen e
    refine ⟨_, rfl, _, rfl, l, _, _, _, rfl, rfl, SqL.of hl, atI_last _ _, m, rfl, fun H3 sm3 => ?_⟩
    have hl3 := sm3 l _ hl
    refine ⟨_, rfl, _, rfl, l, _, _, _, rfl, rfl, SqL.of hl3, atI_last _ _, _, rfl, l, _, rfl, .inl (SqL.of hl3), _, _, rfl, rfl, by show 3 ≤ sizeLine; decide, fun p hp => ?_⟩
    refine q _ p ?_
    rw [upd_same, comes_good h0 k0 s0 told (r := ms.length) (m := m) (by rw [Int.toNat_natCast, Int.toNat_natCast, Int.toNat_natCast]; exact e), Int.toNat_natCast, size_cnt]
    have sz : cnt 8 m.testBit = cnt N m.testBit := cnt_le N8 fun t ht => tb_lt hm ht
    have ln : (((ms.map nv ++ [nv m]).length : Nat) : Int) - 1 = ((ms.length : Nat) : Int) := by
      rw [List.length_append, List.length_map, List.length_singleton]
      omega
    rw [sz]
    exact congrArg (fun z => some (HO.lst [V.int ((cnt N m.testBit : Nat) : Int), nv m, V.int z])) ln
end
end Wc
namespace Wc
open PySem PySem.Spec PyProof.Rows L2
theorem all_mk {P : Program} {w : World} {K : PySem.W.Frag} {h : Heap} {mg : Str → Option Value} {fa f_pairs_are_right f_party_is_right f_how_many f_has_guest f_acquaintances f_who_cannot_come f_terms_are_right f_left_by_rounds f_comes : Addr} (X : K.In h) (G : h.Ns mainGlobals mg) (hfa : mg "comes" = some (.ref fa))
    {od_pairs_are_right an_pairs_are_right : Option Addr} {sl_pairs_are_right : Array (Option Value)} {oc_pairs_are_right kV_pairs_are_right dc_pairs_are_right pm_pairs_are_right cd_pairs_are_right ct_pairs_are_right : Value}
    {od_party_is_right an_party_is_right : Option Addr} {sl_party_is_right : Array (Option Value)} {oc_party_is_right kV_party_is_right dc_party_is_right pm_party_is_right cd_party_is_right ct_party_is_right : Value}
    {od_how_many an_how_many : Option Addr} {sl_how_many : Array (Option Value)} {oc_how_many kV_how_many dc_how_many pm_how_many cd_how_many ct_how_many : Value}
    {od_has_guest an_has_guest : Option Addr} {sl_has_guest : Array (Option Value)} {oc_has_guest kV_has_guest dc_has_guest pm_has_guest cd_has_guest ct_has_guest : Value}
    {od_acquaintances an_acquaintances : Option Addr} {sl_acquaintances : Array (Option Value)} {oc_acquaintances kV_acquaintances dc_acquaintances pm_acquaintances cd_acquaintances ct_acquaintances : Value}
    {od_who_cannot_come an_who_cannot_come : Option Addr} {sl_who_cannot_come : Array (Option Value)} {oc_who_cannot_come kV_who_cannot_come dc_who_cannot_come pm_who_cannot_come cd_who_cannot_come ct_who_cannot_come : Value}
    {od_terms_are_right an_terms_are_right : Option Addr} {sl_terms_are_right : Array (Option Value)} {oc_terms_are_right kV_terms_are_right dc_terms_are_right pm_terms_are_right cd_terms_are_right ct_terms_are_right : Value}
    {od_left_by_rounds an_left_by_rounds : Option Addr} {sl_left_by_rounds : Array (Option Value)} {oc_left_by_rounds kV_left_by_rounds dc_left_by_rounds pm_left_by_rounds cd_left_by_rounds ct_left_by_rounds : Value}
    {od_comes an_comes : Option Addr} {sl_comes : Array (Option Value)} {oc_comes kV_comes dc_comes pm_comes cd_comes ct_comes : Value}
    {tk_MOST_GUESTS tk_MOST_PAIRS tk_MOST_ASKED tk_REFUSAL : Tok}
    (a_pairs_are_right : PySem.W.nsIn K mainGlobals "pairs_are_right" = some (some (.ref f_pairs_are_right))) (l_pairs_are_right : K.lookup f_pairs_are_right = some ⟨oc_pairs_are_right, od_pairs_are_right, .func (PySem.W.fnOf "pairs_are_right" "pairs_are_right" (defArgs sPairs) (defBody sPairs) (defScope sPairs) .none kV_pairs_are_right dc_pairs_are_right pm_pairs_are_right an_pairs_are_right cd_pairs_are_right ct_pairs_are_right), sl_pairs_are_right⟩) (c_pairs_are_right : PySem.W.codeIn K cd_pairs_are_right "pairs_are_right" = true) (k_pairs_are_right : PySem.W.keepIn K (.ref f_pairs_are_right) = true)
    (a_party_is_right : PySem.W.nsIn K mainGlobals "party_is_right" = some (some (.ref f_party_is_right))) (l_party_is_right : K.lookup f_party_is_right = some ⟨oc_party_is_right, od_party_is_right, .func (PySem.W.fnOf "party_is_right" "party_is_right" (defArgs sParty) (defBody sParty) (defScope sParty) .none kV_party_is_right dc_party_is_right pm_party_is_right an_party_is_right cd_party_is_right ct_party_is_right), sl_party_is_right⟩) (c_party_is_right : PySem.W.codeIn K cd_party_is_right "party_is_right" = true) (k_party_is_right : PySem.W.keepIn K (.ref f_party_is_right) = true)
    (a_how_many : PySem.W.nsIn K mainGlobals "how_many" = some (some (.ref f_how_many))) (l_how_many : K.lookup f_how_many = some ⟨oc_how_many, od_how_many, .func (PySem.W.fnOf "how_many" "how_many" (defArgs sHow) (defBody sHow) (defScope sHow) .none kV_how_many dc_how_many pm_how_many an_how_many cd_how_many ct_how_many), sl_how_many⟩) (c_how_many : PySem.W.codeIn K cd_how_many "how_many" = true) (k_how_many : PySem.W.keepIn K (.ref f_how_many) = true)
    (a_has_guest : PySem.W.nsIn K mainGlobals "has_guest" = some (some (.ref f_has_guest))) (l_has_guest : K.lookup f_has_guest = some ⟨oc_has_guest, od_has_guest, .func (PySem.W.fnOf "has_guest" "has_guest" (defArgs sHas) (defBody sHas) (defScope sHas) .none kV_has_guest dc_has_guest pm_has_guest an_has_guest cd_has_guest ct_has_guest), sl_has_guest⟩) (c_has_guest : PySem.W.codeIn K cd_has_guest "has_guest" = true) (k_has_guest : PySem.W.keepIn K (.ref f_has_guest) = true)
    (a_acquaintances : PySem.W.nsIn K mainGlobals "acquaintances" = some (some (.ref f_acquaintances))) (l_acquaintances : K.lookup f_acquaintances = some ⟨oc_acquaintances, od_acquaintances, .func (PySem.W.fnOf "acquaintances" "acquaintances" (defArgs sAcq) (defBody sAcq) (defScope sAcq) .none kV_acquaintances dc_acquaintances pm_acquaintances an_acquaintances cd_acquaintances ct_acquaintances), sl_acquaintances⟩) (c_acquaintances : PySem.W.codeIn K cd_acquaintances "acquaintances" = true) (k_acquaintances : PySem.W.keepIn K (.ref f_acquaintances) = true)
    (a_who_cannot_come : PySem.W.nsIn K mainGlobals "who_cannot_come" = some (some (.ref f_who_cannot_come))) (l_who_cannot_come : K.lookup f_who_cannot_come = some ⟨oc_who_cannot_come, od_who_cannot_come, .func (PySem.W.fnOf "who_cannot_come" "who_cannot_come" (defArgs sWho) (defBody sWho) (defScope sWho) .none kV_who_cannot_come dc_who_cannot_come pm_who_cannot_come an_who_cannot_come cd_who_cannot_come ct_who_cannot_come), sl_who_cannot_come⟩) (c_who_cannot_come : PySem.W.codeIn K cd_who_cannot_come "who_cannot_come" = true) (k_who_cannot_come : PySem.W.keepIn K (.ref f_who_cannot_come) = true)
    (a_terms_are_right : PySem.W.nsIn K mainGlobals "terms_are_right" = some (some (.ref f_terms_are_right))) (l_terms_are_right : K.lookup f_terms_are_right = some ⟨oc_terms_are_right, od_terms_are_right, .func (PySem.W.fnOf "terms_are_right" "terms_are_right" (defArgs sTerms) (defBody sTerms) (defScope sTerms) .none kV_terms_are_right dc_terms_are_right pm_terms_are_right an_terms_are_right cd_terms_are_right ct_terms_are_right), sl_terms_are_right⟩) (c_terms_are_right : PySem.W.codeIn K cd_terms_are_right "terms_are_right" = true) (k_terms_are_right : PySem.W.keepIn K (.ref f_terms_are_right) = true)
    (a_left_by_rounds : PySem.W.nsIn K mainGlobals "left_by_rounds" = some (some (.ref f_left_by_rounds))) (l_left_by_rounds : K.lookup f_left_by_rounds = some ⟨oc_left_by_rounds, od_left_by_rounds, .func (PySem.W.fnOf "left_by_rounds" "left_by_rounds" (defArgs sLeft) (defBody sLeft) (defScope sLeft) .none kV_left_by_rounds dc_left_by_rounds pm_left_by_rounds an_left_by_rounds cd_left_by_rounds ct_left_by_rounds), sl_left_by_rounds⟩) (c_left_by_rounds : PySem.W.codeIn K cd_left_by_rounds "left_by_rounds" = true) (k_left_by_rounds : PySem.W.keepIn K (.ref f_left_by_rounds) = true)
    (a_comes : PySem.W.nsIn K mainGlobals "comes" = some (some (.ref f_comes))) (l_comes : K.lookup f_comes = some ⟨oc_comes, od_comes, .func (PySem.W.fnOf "comes" "comes" (defArgs sComes) (defBody sComes) (defScope sComes) .none kV_comes dc_comes pm_comes an_comes cd_comes ct_comes), sl_comes⟩) (c_comes : PySem.W.codeIn K cd_comes "comes" = true) (k_comes : PySem.W.keepIn K (.ref f_comes) = true)
    (g_MOST_GUESTS : PySem.W.nsIn K mainGlobals "MOST_GUESTS" = some (some (.int (8) tk_MOST_GUESTS)))
    (g_MOST_PAIRS : PySem.W.nsIn K mainGlobals "MOST_PAIRS" = some (some (.int (28) tk_MOST_PAIRS)))
    (g_MOST_ASKED : PySem.W.nsIn K mainGlobals "MOST_ASKED" = some (some (.int (8) tk_MOST_ASKED)))
    (g_REFUSAL : PySem.W.nsIn K mainGlobals "REFUSAL" = some (some (.int (-22) tk_REFUSAL)))
    (n_len : PySem.W.nsIn K mainGlobals "len" = some none)
    (n_range : PySem.W.nsIn K mainGlobals "range" = some none)
    (n_sum : PySem.W.nsIn K mainGlobals "sum" = some none)
    : ∃ fd : FuncData, (∀ (s : Shared) (us : List Value), us.length = (["n", "k", "sure_bits", "pairs"] : List Str).length → BindsTo s fd ⟨us, []⟩ ((["n", "k", "sure_bits", "pairs"] : List Str).zip us)) ∧ ∀ base : Heap, K.In base → base.Ns mainGlobals mg → FnOk P w K mg base CX0 4 fa fd ["n", "k", "sure_bits", "pairs"] (spComes K) := by
  have e := hfa.symm.trans (PySem.W.mg_of X G a_comes)
  cases e
  have T : Txt mg := ⟨PySem.W.mg_none_of X G n_len, PySem.W.mg_none_of X G n_range, PySem.W.mg_none_of X G n_sum, ⟨_, PySem.W.mg_of X G g_MOST_GUESTS⟩, ⟨_, PySem.W.mg_of X G g_MOST_PAIRS⟩, ⟨_, PySem.W.mg_of X G g_MOST_ASKED⟩, ⟨_, PySem.W.mg_of X G g_REFUSAL⟩⟩
  have F_pairs_are_right := fun_mk (st := sPairs) l_pairs_are_right c_pairs_are_right k_pairs_are_right
  have F_party_is_right := fun_mk (st := sParty) l_party_is_right c_party_is_right k_party_is_right
  have F_how_many := fun_mk (st := sHow) l_how_many c_how_many k_how_many
  have F_has_guest := fun_mk (st := sHas) l_has_guest c_has_guest k_has_guest
  have F_acquaintances := fun_mk (st := sAcq) l_acquaintances c_acquaintances k_acquaintances
  have F_who_cannot_come := fun_mk (st := sWho) l_who_cannot_come c_who_cannot_come k_who_cannot_come
  have F_terms_are_right := fun_mk (st := sTerms) l_terms_are_right c_terms_are_right k_terms_are_right
  have F_left_by_rounds := fun_mk (st := sLeft) l_left_by_rounds c_left_by_rounds k_left_by_rounds
  have F_comes := fun_mk (st := sComes) l_comes c_comes k_comes
  have b_pairs_are_right := F_pairs_are_right.binds (ps := ["n", "pairs"]) fun _ _ _ _ _ _ us hl => match us, hl with | [_, _], _ => rfl
  have m_pairs_are_right := PySem.W.mg_of X G a_pairs_are_right
  have b_party_is_right := F_party_is_right.binds (ps := ["n", "pairs"]) fun _ _ _ _ _ _ us hl => match us, hl with | [_, _], _ => rfl
  have m_party_is_right := PySem.W.mg_of X G a_party_is_right
  have b_how_many := F_how_many.binds (ps := ["bits"]) fun _ _ _ _ _ _ us hl => match us, hl with | [_], _ => rfl
  have m_how_many := PySem.W.mg_of X G a_how_many
  have b_has_guest := F_has_guest.binds (ps := ["bits", "guest"]) fun _ _ _ _ _ _ us hl => match us, hl with | [_, _], _ => rfl
  have m_has_guest := PySem.W.mg_of X G a_has_guest
  have b_acquaintances := F_acquaintances.binds (ps := ["n", "pairs"]) fun _ _ _ _ _ _ us hl => match us, hl with | [_, _], _ => rfl
  have m_acquaintances := PySem.W.mg_of X G a_acquaintances
  have b_who_cannot_come := F_who_cannot_come.binds (ps := ["k", "sure_bits", "known", "coming"]) fun _ _ _ _ _ _ us hl => match us, hl with | [_, _, _, _], _ => rfl
  have m_who_cannot_come := PySem.W.mg_of X G a_who_cannot_come
  have b_terms_are_right := F_terms_are_right.binds (ps := ["n", "k", "sure_bits"]) fun _ _ _ _ _ _ us hl => match us, hl with | [_, _, _], _ => rfl
  have m_terms_are_right := PySem.W.mg_of X G a_terms_are_right
  have b_left_by_rounds := F_left_by_rounds.binds (ps := ["k", "sure_bits", "known"]) fun _ _ _ _ _ _ us hl => match us, hl with | [_, _, _], _ => rfl
  have m_left_by_rounds := PySem.W.mg_of X G a_left_by_rounds
  exact ⟨PySem.W.fnOf "comes" "comes" (defArgs sComes) (defBody sComes) (defScope sComes) .none kV_comes dc_comes pm_comes an_comes cd_comes ct_comes, fun s us hu => match us, hu with | [_, _, _, _], _ => .of_eq rfl, fun base _ _ => ok_comes T F_comes (ok_party T F_party_is_right F_pairs_are_right m_pairs_are_right b_pairs_are_right) (ok_terms T F_terms_are_right) (ok_acq T F_acquaintances) (ok_left T F_left_by_rounds (ok_who T F_who_cannot_come F_has_guest F_how_many m_has_guest m_how_many b_has_guest b_how_many) m_who_cannot_come k_who_cannot_come b_who_cannot_come) (ok_how T F_how_many) m_party_is_right m_terms_are_right m_acquaintances m_left_by_rounds m_how_many k_party_is_right k_terms_are_right k_acquaintances k_left_by_rounds k_how_many b_party_is_right b_terms_are_right b_acquaintances b_left_by_rounds b_how_many⟩
end Wc
open PySem PySem.W PyProof.Rows
set_option maxRecDepth 100000 in
set_option maxHeartbeats 8000000 in
theorem PySem.Challenge.cw_whocomes_s01_comes_holds : PySem.Challenge.rw_whocomes_s01_comes.Holds := by
  w_on; k_headS; (case hw => exact ⟨[.int 0, .int 0, .int 0, .list []], by decide +kernel, by decide +kernel⟩)
  k_fillS
  refine L2.walk_specK (r := PySem.Challenge.rw_whocomes_s01_comes) (k := 4) (CX := L2.CX0) (ps := ["n", "k", "sure_bits", "pairs"]) (sp := Wc.spComes) (by decide +kernel) rfl rfl ⟨rfl, by decide, by decide⟩ (fun w h Y => PySem.W.kIn_of Y) ?F ?S (fun _ _ _ _ z => z)
  case F =>
    intro w mg fa h Y KX G hmg
    refine' Wc.all_mk KX G hmg ?a_pairs_are_right ?l_pairs_are_right ?c_pairs_are_right ?k_pairs_are_right ?a_party_is_right ?l_party_is_right ?c_party_is_right ?k_party_is_right ?a_how_many ?l_how_many ?c_how_many ?k_how_many ?a_has_guest ?l_has_guest ?c_has_guest ?k_has_guest ?a_acquaintances ?l_acquaintances ?c_acquaintances ?k_acquaintances ?a_who_cannot_come ?l_who_cannot_come ?c_who_cannot_come ?k_who_cannot_come ?a_terms_are_right ?l_terms_are_right ?c_terms_are_right ?k_terms_are_right ?a_left_by_rounds ?l_left_by_rounds ?c_left_by_rounds ?k_left_by_rounds ?a_comes ?l_comes ?c_comes ?k_comes ?g_MOST_GUESTS ?g_MOST_PAIRS ?g_MOST_ASKED ?g_REFUSAL ?n_len ?n_range ?n_sum
    (case a_pairs_are_right => k_is)
    (case l_pairs_are_right => k_is)
    (case c_pairs_are_right => k_is)
    (case k_pairs_are_right => k_is)
    (case a_party_is_right => k_is)
    (case l_party_is_right => k_is)
    (case c_party_is_right => k_is)
    (case k_party_is_right => k_is)
    (case a_how_many => k_is)
    (case l_how_many => k_is)
    (case c_how_many => k_is)
    (case k_how_many => k_is)
    (case a_has_guest => k_is)
    (case l_has_guest => k_is)
    (case c_has_guest => k_is)
    (case k_has_guest => k_is)
    (case a_acquaintances => k_is)
    (case l_acquaintances => k_is)
    (case c_acquaintances => k_is)
    (case k_acquaintances => k_is)
    (case a_who_cannot_come => k_is)
    (case l_who_cannot_come => k_is)
    (case c_who_cannot_come => k_is)
    (case k_who_cannot_come => k_is)
    (case a_terms_are_right => k_is)
    (case l_terms_are_right => k_is)
    (case c_terms_are_right => k_is)
    (case k_terms_are_right => k_is)
    (case a_left_by_rounds => k_is)
    (case l_left_by_rounds => k_is)
    (case c_left_by_rounds => k_is)
    (case k_left_by_rounds => k_is)
    (case a_comes => k_is)
    (case l_comes => k_is)
    (case c_comes => k_is)
    (case k_comes => k_is)
    (case g_MOST_GUESTS => k_is)
    (case g_MOST_PAIRS => k_is)
    (case g_MOST_ASKED => k_is)
    (case g_REFUSAL => k_is)
    (case n_len => k_is)
    (case n_range => k_is)
    (case n_sum => k_is)
  case S =>
    intro K H xs a hO hwi hask hx
    obtain ⟨n, k, s, ns, u⟩ := a
    have q : (Codec.inInt 0 4294967295 n && (Codec.inInt 0 4294967295 k && (Codec.inInt 0 4294967295 s && (((Codec.inLen 0 60 ns && ns.all (Codec.inInt 0 255)) && true))))) = true := hwi
    simp only [Bool.and_eq_true, List.all_eq_true, Codec.inInt_iff] at q
    obtain ⟨q_n, q_k, q_s, ⟨_, q4⟩, _⟩ := q
    cases hx with
    | cons h0 hx =>
    cases hx with
    | cons h1 hx =>
    cases hx with
    | cons h2 hx =>
    cases hx with
    | cons h3 hx =>
    cases hx
    cases h0
    cases h1
    cases h2
    cases h3 with
    | lst hs ha =>
      have e := L2.ints_dw ns _ ha
      subst e
      exact ⟨n, k, s, _, ns, rfl, hs, ⟨q_n.1, q_k.1, q_s.1⟩, fun x hx => (q4 x hx).1, fun H' p hp => .lst (L2.SqL.of hp) (L2.dw_ints _)⟩
