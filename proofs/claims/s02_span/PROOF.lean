import PyProof.Rows.All
import Wide.All
import OpenK.AllK
import Wide.FinOn
import Open.SpecLaws
import KE.OsGo
import HandS.ForMost
import HandS.ForSpec
import HandS.WideBits
import HandS.Evl
import PySem.Challenge.RW_beadframes_s02_span
set_option Elab.async false
set_option maxRecDepth 100000
set_option maxHeartbeats 4000000
namespace Bf
open Na

/-! ### one rod's seven numbers -/
def sound (b w : Nat) : Bool := if b = 0 ∨ w = 0 then b == w else decide (b ≤ 15) && decide (w ≤ 63)
def ix (g : List Nat) (j : Nat) : Nat := g.getD j 0
def decks (g : List Nat) : List (Nat × Nat) := [(ix g 1, ix g 2), (ix g 3, ix g 4), (ix g 5, ix g 6)]
def worthT (g : List Nat) : Nat := (decks g).foldl (fun t d => t + d.1 * d.2) 0
def inTurn (g : List Nat) : Bool := if ix g 1 = 0 then false else decide (0 < ix g 3) || decide (ix g 5 = 0)
def numsSound (g : List Nat) : Bool := if ix g 0 < 2 ∨ 20 < ix g 0 then false else if (decks g).all (fun d => sound d.1 d.2) then inTurn g else false
def more (w : Nat) : Nat → Nat → Nat
  | 0, c => c
  | k + 1, c => let x := more w k c
    x ||| (x <<< w)
def counts (g : List Nat) : Nat := (decks g).foldl (fun c d => more d.2 d.1 c) 1
def allPushed (g : List Nat) : Bool := (counts g &&& (2 ^ ix g 0 - 1)) == 2 ^ ix g 0 - 1
def broken (g : List Nat) : Nat := if numsSound g = false then 2 else if 255 < worthT g then 3 else if allPushed g = false then 4 else 0

/-! ### decks -/
def mk (d : Nat × Nat) : Deck := ⟨d.1, d.2⟩
theorem rodOf_decks (g : List Nat) : (rodOf g).decks = ((decks g).filter fun d => d.1 != 0).map mk := by
  unfold rodOf decks mk
  show List.map (fun j => (⟨ix g (1 + 2 * j), ix g (2 + 2 * j)⟩ : Deck)) (List.filter (fun j => ix g (1 + 2 * j) != 0) [0, 1, 2]) = _
  by_cases h1 : ix g 1 = 0 <;> by_cases h3 : ix g 3 = 0 <;> by_cases h5 : ix g 5 = 0 <;> simp [h1, h3, h5, List.filter_cons, List.filter_nil]
theorem rodOf_ratio (g : List Nat) : (rodOf g).ratio = ix g 0 := rfl

theorem total_cons (x : Nat) (l : List Nat) : total (x :: l) = x + total l := rfl
theorem most_eq (g : List Nat) : (rodOf g).most = worthT g := by
  unfold Rod.most
  rw [rodOf_decks]
  unfold worthT decks mk
  by_cases h1 : ix g 1 = 0 <;> by_cases h3 : ix g 3 = 0 <;> by_cases h5 : ix g 5 = 0 <;>
    simp [h1, h3, h5, List.filter_cons, List.filter_nil, total_cons, total] <;> omega

theorem beq_zero {a : Nat} (h : ¬a = 0) : (a == 0) = false := by simp [h]
theorem good_eq (g : List Nat) : rodGood g = numsSound g := by
  unfold rodGood Rod.formed_
  rw [rodOf_decks, rodOf_ratio]
  unfold numsSound inTurn sound decks mk Deck.good
  show (ix g 1 != 0 && ([0, 1, 2] : List Nat).all (fun j => (ix g (1 + 2 * j) == 0) == (ix g (2 + 2 * j) == 0)) && ((ix g 3 != 0 || ix g 5 == 0) && _)) = _
  simp only [List.all_cons, List.all_nil, Nat.mul_zero, Nat.add_zero, Nat.mul_one]
  generalize ix g 0 = r
  generalize ix g 1 = a
  generalize ix g 2 = b
  generalize ix g 3 = c
  generalize ix g 4 = d
  generalize ix g 5 = e
  generalize ix g 6 = f
  rw [Bool.eq_iff_iff]
  by_cases h1 : a = 0 <;> by_cases h2 : b = 0 <;> by_cases h3 : c = 0 <;> by_cases h4 : d = 0 <;> by_cases h5 : e = 0 <;> by_cases h6 : f = 0 <;>
    simp [h1, h2, h3, h4, h5, h6, List.filter_cons, List.filter_nil] <;> (try simp only [beq_zero h1, beq_zero h2, true_and, and_true]) <;> (try simp only [beq_zero h3, beq_zero h4, true_and, and_true]) <;> (try simp only [beq_zero h5, beq_zero h6, true_and, and_true]) <;> omega

/-! ### what can be pushed, as bits -/
theorem more_bit (w : Nat) : ∀ (k c n : Nat), (more w k c).testBit n = true ↔ ∃ j, j ≤ k ∧ j * w ≤ n ∧ c.testBit (n - j * w) = true
  | 0, c, n => by
    constructor
    · intro h
      exact ⟨0, Nat.le_refl _, by omega, by simpa [more] using h⟩
    · rintro ⟨j, hj, hn, h⟩
      obtain rfl : j = 0 := by omega
      simpa [more] using h
  | k + 1, c, n => by
    show ((more w k c) ||| (more w k c) <<< w).testBit n = true ↔ _
    rw [Nat.testBit_or, Nat.testBit_shiftLeft, Bool.or_eq_true, Bool.and_eq_true, decide_eq_true_iff, more_bit w k c n, more_bit w k c (n - w)]
    constructor
    · rintro (⟨j, hj, hn, h⟩ | ⟨hw, j, hj, hn, h⟩)
      · exact ⟨j, by omega, hn, h⟩
      · refine ⟨j + 1, by omega, ?_, ?_⟩
        · rw [Nat.succ_mul]; omega
        · rw [Nat.succ_mul, show n - (j * w + w) = n - w - j * w by omega]; exact h
    · rintro ⟨j, hj, hn, h⟩
      by_cases hk : j ≤ k
      · exact Or.inl ⟨j, hk, hn, h⟩
      · obtain rfl : j = k + 1 := by omega
        rw [Nat.succ_mul] at hn h
        exact Or.inr ⟨by omega, k, Nat.le_refl _, by omega, by rw [show n - w - k * w = n - (k * w + w) by omega]; exact h⟩

theorem worthOf_cons (d : Deck) (r : List Deck) (k : Nat) (p : Push) : worthOf (d :: r) (k :: p) = k * d.worth + worthOf r p := rfl
theorem mem_pushes_cons {d : Deck} {r : List Deck} {q : Push} : q ∈ pushes (d :: r) ↔ ∃ k p, k ≤ d.beads ∧ p ∈ pushes r ∧ q = k :: p := by
  show q ∈ (List.range (d.beads + 1)).flatMap _ ↔ _
  rw [List.mem_flatMap]
  constructor
  · rintro ⟨k, hk, h⟩
    obtain ⟨p, hp, e⟩ := List.mem_map.mp h
    exact ⟨k, p, by have := List.mem_range.mp hk; omega, hp, e.symm⟩
  · rintro ⟨k, p, hk, hp, e⟩
    exact ⟨k, List.mem_range.mpr (by omega), List.mem_map.mpr ⟨p, hp, e.symm⟩⟩
theorem fold_bit : ∀ (l : List (Nat × Nat)) (c n : Nat), ((l.foldl (fun c d => more d.2 d.1 c) c).testBit n = true ↔
    ∃ m p, c.testBit m = true ∧ p ∈ pushes (l.map mk) ∧ n = m + worthOf (l.map mk) p)
  | [], c, n => by
    constructor
    · intro h
      exact ⟨n, [], h, List.mem_singleton.mpr rfl, rfl⟩
    · rintro ⟨m, p, h, hp, e⟩
      obtain rfl := List.mem_singleton.mp hp
      obtain rfl : n = m := e
      exact h
  | d :: l, c, n => by
    rw [List.foldl_cons, fold_bit l]
    constructor
    · rintro ⟨m, p, h, hp, e⟩
      obtain ⟨j, hj, hm, hb⟩ := (more_bit _ _ _ _).mp h
      refine ⟨m - j * d.2, j :: p, hb, mem_pushes_cons.mpr ⟨j, p, hj, hp, rfl⟩, ?_⟩
      show n = m - j * d.2 + (j * d.2 + worthOf (l.map mk) p)
      omega
    · rintro ⟨m, q, h, hq, e⟩
      obtain ⟨k, p, hk, hp, rfl⟩ := mem_pushes_cons.mp hq
      have e' : n = m + (k * d.2 + worthOf (l.map mk) p) := e
      refine ⟨m + k * d.2, p, (more_bit _ _ _ _).mpr ⟨k, hk, by omega, by rw [Nat.add_sub_cancel]; exact h⟩, hp, by omega⟩
theorem fold_skip : ∀ (l : List (Nat × Nat)) (c : Nat), l.foldl (fun c d => more d.2 d.1 c) c = (l.filter fun d => d.1 != 0).foldl (fun c d => more d.2 d.1 c) c
  | [], _ => rfl
  | d :: l, c => by
    rw [List.foldl_cons, fold_skip l]
    by_cases h : d.1 = 0
    · rw [List.filter_cons, if_neg (by simp [h]), h]
      rfl
    · rw [List.filter_cons, if_pos (by simp [h]), List.foldl_cons]
theorem one_bit (m : Nat) : Nat.testBit 1 m = true ↔ m = 0 := by
  cases m with
  | zero => simp
  | succ m => simp [Nat.testBit_succ]
theorem counts_bit (g : List Nat) (n : Nat) : (counts g).testBit n = true ↔ ∃ p ∈ pushes (rodOf g).decks, worthOf (rodOf g).decks p = n := by
  unfold counts
  rw [fold_skip, fold_bit, rodOf_decks]
  constructor
  · rintro ⟨m, p, h, hp, e⟩
    obtain rfl := (one_bit m).mp h
    exact ⟨p, hp, by omega⟩
  · rintro ⟨p, hp, e⟩
    exact ⟨0, p, by decide, hp, by omega⟩
theorem mask_bits (c r : Nat) : ((c &&& (2 ^ r - 1)) == 2 ^ r - 1) = true ↔ ∀ d, d < r → c.testBit d = true := by
  rw [beq_iff_eq]
  constructor
  · intro h d hd
    have e := congrArg (fun x => Nat.testBit x d) h
    simp only [Nat.testBit_and, Nat.testBit_two_pow_sub_one, decide_eq_true hd, Bool.and_true] at e
    exact e
  · intro h
    apply Nat.eq_of_testBit_eq
    intro d
    rw [Nat.testBit_and, Nat.testBit_two_pow_sub_one]
    by_cases hd : d < r
    · rw [h d hd]; simp
    · simp [hd]
theorem whole_eq (g : List Nat) : (rodOf g).whole = allPushed g := by
  rw [Bool.eq_iff_iff]
  unfold allPushed
  rw [mask_bits]
  unfold Rod.whole
  rw [List.all_eq_true, rodOf_ratio]
  constructor
  · intro h d hd
    obtain ⟨p, hp, e⟩ := List.any_eq_true.mp (h d (List.mem_range.mpr hd))
    exact (counts_bit g d).mpr ⟨p, hp, beq_iff_eq.mp e⟩
  · intro h d hd
    obtain ⟨p, hp, e⟩ := (counts_bit g d).mp (h d (List.mem_range.mp hd))
    exact List.any_eq_true.mpr ⟨p, hp, beq_iff_eq.mpr e⟩
theorem wrong_eq (g : List Nat) : rodWrong g = broken g := by
  unfold rodWrong broken
  rw [good_eq, most_eq, whole_eq]
end Bf
namespace Bf
open Na
/-! ### the list as rods -/
theorem drop_nil_of {l : List Nat} {n : Nat} (h : l.length ≤ n) : l.drop n = [] := List.drop_eq_nil_of_le h
def cuts (l : List Nat) : List (List Nat) := (List.range (l.length / 7)).map fun i => (l.drop (7 * i)).take 7
theorem by_cuts : ∀ (n : Nat) (l : List Nat), l.length % 7 = 0 → l.length / 7 < n → by_ 7 n l = cuts l
  | 0, l, _, h => by omega
  | n + 1, l, h0, h => by
    show (if l = [] then [] else l.take 7 :: by_ 7 n (l.drop 7)) = cuts l
    by_cases e : l = []
    · rw [if_pos e, e]
      rfl
    · rw [if_neg e]
      have hl : 0 < l.length := List.length_pos_iff.mpr e
      have h7 : 7 ≤ l.length := by omega
      rw [by_cuts n (l.drop 7) (by rw [List.length_drop]; omega) (by rw [List.length_drop]; omega)]
      unfold cuts
      rw [List.length_drop, show l.length / 7 = (l.length - 7) / 7 + 1 by omega, List.range_succ_eq_map, List.map_cons, List.map_map]
      refine congrArg (List.cons (l.take 7)) (List.map_congr_left fun i _ => ?_)
      rw [List.drop_drop]
      show (l.drop (7 + 7 * i)).take 7 = (l.drop (7 * (i + 1))).take 7
      rw [show 7 * (i + 1) = 7 + 7 * i by omega]
theorem groups_cuts {l : List Nat} (h : l.length % 7 = 0) : groups 7 l = cuts l := by_cuts _ l h (by omega)
theorem cuts_len (l : List Nat) : (cuts l).length = l.length / 7 := by
  unfold cuts
  rw [List.length_map, List.length_range]
theorem cuts_at {l : List Nat} {i : Nat} (h : i < l.length / 7) : (cuts l)[i]? = some ((l.drop (7 * i)).take 7) := by
  unfold cuts
  rw [List.getElem?_map, List.getElem?_range h]
  rfl
theorem cuts_seven {l : List Nat} {g : List Nat} (h : g ∈ cuts l) : g.length = 7 := by
  obtain ⟨i, hi, rfl⟩ := List.mem_map.mp h
  rw [List.length_take, List.length_drop]
  have := List.mem_range.mp hi
  omega
theorem cuts_mem {l : List Nat} {g : List Nat} (h : g ∈ cuts l) : ∀ x ∈ g, x ∈ l := by
  obtain ⟨i, hi, rfl⟩ := List.mem_map.mp h
  exact fun x hx => List.mem_of_mem_drop (List.mem_of_mem_take hx)

/-! ### the make's fault -/
def mfault (l : List Nat) : List Nat := match makeOf l with
  | .error e => [e.rule, e.place]
  | .ok _ => []
def wholeRods (l : List Nat) : Bool := if l.length = 0 ∨ 448 < l.length then false else l.length % 7 == 0
theorem whole_facts {l : List Nat} (h : wholeRods l = true) : 0 < l.length ∧ l.length ≤ 448 ∧ l.length % 7 = 0 := by
  unfold wholeRods at h
  split at h
  · cases h
  · have := beq_iff_eq.mp h
    omega
theorem makeOf_bad {l : List Nat} (h : wholeRods l = false) : makeOf l = .error ⟨1, 0⟩ := by
  unfold makeOf
  refine if_pos ?_
  unfold wholeRods at h
  show l.length % 7 ≠ 0 ∨ l.length = 0 ∨ 448 < l.length
  split at h
  · omega
  · have : ¬ l.length % 7 = 0 := by simpa using h
    exact Or.inl this
theorem makeOf_whole {l : List Nat} (h : wholeRods l = true) : makeOf l = match (cuts l).findIdx? fun (g : List Nat) => broken g != 0 with
    | some i => .error ⟨broken ((cuts l).getD i []), i⟩
    | none => .ok ((cuts l).map rodOf) := by
  obtain ⟨h1, h2, h3⟩ := whole_facts h
  unfold makeOf
  rw [if_neg (show ¬ (l.length % 7 ≠ 0 ∨ l.length = 0 ∨ 7 * RODS < l.length) by
    show ¬ (l.length % 7 ≠ 0 ∨ l.length = 0 ∨ 448 < l.length)
    omega), groups_cuts h3, show rodWrong = broken from funext wrong_eq]
  cases (cuts l).findIdx? (fun (g : List Nat) => broken g != 0) <;> rfl
theorem mfault_bad {l : List Nat} (h : wholeRods l = false) : mfault l = [1, 0] := by
  unfold mfault
  rw [makeOf_bad h]
theorem makeOf_at {l : List Nat} (h : wholeRods l = true) {i : Nat} {g : List Nat} (hi : (cuts l)[i]? = some g) (hb : broken g ≠ 0) (ha : ∀ (j : Nat) (g' : List Nat), j < i → (cuts l)[j]? = some g' → broken g' = 0) : makeOf l = .error ⟨broken g, i⟩ := by
  rw [makeOf_whole h]
  have hlt : i < (cuts l).length := (List.getElem?_eq_some_iff.mp hi).1
  have e : (cuts l).findIdx? (fun (g : List Nat) => broken g != 0) = some i := by
    rw [List.findIdx?_eq_some_iff_getElem]
    refine ⟨hlt, ?_, ?_⟩
    · rw [(List.getElem?_eq_some_iff.mp hi).2]
      simpa using hb
    · intro j hj
      have := ha j _ hj (List.getElem?_eq_getElem (by omega))
      simp [this]
  rw [e]
  show Except.error (⟨broken ((cuts l).getD i []), i⟩ : Fault) = _
  rw [List.getD_eq_getElem?_getD, hi]
  rfl
theorem mfault_at {l : List Nat} (h : wholeRods l = true) {i : Nat} {g : List Nat} (hi : (cuts l)[i]? = some g) (hb : broken g ≠ 0) (ha : ∀ (j : Nat) (g' : List Nat), j < i → (cuts l)[j]? = some g' → broken g' = 0) : mfault l = [broken g, i] := by
  unfold mfault
  rw [makeOf_at h hi hb ha]
theorem makeOf_ok {l : List Nat} (h : wholeRods l = true) (ha : ∀ (j : Nat) (g : List Nat), (cuts l)[j]? = some g → broken g = 0) : makeOf l = .ok ((cuts l).map rodOf) := by
  rw [makeOf_whole h]
  have e : (cuts l).findIdx? (fun (g : List Nat) => broken g != 0) = none := by
    rw [List.findIdx?_eq_none_iff]
    intro g hg
    obtain ⟨j, hj⟩ := List.getElem?_of_mem hg
    simp [ha j g hj]
  rw [e]
theorem mfault_ok {l : List Nat} (h : wholeRods l = true) (ha : ∀ (j : Nat) (g : List Nat), (cuts l)[j]? = some g → broken g = 0) : mfault l = [] := by
  unfold mfault
  rw [makeOf_ok h ha]
/-- a make: no fault -/
theorem mfault_nil {l : List Nat} (h : mfault l = []) : wholeRods l = true ∧ makeOf l = .ok ((cuts l).map rodOf) ∧ ∀ g ∈ cuts l, broken g = 0 := by
  cases hw : wholeRods l with
  | false =>
    rw [mfault_bad hw] at h
    cases h
  | true =>
    have key : ∀ (j : Nat) (g : List Nat), (cuts l)[j]? = some g → broken g = 0 := by
      cases e : (cuts l).findIdx? (fun (g : List Nat) => broken g != 0) with
      | none =>
        rw [List.findIdx?_eq_none_iff] at e
        intro j g hj
        simpa using e g (List.mem_of_getElem? hj)
      | some i =>
        unfold mfault at h
        rw [makeOf_whole hw, e] at h
        cases h
    refine ⟨rfl, makeOf_ok hw key, fun g hg => ?_⟩
    obtain ⟨j, hj⟩ := List.getElem?_of_mem hg
    exact key j g hj
theorem makeOf_err {l : List Nat} (h : mfault l ≠ []) : ∃ e, makeOf l = .error e ∧ mfault l = [e.rule, e.place] := by
  unfold mfault at h ⊢
  cases e : makeOf l with
  | error f => exact ⟨f, rfl, rfl⟩
  | ok m =>
    rw [e] at h
    exact absurd rfl h
/-! ### judge -/
def judged (l : List Nat) : List Int := if mfault l = [] then [0] else -5 :: (mfault l).map (fun n : Nat => (n : Int))
theorem judge_eq (ns : List Int) : PyYqacaa.judge ns = judged (ns.map Int.toNat) := by
  show BdNeutral.told (Bd.ofMake (ns.map Int.toNat) fun _ => .nums []) = _
  unfold judged Bd.ofMake
  by_cases h : mfault (ns.map Int.toNat) = []
  · rw [if_pos h, (mfault_nil h).2.1]
    rfl
  · obtain ⟨e, h1, h2⟩ := makeOf_err h
    rw [if_neg h, h1, h2]
    rfl
/-! ### span -/
def prodR (gs : List (List Nat)) : Nat := gs.foldl (fun p g => p * ix g 0) 1
theorem prod_span : ∀ (gs : List (List Nat)) (p : Nat), gs.foldl (fun p g => p * ix g 0) p = p * Na.span (gs.map rodOf)
  | [], p => (Nat.mul_one p).symm
  | g :: gs, p => by
    rw [List.foldl_cons, prod_span gs]
    show p * ix g 0 * _ = p * (ix g 0 * Na.span (gs.map rodOf))
    rw [Nat.mul_assoc]
def spanned (l : List Nat) : List Int := if mfault l = [] then [0, (prodR (cuts l) : Int)] else -5 :: (mfault l).map (fun n : Nat => (n : Int))
theorem span_eq (ns : List Int) : PyYqacaa.span ns = spanned (ns.map Int.toNat) := by
  show BdNeutral.told (Bd.ofMake (ns.map Int.toNat) fun m => .nums [Na.span m]) = _
  unfold spanned Bd.ofMake
  by_cases h : mfault (ns.map Int.toNat) = []
  · rw [if_pos h, (mfault_nil h).2.1]
    unfold prodR
    rw [prod_span, Nat.one_mul]
    rfl
  · obtain ⟨e, h1, h2⟩ := makeOf_err h
    rw [if_neg h, h1, h2]
    rfl
end Bf
namespace Bf
open Na
/-! ### bounds and single turns -/
theorem sound_le {b w : Nat} (h : sound b w = true) : b ≤ 15 ∧ w ≤ 63 := by
  unfold sound at h
  split at h
  · rename_i c
    have e := beq_iff_eq.mp h
    omega
  · simp at h
    exact h
theorem nums_facts {g : List Nat} (h : numsSound g = true) : 2 ≤ ix g 0 ∧ ix g 0 ≤ 20 ∧ (∀ d ∈ decks g, sound d.1 d.2 = true) ∧ inTurn g = true := by
  unfold numsSound at h
  split at h
  · cases h
  · split at h
    · rename_i c a
      exact ⟨by omega, by omega, fun d hd => List.all_eq_true.mp a d hd, h⟩
    · cases h
theorem more_lt {w m : Nat} : ∀ (k c : Nat), c < 2 ^ m → more w k c < 2 ^ (m + w * k)
  | 0, c, h => h
  | k + 1, c, h => by
    have ih := more_lt (w := w) k c h
    show (more w k c) ||| (more w k c) <<< w < _
    rw [Nat.mul_succ, ← Nat.add_assoc]
    refine Nat.or_lt_two_pow ?_ ?_
    · exact Nat.lt_of_lt_of_le ih (Nat.pow_le_pow_right (by decide) (by omega))
    · rw [Nat.shiftLeft_eq, Nat.pow_add 2 (m + w * k) w]
      exact Nat.mul_lt_mul_of_pos_right ih (Nat.two_pow_pos w)
theorem more_lt' {w m k c : Nat} (h : c < 2 ^ m) (hk : k ≤ 15) (hw : w ≤ 63) : more w k c < 2 ^ (m + 945) :=
  Nat.lt_of_lt_of_le (more_lt k c h) (Nat.pow_le_pow_right (by decide) (by
    have := Nat.mul_le_mul hw hk
    omega))
theorem fold_lt : ∀ (l : List (Nat × Nat)) (c m : Nat), c < 2 ^ m → (∀ d ∈ l, sound d.1 d.2 = true) → l.foldl (fun c d => more d.2 d.1 c) c < 2 ^ (m + 945 * l.length)
  | [], c, m, h, _ => h
  | d :: l, c, m, h, hs => by
    have s := sound_le (hs d (List.mem_cons_self ..))
    have := fold_lt l (more d.2 d.1 c) (m + 945) (more_lt' h s.1 s.2) fun x hx => hs x (List.mem_cons_of_mem _ hx)
    rw [List.foldl_cons, List.length_cons]
    rw [show m + 945 * (l.length + 1) = m + 945 + 945 * l.length by omega]
    exact this
theorem worthT_le {g : List Nat} (h7 : g.length = 7) (h : ∀ x ∈ g, x < 4294967296) (j : Nat) : ix g j < 4294967296 := by
  unfold ix
  rw [List.getD_eq_getElem?_getD]
  cases e : g[j]? with
  | none => exact (by decide : 0 < 4294967296)
  | some x => exact h x (List.mem_of_getElem? e)
theorem decks_lt {g : List Nat} (h7 : g.length = 7) (h : ∀ x ∈ g, x < 4294967296) {d : Nat × Nat} (hd : d ∈ decks g) : d.1 < 4294967296 ∧ d.2 < 4294967296 := by
  have k := worthT_le h7 h
  unfold decks at hd
  simp only [List.mem_cons, List.not_mem_nil, or_false] at hd
  rcases hd with rfl | rfl | rfl
  · exact ⟨k 1, k 2⟩
  · exact ⟨k 3, k 4⟩
  · exact ⟨k 5, k 6⟩
theorem prod_lt : ∀ (gs : List (List Nat)) (p m : Nat), p < 2 ^ m → (∀ g ∈ gs, ix g 0 < 2 ^ 32) → gs.foldl (fun p g => p * ix g 0) p < 2 ^ (m + 32 * gs.length)
  | [], p, m, h, _ => h
  | g :: gs, p, m, h, hs => by
    have := prod_lt gs (p * ix g 0) (m + 32) (by
      rw [Nat.pow_add]
      have a := hs g (List.mem_cons_self ..)
      exact Nat.mul_lt_mul_of_lt_of_le h (Nat.le_of_lt a) (by decide)) fun x hx => hs x (List.mem_cons_of_mem _ hx)
    rw [List.foldl_cons, List.length_cons, show m + 32 * (gs.length + 1) = m + 32 + 32 * gs.length by omega]
    exact this
theorem mem_take {α : Type} {l : List α} {i : Nat} {x : α} (h : x ∈ l.take i) : x ∈ l := List.mem_of_mem_take h
theorem nums_false {g : List Nat} {d : Nat × Nat} (hd : d ∈ decks g) (h : sound d.1 d.2 = false) : numsSound g = false := by
  cases e : numsSound g with
  | false => rfl
  | true =>
    have := (nums_facts e).2.2.1 d hd
    rw [h] at this
    cases this
theorem nums_ratio {g : List Nat} (h : (decide (ix g 0 < 2) || decide (20 < ix g 0)) = true) : numsSound g = false := by
  unfold numsSound
  rw [if_pos (by simpa using h)]
theorem nums_else {g : List Nat} (h : (decide (ix g 0 < 2) || decide (20 < ix g 0)) = false) (ha : ∀ d ∈ decks g, sound d.1 d.2 = true) : numsSound g = inTurn g := by
  unfold numsSound
  rw [if_neg (by simpa using h), if_pos (List.all_eq_true.mpr ha)]
end Bf
namespace Bf
open PySem PySem.Spec PyProof.Rows L2
open Evl

/-! ### a def as callers see it -/
structure Def (P : Program) (w : World) (K : PySem.W.Frag) (mg : Str → Option Value) (base : Heap) (name : Str) (k : Nat) (ps : List Str) (sp : Sp) : Prop where
  ex : ∃ (f : Addr) (fd : FuncData), mg name = some (.ref f) ∧ PySem.W.keepIn K (.ref f) = true ∧ Binds K fd ps [] ∧ FnOk P w K mg base CX0 k f fd ps sp
section
variable {X : Cx}
theorem pe_callD {name : Str} {j k : Nat} {ps : List Str} {sp : Sp} {p pos : Pos} {e : Expr} {es : List Expr} {t : TA} (D : Def X.prog X.w X.K X.mg X.base name k ps sp) (hr : Room j X.A) (hk : k ≤ j) (ha : PA X (e :: es) t) (hg : Gl X name := by rfl)
    (hdb : (name == ("__debug__" : Str)) = false := by decide) (he : starEach (e :: es) X.env = (false, eval e X.env) :: starEach es X.env := by rfl) (hpl : (backTo pos (starEach es X.env)).any (·.1) = false := by rfl) :
    PE X (.Call (.Name name p) (e :: es) [] pos) (tCall sp [] E0 t) := by
  obtain ⟨f, fd, h1, h2, h3, h4⟩ := D.ex
  exact pe_call (hdb := hdb) h4 (hr.mono hk) hg h1 h2 h3 .nil pass0 ha (he := he) (hpl := hpl)
theorem pe_gint {x : Str} {i : Int} {pos : Pos} (h : ∃ t, X.mg x = some (.int i t)) (hg : Gl X x := by rfl) (hdb : (x == ("__debug__" : Str)) = false := by decide) : PE X (.Name x pos) (tC (.int i)) := by
  obtain ⟨t, h⟩ := h
  exact pe_glob hg h ⟨_, rfl⟩ hdb
end

/-! ### what a value stands for -/
structure Rep (α : Type) where
  at_ : Hp → V → α → Prop
  mono : ∀ {H H' : Hp} {v : V} {a : α}, Ex H H' → at_ H v a → at_ H' v a
abbrev natV (n : Nat) : V := .int (n : Int)
def natR : Rep Nat := ⟨fun _ v n => v = natV n, fun _ h => h⟩
def pairR {α β : Type} (A : Rep α) (B : Rep β) : Rep (α × β) := ⟨fun H v a => ∃ t x y, v = .ref t ∧ H t = some (.tup [x, y]) ∧ A.at_ H x a.1 ∧ B.at_ H y a.2,
  fun e ⟨t, x, y, h1, h2, h3, h4⟩ => ⟨t, x, y, h1, e _ _ h2, A.mono e h3, B.mono e h4⟩⟩
def Items {α : Type} (A : Rep α) (H : Hp) (xs : List V) (l : List α) : Prop := xs.length = l.length ∧ ∀ (i : Nat) (a : α), l[i]? = some a → ∃ x, xs[i]? = some x ∧ A.at_ H x a
theorem Items.mono {α : Type} {A : Rep α} {H H' : Hp} {xs : List V} {l : List α} (e : Ex H H') (h : Items A H xs l) : Items A H' xs l :=
  ⟨h.1, fun i a hi => let ⟨x, h1, h2⟩ := h.2 i a hi; ⟨x, h1, A.mono e h2⟩⟩
theorem Items.nil {α : Type} {A : Rep α} {H : Hp} : Items A H [] [] := ⟨rfl, fun i a h => by simp at h⟩
theorem Items.cons {α : Type} {A : Rep α} {H : Hp} {x : V} {a : α} {xs : List V} {l : List α} (h1 : A.at_ H x a) (h : Items A H xs l) : Items A H (x :: xs) (a :: l) :=
  ⟨congrArg (· + 1) h.1, fun i b hi => match i, hi with
    | 0, hi => ⟨x, rfl, (Option.some.inj hi) ▸ h1⟩
    | i + 1, hi => h.2 i b hi⟩
theorem Items.snoc {α : Type} {A : Rep α} {H : Hp} {x : V} {a : α} {xs : List V} {l : List α} (h : Items A H xs l) (h1 : A.at_ H x a) : Items A H (xs ++ [x]) (l ++ [a]) := by
  refine ⟨by simp [h.1], fun i b hi => ?_⟩
  by_cases hl : i < l.length
  · rw [List.getElem?_append_left hl] at hi
    obtain ⟨y, h2, h3⟩ := h.2 i b hi
    exact ⟨y, by rw [List.getElem?_append_left (by rw [h.1]; exact hl)]; exact h2, h3⟩
  · rw [List.getElem?_append_right (by omega)] at hi
    have e : i - l.length = 0 := by
      have := (List.getElem?_eq_some_iff.mp hi).1
      simp at this
      omega
    rw [e] at hi
    have eb : a = b := Option.some.inj hi
    subst eb
    refine ⟨x, ?_, h1⟩
    rw [List.getElem?_append_right (by rw [h.1]; omega), h.1, e]
    rfl
theorem items_nat {H : Hp} {xs : List V} {l : List Nat} (h : Items natR H xs l) : xs = l.map natV := by
  apply List.ext_getElem?
  intro i
  rw [List.getElem?_map]
  cases e : l[i]? with
  | none =>
    rw [List.getElem?_eq_none_iff] at e
    rw [List.getElem?_eq_none_iff.mpr (by rw [h.1]; exact e)]
    rfl
  | some a =>
    obtain ⟨x, h1, h2⟩ := h.2 i a e
    rw [h1]
    exact congrArg some h2
theorem nat_items {H : Hp} (l : List Nat) : Items natR H (l.map natV) l :=
  ⟨List.length_map _, fun i a h => ⟨natV a, by rw [List.getElem?_map, h]; rfl, rfl⟩⟩
/-- a list that can be read -/
def seqR {α : Type} (K : PySem.W.Frag) (A : Rep α) : Rep (List α) := ⟨fun H v l => ∃ p xs, v = .ref p ∧ SqL K H p xs ∧ Items A H xs l,
  fun e ⟨p, xs, h1, h2, h3⟩ => ⟨p, xs, h1, ex_l e h2, h3.mono e⟩⟩
/-- a list that the program made -/
def lstR {α : Type} (A : Rep α) : Rep (List α) := ⟨fun H v l => ∃ p xs, v = .ref p ∧ H p = some (.lst xs) ∧ Items A H xs l,
  fun e ⟨p, xs, h1, h2, h3⟩ => ⟨p, xs, h1, e _ _ h2, h3.mono e⟩⟩
theorem lst_seq {α : Type} {K : PySem.W.Frag} {A : Rep α} {H : Hp} {v : V} {l : List α} (h : (lstR A).at_ H v l) : (seqR K A).at_ H v l :=
  let ⟨p, xs, h1, h2, h3⟩ := h
  ⟨p, xs, h1, sq_of h2, h3⟩
theorem nats_at {K : PySem.W.Frag} {H : Hp} {v : V} {l : List Nat} : (seqR K natR).at_ H v l ↔ ∃ p, v = .ref p ∧ SqL K H p (l.map natV) := by
  constructor
  · rintro ⟨p, xs, h1, h2, h3⟩
    rw [items_nat h3] at h2
    exact ⟨p, h1, h2⟩
  · rintro ⟨p, h1, h2⟩
    exact ⟨p, _, h1, h2, nat_items l⟩

def EvR {α : Type} (R : Rep α) (te : TE) (σ : L2.St) (H : Hp) (a : α) : Prop := ∀ H1, Ex H H1 → ∀ Q : VK, (∀ v H2, Ex H1 H2 → R.at_ H2 v a → Q v H2) → te σ H1 Q
def RetR {α : Type} (R : Rep α) (a : α) (H : Hp) (Q : VK) : Prop := ∀ v H2, Ex H H2 → R.at_ H2 v a → Q v H2
section
variable {K : PySem.W.Frag} {σ : L2.St} {H H' : Hp} {ta tb te tl : TE} {t u : TT} {x y z v : V} {α β : Type} {R : Rep α} {D : Ends} {tu tw tz : TS} {g : TG}
theorem EvR.mono {a : α} (e : Ex H H') (h : EvR R te σ H a) : EvR R te σ H' a := fun H1 a Q q => h H1 (e.trans a) Q q
theorem er_ev {a : α} (h : Ev te σ H v) (ha : R.at_ H v a) : EvR R te σ H a := fun H1 e Q q => h H1 e _ fun H2 e2 => q v H2 e2 (R.mono (e.trans e2) ha)
theorem er_nat {n : Nat} (h : Ev te σ H (natV n)) : EvR natR te σ H n := er_ev h rfl
theorem ev_nat {n : Nat} (h : EvR natR te σ H n) : Ev te σ H (natV n) := fun H1 e Q q => h H1 e _ fun v H2 e2 hv => by
  obtain rfl : v = natV n := hv
  exact q H2 e2
theorem er_nats {a : Addr} {l : List Nat} (h : Ev te σ H (.ref a)) (hs : SqL K H a (l.map natV)) : EvR (seqR K natR) te σ H l := er_ev h (nats_at.mpr ⟨a, rfl, hs⟩)
theorem er_tup {S : Rep β} {a : α} {b : β} (ha : EvR R ta σ H a) (hb : EvR S tb σ H b) : EvR (pairR R S) (tTup (tCons ta (tCons tb tNil))) σ H (a, b) := fun H1 e Q q =>
  ha H1 e _ fun x H2 e2 hx => hb H2 (e.trans e2) _ fun y H3 e3 hy => ⟨sz_of (by show 2 ≤ 100000; decide), fun p hp =>
    q _ _ ((e2.trans e3).trans (Ex.new hp)) ⟨p, x, y, rfl, upd_same, R.mono (e3.trans (Ex.new hp)) hx, S.mono (Ex.new hp) hy⟩⟩
/-- the items of a written list -/
def EvI (R : Rep α) (ta : TA) (σ : L2.St) (H : Hp) (l : List α) : Prop := ∀ H1, Ex H H1 → ∀ Q : List V → Hp → Prop, (∀ xs H2, Ex H1 H2 → Items R H2 xs l → Q xs H2) → ta σ H1 Q
theorem ei_nil : EvI R tNil σ H [] := fun H1 _ _ q => q [] H1 (Ex.refl H1) Items.nil
theorem ei_cons {a : α} {l : List α} {tr : TA} (h : EvR R ta σ H a) (hr : EvI R tr σ H l) : EvI R (tCons ta tr) σ H (a :: l) := fun H1 e _ q =>
  h H1 e _ fun x H2 e2 hx => hr H2 (e.trans e2) _ fun xs H3 e3 hxs => q _ H3 (e2.trans e3) (hxs.cons (R.mono e3 hx))
theorem er_lst {l : List α} {ta : TA} (h : EvI R ta σ H l) (hl : l.length ≤ 100000) : EvR (lstR R) (tLst ta) σ H l := fun H1 e _ q =>
  h H1 e _ fun xs H2 e2 hx => ⟨sz_of (by rw [hx.1]; exact hl), fun p hp => q _ _ (e2.trans (Ex.new hp)) ⟨p, xs, rfl, upd_same, hx.mono (Ex.new hp)⟩⟩
/-- the arguments of a call, one by one -/
def EvC (ta : TA) (σ : L2.St) (H : Hp) (P : List V → Hp → Prop) : Prop := ∀ H1, Ex H H1 → ∀ Q : List V → Hp → Prop, (∀ vs H2, Ex H1 H2 → P vs H2 → Q vs H2) → ta σ H1 Q
theorem ec_nil : EvC tNil σ H fun vs _ => vs = [] := fun H1 _ _ q => q [] H1 (Ex.refl H1) rfl
theorem ec_cons {a : α} {tr : TA} {P : List V → Hp → Prop} (h : EvR R ta σ H a) (hr : EvC tr σ H P) : EvC (tCons ta tr) σ H fun vs H2 => ∃ x r, vs = x :: r ∧ R.at_ H2 x a ∧ P r H2 := fun H1 e _ q =>
  h H1 e _ fun x H2 e2 hx => hr H2 (e.trans e2) _ fun r H3 e3 hr3 => q _ H3 (e2.trans e3) ⟨x, r, rfl, R.mono e3 hx, hr3⟩
theorem er_call {a : α} {sp : Sp} {E : XK} {ta : TA} {P : List V → Hp → Prop} (h : EvC ta σ H P) (hs : ∀ vs H1, Ex H H1 → P vs H1 → ∀ Q : VK, RetR R a H1 Q → ∀ E, sp vs H1 Q E) : EvR R (tCall sp [] E ta) σ H a := fun H1 e Q q =>
  h H1 e _ fun vs H2 e2 hp => by
    show sp (vs ++ []) H2 Q E
    rw [List.append_nil]
    exact hs vs H2 (e.trans e2) hp Q (fun v H3 e3 hv => q v H3 (e2.trans e3) hv) E
theorem ev_call1 {sp : Sp} {E : XK} {ta : TA} {P : List V → Hp → Prop} (h : EvC ta σ H P) (hs : ∀ vs H1, Ex H H1 → P vs H1 → ∀ Q : VK, RetV v H1 Q → ∀ E, sp vs H1 Q E) : Ev (tCall sp [] E ta) σ H v := fun H1 e Q q =>
  h H1 e _ fun vs H2 e2 hp => by
    show sp (vs ++ []) H2 Q E
    rw [List.append_nil]
    exact hs vs H2 (e.trans e2) hp Q (fun H3 e3 => q H3 (e2.trans e3)) E
theorem el_call1 {sp : Sp} {E : XK} {ta : TA} {xs : List V} {P : List V → Hp → Prop} (h : EvC ta σ H P) (hs : ∀ vs H1, Ex H H1 → P vs H1 → ∀ Q : VK, RetL xs H1 Q → ∀ E, sp vs H1 Q E) : EvL (tCall sp [] E ta) σ H xs := fun H1 e Q q =>
  h H1 e _ fun vs H2 e2 hp => by
    show sp (vs ++ []) H2 Q E
    rw [List.append_nil]
    exact hs vs H2 (e.trans e2) hp Q (fun p H3 hp e3 h3 => q p H3 (fresh_back e2 hp) (e2.trans e3) h3) E
/-! statements -/
theorem s_asgR {i : Nat} {a : α} (h : EvR R te σ H a) (k : ∀ v H1, Ex H H1 → R.at_ H1 v a → D.nx (σ.set i (some v)) H1) : tAsg te (gName i) D σ H := h H (Ex.refl H) _ fun v H1 e hv => k v H1 e hv
theorem q_asgR {i : Nat} {a : α} (h : EvR R te σ H a) (k : ∀ v H1, Ex H H1 → R.at_ H1 v a → tz D (σ.set i (some v)) H1) : tSeq (tAsg te (gName i)) tz D σ H := s_asgR (D := { D with nx := tz D }) h k
theorem s_retR {a : α} (h : EvR R te σ H a) (k : RetR R a H D.rt) : tRet te D σ H := h H (Ex.refl H) _ k
theorem RetR.go {a : α} {Q : VK} (k : RetR R a H Q) (e : Ex H H') : RetR R a H' Q := fun v H2 e2 hv => k v H2 (e.trans e2) hv
/-- a loop over a list that is read -/
theorem s_forR {l : List α} (h : EvR (seqR K R) tl σ H l) (Pv : Nat → L2.St → Hp → Prop) (h0 : ∀ H1, Ex H H1 → Pv 0 σ H1)
    (hs : ∀ B i a v σ' H', Ex H B → Ex B H' → l[i]? = some a → R.at_ H' v a → Pv i σ' H' → g v σ' H' fun σ2 H2 => tu { D with nx := fun σ3 H3 => Ex B H3 ∧ Pv (i + 1) σ3 H3, ct := fun σ3 H3 => Ex B H3 ∧ Pv (i + 1) σ3 H3, bk := D.nx } σ2 H2)
    (hd : ∀ σ' H', Ex H H' → Pv l.length σ' H' → D.nx σ' H') : tFor (iList K tl) g tu D σ H := by
  refine h H (Ex.refl H) _ fun w H1 e1 hw => ?_
  obtain ⟨p, xs, rfl, hp, hx⟩ := hw
  refine ⟨p, rfl, ⟨xs, hp⟩, for_list (xs := xs) (fun i σ' H' => Ex H1 H' ∧ Pv i σ' H') ⟨Ex.refl H1, h0 H1 e1⟩ (fun i σ' H' _ q => ex_l q.1 hp) (fun i x σ' H' hi q => ?_) (fun σ' H' q => hd σ' H' (e1.trans q.1) (by rw [← hx.1]; exact q.2))⟩
  have hil : i < l.length := by
    rw [← hx.1]
    exact (List.getElem?_eq_some_iff.mp hi).1
  obtain ⟨x', h1, h2⟩ := hx.2 i _ (List.getElem?_eq_getElem hil)
  have ex : x = x' := Option.some.inj (hi.symm.trans h1)
  subst ex
  exact hs H1 i _ x σ' H' e1 q.1 (List.getElem?_eq_getElem hil) (R.mono q.1 h2) q.2
theorem q_forR {l : List α} (h : EvR (seqR K R) tl σ H l) (Pv : Nat → L2.St → Hp → Prop) (h0 : ∀ H1, Ex H H1 → Pv 0 σ H1)
    (hs : ∀ B i a v σ' H', Ex H B → Ex B H' → l[i]? = some a → R.at_ H' v a → Pv i σ' H' → g v σ' H' fun σ2 H2 => tu { D with nx := fun σ3 H3 => Ex B H3 ∧ Pv (i + 1) σ3 H3, ct := fun σ3 H3 => Ex B H3 ∧ Pv (i + 1) σ3 H3, bk := tz D } σ2 H2)
    (hd : ∀ σ' H', Ex H H' → Pv l.length σ' H' → tz D σ' H') : tSeq (tFor (iList K tl) g tu) tz D σ H := s_forR (D := { D with nx := tz D }) h Pv h0 hs hd
/-- for x, y in ..: a list of pairs -/
theorem q_forP {S : Rep β} {l : List (α × β)} {i1 i2 : Nat} (h : EvR (seqR K (pairR R S)) tl σ H l) (Pv : Nat → L2.St → Hp → Prop) (h0 : ∀ H1, Ex H H1 → Pv 0 σ H1)
    (hs : ∀ B i a b v w σ' H', Ex H B → Ex B H' → l[i]? = some (a, b) → R.at_ H' v a → S.at_ H' w b → Pv i σ' H' → tu { D with nx := fun σ3 H3 => Ex B H3 ∧ Pv (i + 1) σ3 H3, ct := fun σ3 H3 => Ex B H3 ∧ Pv (i + 1) σ3 H3, bk := tz D } ((σ'.set i1 (some v)).set i2 (some w)) H')
    (hd : ∀ σ' H', Ex H H' → Pv l.length σ' H' → tz D σ' H') : tSeq (tFor (iList K tl) (gTup K 2 (gCons (gName i1) (gCons (gName i2) gNil))) tu) tz D σ H :=
  q_forR h Pv h0 (fun B i a v σ' H' e1 e2 hi hv p => by
    obtain ⟨t, x, y, rfl, h1, h2, h3⟩ := hv
    exact ⟨t, [x, y], rfl, st_of h1, rfl, x, [y], rfl, y, [], rfl, rfl, hs B i a.1 a.2 x y σ' H' e1 e2 hi h2 h3 p⟩) hd
/-- for i, x in enumerate(..): the pair is a new tuple, taken apart at once -/
theorem q_forEnum {l : List α} {ta : TA} {a b : Nat} (h : EvC ta σ H fun vs H2 => ∃ x, vs = [x] ∧ (seqR K R).at_ H2 x l) (Pv : Nat → L2.St → Hp → Prop) (h0 : ∀ H1, Ex H H1 → Pv 0 σ H1)
    (hs : ∀ B i y v σ' H', Ex H B → Ex B H' → l[i]? = some y → R.at_ H' v y → Pv i σ' H' → tu { D with nx := fun σ3 H3 => Ex B H3 ∧ Pv (i + 1) σ3 H3, ct := fun σ3 H3 => Ex B H3 ∧ Pv (i + 1) σ3 H3, bk := tz D } ((σ'.set a (some (natV i))).set b (some v)) H')
    (hP : ∀ i σ' H' H'', Ex H' H'' → Pv i σ' H' → Pv i σ' H'')
    (hd : ∀ σ' H', Ex H H' → Pv l.length σ' H' → tz D σ' H') : tSeq (tFor (iEnum K ta) (gTup K 2 (gCons (gName a) (gCons (gName b) gNil))) tu) tz D σ H := by
  refine h H (Ex.refl H) _ fun vs H1 e1 hv => ?_
  obtain ⟨w, rfl, p, xs, rfl, hp, hx⟩ := hv
  refine ⟨p, xs, rfl, hp, fun i m σ' H' => m = xs.length - i ∧ i ≤ xs.length ∧ Ex H1 H' ∧ Pv i σ' H', ⟨xs.length, by simp, Nat.zero_le _, Ex.refl H1, h0 H1 e1⟩, ?_⟩
  rintro i m σ' H' ⟨rfl, hi, q1, q2⟩
  have hp' := ex_l q1 hp
  by_cases hlt : i < xs.length
  · have hil : i < l.length := by rw [← hx.1]; exact hlt
    obtain ⟨x, h1, h2⟩ := hx.2 i _ (List.getElem?_eq_getElem hil)
    refine .inr ⟨⟨xs, x, hp', h1⟩, fun σ3 H3 => Ex H1 H3 ∧ Pv (i + 1) σ3 H3, fun σ3 H3 n => ⟨xs.length - (i + 1), by omega, rfl, hlt, n.1, n.2⟩, ?_⟩
    rintro v H'' ⟨T, y, rfl, nT, rfl, f⟩
    have ey : y = x := Option.some.inj ((f xs hp').symm.trans h1)
    subst ey
    have e2 : Ex H' (upd H' T (.tup [.int (i : Nat), y])) := Ex.new nT
    refine ⟨T, [.int (i : Nat), y], rfl, st_of upd_same, rfl, natV i, [y], rfl, y, [], rfl, rfl, ?_⟩
    have := hs H1 i _ y σ' (upd H' T (.tup [.int (i : Nat), y])) e1 (q1.trans e2) (List.getElem?_eq_getElem hil) (R.mono (q1.trans e2) h2) (hP i σ' _ _ e2 q2)
    exact this
  · have e : i = xs.length := by omega
    exact .inl ⟨⟨xs, hp', by omega⟩, hd σ' H' (e1.trans q1) (by rw [← hx.1, ← e]; exact q2)⟩
theorem er_seq {l : List α} (h : EvR (lstR R) te σ H l) : EvR (seqR K R) te σ H l := fun H1 e Q q => h H1 e _ fun v H2 e2 hv => q v H2 e2 (lst_seq hv)
/-- a call of one argument, of two -/
theorem er_c1 {S : Rep β} {b : β} {a : α} {sp : Sp} {E : XK} (h : EvR S ta σ H b) (hs : ∀ x H1, Ex H H1 → S.at_ H1 x b → ∀ Q : VK, RetR R a H1 Q → ∀ E, sp [x] H1 Q E) : EvR R (tCall sp [] E (tCons ta tNil)) σ H a :=
  er_call (ec_cons h ec_nil) fun vs H1 e ⟨x, r, h1, h2, h3⟩ Q q E => by
    subst h1 h3
    exact hs x H1 e h2 Q q E
theorem ev_c1 {S : Rep β} {b : β} {sp : Sp} {E : XK} (h : EvR S ta σ H b) (hs : ∀ x H1, Ex H H1 → S.at_ H1 x b → ∀ Q : VK, RetV v H1 Q → ∀ E, sp [x] H1 Q E) : Ev (tCall sp [] E (tCons ta tNil)) σ H v :=
  ev_call1 (ec_cons h ec_nil) fun vs H1 e ⟨x, r, h1, h2, h3⟩ Q q E => by
    subst h1 h3
    exact hs x H1 e h2 Q q E
theorem el_c1 {S : Rep β} {b : β} {xs : List V} {sp : Sp} {E : XK} (h : EvR S ta σ H b) (hs : ∀ x H1, Ex H H1 → S.at_ H1 x b → ∀ Q : VK, RetL xs H1 Q → ∀ E, sp [x] H1 Q E) : EvL (tCall sp [] E (tCons ta tNil)) σ H xs :=
  el_call1 (ec_cons h ec_nil) fun vs H1 e ⟨x, r, h1, h2, h3⟩ Q q E => by
    subst h1 h3
    exact hs x H1 e h2 Q q E
theorem ev_c2 {γ : Type} {S : Rep β} {T : Rep γ} {b : β} {c : γ} {sp : Sp} {E : XK} (h : EvR S ta σ H b) (h' : EvR T tb σ H c) (hs : ∀ x y H1, Ex H H1 → S.at_ H1 x b → T.at_ H1 y c → ∀ Q : VK, RetV v H1 Q → ∀ E, sp [x, y] H1 Q E) : Ev (tCall sp [] E (tCons ta (tCons tb tNil))) σ H v :=
  ev_call1 (ec_cons h (ec_cons h' ec_nil)) fun vs H1 e ⟨x, r, h1, h2, y, r', h3, h4, h5⟩ Q q E => by
    subst h1 h3 h5
    exact hs x y H1 e h2 h4 Q q E
theorem er_c2 {γ : Type} {S : Rep β} {T : Rep γ} {a : α} {b : β} {c : γ} {sp : Sp} {E : XK} (h : EvR S ta σ H b) (h' : EvR T tb σ H c) (hs : ∀ x y H1, Ex H H1 → S.at_ H1 x b → T.at_ H1 y c → ∀ Q : VK, RetR R a H1 Q → ∀ E, sp [x, y] H1 Q E) : EvR R (tCall sp [] E (tCons ta (tCons tb tNil))) σ H a :=
  er_call (ec_cons h (ec_cons h' ec_nil)) fun vs H1 e ⟨x, r, h1, h2, y, r', h3, h4, h5⟩ Q q E => by
    subst h1 h3 h5
    exact hs x y H1 e h2 h4 Q q E
theorem el_c2 {γ : Type} {S : Rep β} {T : Rep γ} {xs : List V} {b : β} {c : γ} {sp : Sp} {E : XK} (h : EvR S ta σ H b) (h' : EvR T tb σ H c) (hs : ∀ x y H1, Ex H H1 → S.at_ H1 x b → T.at_ H1 y c → ∀ Q : VK, RetL xs H1 Q → ∀ E, sp [x, y] H1 Q E) : EvL (tCall sp [] E (tCons ta (tCons tb tNil))) σ H xs :=
  el_call1 (ec_cons h (ec_cons h' ec_nil)) fun vs H1 e ⟨x, r, h1, h2, y, r', h3, h4, h5⟩ Q q E => by
    subst h1 h3 h5
    exact hs x y H1 e h2 h4 Q q E
theorem RetV.to {w : V} {Q : VK} (q : RetV v H Q) (e : Ex H H') (h : w = v) : Q w H' := h ▸ q H' e
/-- an item of a list that is read -/
theorem er_ix {l : List α} {a : α} {j : Nat} (h : EvR (seqR K R) te σ H l) (hj : l[j]? = some a) : EvR R (tOp (rIxL K) te (tC (.int (j : Int)))) σ H a := fun H1 e Q q =>
  h H1 e _ fun v H2 e2 ⟨p, xs, h1, h2, h3⟩ => by
    obtain ⟨x, hx, ha⟩ := h3.2 j a hj
    exact ⟨p, xs, (j : Int), x, h1, rfl, h2, atI_nat hx, q x H2 e2 ha⟩
/-- of a pair that is read -/
theorem er_fst {S : Rep β} {a : α} {b : β} (h : EvR (pairR R S) te σ H (a, b)) : EvR R (tOp (rIxT K) te (tC (.int 0))) σ H a := fun H1 e Q q =>
  h H1 e _ fun v H2 e2 ⟨t, x, y, h1, h2, h3, h4⟩ => ⟨t, [x, y], 0, x, h1, rfl, st_of h2, atI_nat (j := 0) rfl, q x H2 e2 h3⟩
theorem er_snd {S : Rep β} {a : α} {b : β} (h : EvR (pairR R S) te σ H (a, b)) : EvR S (tOp (rIxT K) te (tC (.int 1))) σ H b := fun H1 e Q q =>
  h H1 e _ fun v H2 e2 ⟨t, x, y, h1, h2, h3, h4⟩ => ⟨t, [x, y], 1, y, h1, rfl, st_of h2, atI_nat (j := 1) rfl, q y H2 e2 h4⟩
/-- len -/
theorem er_len {l : List α} (h : EvR (seqR K R) te σ H l) : Ev (tCB (fun xs H Q => ∃ p ys, xs = [.ref p] ∧ (SqL K H p ys ∨ SqT K H p ys) ∧ Q (.int ys.length) H) (tCons te tNil)) σ H (natV l.length) := fun H1 e Q q =>
  h H1 e _ fun v H2 e2 ⟨p, xs, h1, h2, h3⟩ => by
    subst h1
    exact ⟨p, xs, rfl, Or.inl h2, by rw [h3.1]; exact q H2 e2⟩
/-- new flat lists -/
def flatR : Rep (List V) := ⟨fun H v xs => ∃ p, v = .ref p ∧ H p = some (.lst xs), fun e ⟨p, h1, h2⟩ => ⟨p, h1, e _ _ h2⟩⟩
/-- [new list for i in range(0, n', c)] -/
theorem er_lcR3L {ta : TA} {j : Nat} {vs : List Nat} {n' c : Int} {n : Nat} (f : Nat → List V) (h : EvA ta σ H [.int 0, .int n', .int c]) (hr : RgC 0 n' c n) (hn : n ≤ 40000) (hw : ∀ x, wipe ((wipe σ vs).set j (some x)) vs = wipe σ vs)
    (he : ∀ (i : Nat) H1, Ex H H1 → i < n → EvL te ((wipe σ vs).set j (some (.int ((0 : Int) + (i : Nat) * c)))) H1 (f i)) : EvR (lstR flatR) (tLc (iRng3 ta) (gName j) tYes te vs) σ H ((List.range n).map f) := fun H0 e0 Q q =>
  h H0 e0 _ fun H1 e1 => ⟨0, n', c, n, rfl, hr, fun Dl hD => by
    refine ⟨fun i m H' => m = n - i ∧ i ≤ n ∧ Ex H1 H' ∧ ∃ xs, H' Dl = some (.lst xs) ∧ xs.length = i ∧ ∀ k, k < i → ∃ p, xs[k]? = some (.ref p) ∧ p ≠ Dl ∧ H' p = some (.lst (f k)), ⟨n, by omega, Nat.zero_le _, Ex.new hD, [], upd_same, rfl, fun k hk => absurd hk (Nat.not_lt_zero _)⟩, ?_⟩
    rintro i m H' ⟨rfl, hi, e2, xs, hx, hl, hp⟩
    by_cases hlt : i < n
    · refine .inr ⟨hlt, fun H2 => i + 1 ≤ n ∧ Ex H1 H2 ∧ ∃ xs, H2 Dl = some (.lst xs) ∧ xs.length = i + 1 ∧ ∀ k, k < i + 1 → ∃ p, xs[k]? = some (.ref p) ∧ p ≠ Dl ∧ H2 p = some (.lst (f k)), fun H2 p2 => ⟨n - (i + 1), by omega, rfl, p2⟩, ?_⟩
      rintro x H'' ⟨rfl, rfl⟩
      refine ⟨hw _, he i H'' ((e0.trans e1).trans e2) hlt H'' (Ex.refl _) _ fun p H3 hp0 e3 hp3 => ⟨xs, e3 _ _ hx, sz_lt (by omega), hlt, Ex.mut (e2.trans e3) hD, xs ++ [.ref p], upd_same, by simp [hl], fun k hk => ?_⟩⟩
      have hne : ∀ {z : Addr} {o : HO}, H'' z = some o → z ≠ p := fun hz => ne_of_none hz hp0
      by_cases hki : k < i
      · obtain ⟨z, h1, h2, h3⟩ := hp k hki
        refine ⟨z, by rw [List.getElem?_append_left (by omega)]; exact h1, h2, ?_⟩
        rw [upd_ne h2]
        exact e3 _ _ h3
      · have : k = i := by omega
        subst this
        refine ⟨p, by rw [List.getElem?_append_right (by omega), hl]; simp, (hne hx).symm, ?_⟩
        rw [upd_ne (hne hx).symm]
        exact hp3
    · have : i = n := by omega
      subst this
      refine .inl ⟨Nat.le_refl _, q _ _ (e1.trans e2) ⟨Dl, xs, rfl, hx, by simp [hl], fun k a hk => ?_⟩⟩
      rw [List.getElem?_map] at hk
      have hki : k < i := by
        by_cases hki : k < i
        · exact hki
        · rw [List.getElem?_eq_none_iff.mpr (by rw [List.length_range]; omega)] at hk
          cases hk
      rw [List.getElem?_range hki] at hk
      obtain rfl := Option.some.inj hk
      obtain ⟨p, h1, h2, h3⟩ := hp k hki
      exact ⟨_, h1, p, rfl, h3⟩⟩
theorem flat_nats {l : List (List V)} {m : List (List Nat)} (hm : l = m.map (List.map natV)) (h : EvR (lstR flatR) te σ H l) : EvR (lstR (seqR K natR)) te σ H m := fun H1 e Q q =>
  h H1 e _ fun v H2 e2 ⟨p, xs, h1, h2, h3, h4⟩ => q v H2 e2 ⟨p, xs, h1, h2, by rw [h3, hm, List.length_map], fun i a hi => by
    obtain ⟨x, hx, z, hz, hz2⟩ := h4 i (a.map natV) (by rw [hm, List.getElem?_map, hi]; rfl)
    exact ⟨x, hx, nats_at.mpr ⟨z, hz, sq_of hz2⟩⟩⟩
theorem take_fold {γ δ : Type} {f : δ → γ → δ} {d : δ} {l : List γ} {i : Nat} {x : γ} (h : l[i]? = some x) : (l.take (i + 1)).foldl f d = f ((l.take i).foldl f d) x := by
  rw [List.take_add_one, h, List.foldl_append]
  rfl
theorem congr2B {a b c d : Bool} (h1 : a = c) (h2 : b = d) : (a && b) = (c && d) := by rw [h1, h2]
theorem congr2O {a b c d : Bool} (h1 : a = c) (h2 : b = d) : (a || b) = (c || d) := by rw [h1, h2]
theorem ec_one {S : Rep β} {b : β} {ta : TA} (h : EvC ta σ H fun vs H2 => ∃ x r, vs = x :: r ∧ S.at_ H2 x b ∧ r = []) : EvC ta σ H fun vs H2 => ∃ x, vs = [x] ∧ S.at_ H2 x b := fun H1 e Q q =>
  h H1 e Q fun vs H2 e2 ⟨x, r, h1, h2, h3⟩ => q vs H2 e2 ⟨x, by rw [h1, h3], h2⟩
theorem ret_to {w : V} {Q : VK} (q : ∀ H2, Ex H H2 → Q v H2) (e : Ex H H') (h : w = v) : Q w H' := h ▸ q H' e
theorem ret_goL {xs ys : List V} {Q : VK} (k : ∀ p H2, H p = none → Ex H H2 → H2 p = some (.lst xs) → Q (.ref p) H2) (e : Ex H H') {p : Addr} {H2 : Hp} (hp : H' p = none) (e2 : Ex H' H2) (h : H2 p = some (.lst ys)) (hy : ys = xs) : Q (.ref p) H2 :=
  k p H2 (fresh_back e hp) (e.trans e2) (hy ▸ h)
end
theorem rgc_seven {n : Nat} (h7 : n % 7 = 0) (h : n ≤ 700) : RgC 0 (n : Int) 7 (n / 7) := by
  have e : Builtin.Range.rangeSize 0 (n : Int) 7 = ((n / 7 : Nat) : Int) := by
    unfold Builtin.Range.rangeSize
    rw [if_pos (by decide)]
    split <;> omega
  refine ⟨by decide, by decide, ?_, e⟩
  have fits : ∀ z : Int, 0 ≤ z → z ≤ 10000 → Builtin.Range.rangeFitsLong z = true := fun z h1 h2 => by
    show (decide (-(2 ^ 63) ≤ z) && decide (z < 2 ^ 63)) = true
    rw [decide_eq_true (by omega), decide_eq_true (by omega)] <;> rfl
  unfold Builtin.Range.small
  rw [e, fits 0 (by decide) (by decide), fits n (by omega) (by omega), fits 7 (by decide) (by decide), fits ((n / 7 : Nat) : Int) (by omega) (by omega), if_pos (by decide), fits ((n : Int) + (7 - 1)) (by omega) (by omega), Bool.or_true] <;> rfl
theorem cutV_seven {l : List Nat} {i : Nat} (h : 7 * i + 7 ≤ l.length) : cutV (l.map natV) (some ((0 : Int) + (i : Nat) * 7)) (some ((0 : Int) + (i : Nat) * 7 + 7)) = ((l.drop (7 * i)).take 7).map natV := by
  unfold cutV
  rw [show ((0 : Int) + (i : Nat) * 7) = ((7 * i : Nat) : Int) by omega, show (((7 * i : Nat) : Int) + 7) = ((7 * i + 7 : Nat) : Int) by omega, HT.sIx_nat, HT.sIx_nat, List.length_map, Nat.min_eq_left (by omega), Nat.min_eq_left (by omega), Nat.add_sub_cancel_left, List.map_take, List.map_drop]
section
variable {K : PySem.W.Frag} {σ : L2.St} {H H' : Hp} {ta tb te tl : TE}
/-- a new list, and behind it one that the program made -/
theorem el_cat {xs zs : List V} {b : Addr} (ha : EvL ta σ H xs) (hb : ∀ H1, Ex H H1 → Ev tb σ H1 (.ref b)) (h : H b = some (.lst zs)) (hz : xs.length + zs.length ≤ 100000) : EvL (tOp rCat ta tb) σ H (xs ++ zs) := fun H1 e Q q =>
  ha H1 e _ fun p H2 hp e2 h2 => hb H2 (e.trans e2) H2 (Ex.refl _) _ fun H3 e3 => ⟨p, b, xs, zs, rfl, rfl, e3 _ _ h2, e3 _ _ (e2 _ _ (e _ _ h)), sz_of hz, fun r hr => q r _ (fresh_back (e2.trans e3) hr) ((e2.trans e3).trans (Ex.new hr)) upd_same⟩
end
section
variable {X : Cx} {K : PySem.W.Frag}
theorem ixL (h : X.K = K := by rfl) : IxR X (rIxL K) := h ▸ ix_list
theorem ixT (h : X.K = K := by rfl) : IxR X (rIxT K) := h ▸ ix_tup
theorem slL (h : X.K = K := by rfl) : SlR X (rSlL K) := h ▸ sl_list
theorem lenS (h : X.K = K := by rfl) : CallR X (.builtin "len") (fun xs H Q => ∃ p ys, xs = [.ref p] ∧ (SqL K H p ys ∨ SqT K H p ys) ∧ Q (.int ys.length) H) := h ▸ call_len_seq
end
end Bf
namespace Bf
open PySem PySem.Spec PyProof.Rows L2
open Evl
open PySem.W (Codec)
def top (i : Nat) : Stmt := PySem.Challenge.pw_beadframes_s02_span.main.body.getD i (.Pass ⟨0, 0, 0, 0⟩)
abbrev s_rods_of : Stmt := top 8
abbrev N_rods_of : List Str := ["make", "start"]
theorem sc_rods_of : FnScope N_rods_of ["make"] (defScope s_rods_of) := ⟨rfl, rfl, rfl, by decide +kernel, rfl, by decide +kernel, by decide +kernel⟩
abbrev s_decks_of : Stmt := top 9
abbrev N_decks_of : List Str := ["rod"]
theorem sc_decks_of : FnScope N_decks_of ["rod"] (defScope s_decks_of) := ⟨rfl, rfl, rfl, by decide +kernel, rfl, by decide +kernel, by decide +kernel⟩
abbrev s_worth_together : Stmt := top 10
abbrev N_worth_together : List Str := ["rod", "total", "beads", "worth"]
theorem sc_worth_together : FnScope N_worth_together ["rod"] (defScope s_worth_together) := ⟨rfl, rfl, rfl, by decide +kernel, rfl, by decide +kernel, by decide +kernel⟩
abbrev s_has_whole_rods : Stmt := top 11
abbrev N_has_whole_rods : List Str := ["make"]
theorem sc_has_whole_rods : FnScope N_has_whole_rods ["make"] (defScope s_has_whole_rods) := ⟨rfl, rfl, rfl, by decide +kernel, rfl, by decide +kernel, by decide +kernel⟩
abbrev s_deck_is_sound : Stmt := top 12
abbrev N_deck_is_sound : List Str := ["beads", "worth"]
theorem sc_deck_is_sound : FnScope N_deck_is_sound ["beads", "worth"] (defScope s_deck_is_sound) := ⟨rfl, rfl, rfl, by decide +kernel, rfl, by decide +kernel, by decide +kernel⟩
abbrev s_decks_are_in_turn : Stmt := top 13
abbrev N_decks_are_in_turn : List Str := ["rod", "decks"]
theorem sc_decks_are_in_turn : FnScope N_decks_are_in_turn ["rod"] (defScope s_decks_are_in_turn) := ⟨rfl, rfl, rfl, by decide +kernel, rfl, by decide +kernel, by decide +kernel⟩
abbrev s_numbers_are_sound : Stmt := top 14
abbrev N_numbers_are_sound : List Str := ["rod", "beads", "worth"]
theorem sc_numbers_are_sound : FnScope N_numbers_are_sound ["rod"] (defScope s_numbers_are_sound) := ⟨rfl, rfl, rfl, by decide +kernel, rfl, by decide +kernel, by decide +kernel⟩
abbrev s_pushable_counts : Stmt := top 15
abbrev N_pushable_counts : List Str := ["rod", "counts", "beads", "worth", "bead"]
theorem sc_pushable_counts : FnScope N_pushable_counts ["rod"] (defScope s_pushable_counts) := ⟨rfl, rfl, rfl, by decide +kernel, rfl, by decide +kernel, by decide +kernel⟩
abbrev s_each_digit_can_be_pushed : Stmt := top 16
abbrev N_each_digit_can_be_pushed : List Str := ["rod", "digits_below_ratio"]
theorem sc_each_digit_can_be_pushed : FnScope N_each_digit_can_be_pushed ["rod"] (defScope s_each_digit_can_be_pushed) := ⟨rfl, rfl, rfl, by decide +kernel, rfl, by decide +kernel, by decide +kernel⟩
abbrev s_broken_rule : Stmt := top 17
abbrev N_broken_rule : List Str := ["rod"]
theorem sc_broken_rule : FnScope N_broken_rule ["rod"] (defScope s_broken_rule) := ⟨rfl, rfl, rfl, by decide +kernel, rfl, by decide +kernel, by decide +kernel⟩
abbrev s_make_fault : Stmt := top 18
abbrev N_make_fault : List Str := ["make", "place", "rod", "rule"]
theorem sc_make_fault : FnScope N_make_fault ["make"] (defScope s_make_fault) := ⟨rfl, rfl, rfl, by decide +kernel, rfl, by decide +kernel, by decide +kernel⟩
abbrev s_product_of_ratios : Stmt := top 19
abbrev N_product_of_ratios : List Str := ["make", "product", "rod"]
theorem sc_product_of_ratios : FnScope N_product_of_ratios ["make"] (defScope s_product_of_ratios) := ⟨rfl, rfl, rfl, by decide +kernel, rfl, by decide +kernel, by decide +kernel⟩
abbrev s_refused_for : Stmt := top 21
abbrev N_refused_for : List Str := ["fault"]
theorem sc_refused_for : FnScope N_refused_for ["fault"] (defScope s_refused_for) := ⟨rfl, rfl, rfl, by decide +kernel, rfl, by decide +kernel, by decide +kernel⟩
abbrev s_span : Stmt := top 22
abbrev N_span : List Str := ["make", "fault"]
theorem sc_span : FnScope N_span ["make"] (defScope s_span) := ⟨rfl, rfl, rfl, by decide +kernel, rfl, by decide +kernel, by decide +kernel⟩
structure Mg (mg : Str → Option Value) : Prop where
  c_LEAST_RATIO : ∃ t, mg "LEAST_RATIO" = some (.int 2 t)
  c_MOST_BEADS : ∃ t, mg "MOST_BEADS" = some (.int 15 t)
  c_MOST_RATIO : ∃ t, mg "MOST_RATIO" = some (.int 20 t)
  c_MOST_RODS : ∃ t, mg "MOST_RODS" = some (.int 64 t)
  c_MOST_WORTH : ∃ t, mg "MOST_WORTH" = some (.int 63 t)
  c_MOST_WORTH_TOGETHER : ∃ t, mg "MOST_WORTH_TOGETHER" = some (.int 255 t)
  c_NUMBERS_A_ROD : ∃ t, mg "NUMBERS_A_ROD" = some (.int 7 t)
  b_enumerate : mg "enumerate" = none
  b_len : mg "len" = none
  b_range : mg "range" = none
/-! ### promises -/
def spDecks (K : PySem.W.Frag) : Sp := fun vs H Q _ => ∃ v g, vs = [v] ∧ (seqR K natR).at_ H v g ∧ g.length = 7 ∧ RetR (lstR (pairR natR natR)) (decks g) H Q
def spWorth (K : PySem.W.Frag) : Sp := fun vs H Q _ => ∃ v g, vs = [v] ∧ (seqR K natR).at_ H v g ∧ g.length = 7 ∧ (∀ x ∈ g, x < 4294967296) ∧ RetV (natV (worthT g)) H Q
def spSound : Sp := fun vs H Q _ => ∃ b w : Nat, vs = [natV b, natV w] ∧ RetV (.bl (sound b w)) H Q
def spTurn (K : PySem.W.Frag) : Sp := fun vs H Q _ => ∃ v g, vs = [v] ∧ (seqR K natR).at_ H v g ∧ g.length = 7 ∧ RetV (.bl (inTurn g)) H Q
def spNums (K : PySem.W.Frag) : Sp := fun vs H Q _ => ∃ v g, vs = [v] ∧ (seqR K natR).at_ H v g ∧ g.length = 7 ∧ RetV (.bl (numsSound g)) H Q
def spCounts (K : PySem.W.Frag) : Sp := fun vs H Q _ => ∃ v g, vs = [v] ∧ (seqR K natR).at_ H v g ∧ g.length = 7 ∧ numsSound g = true ∧ RetV (natV (counts g)) H Q
def spEach (K : PySem.W.Frag) : Sp := fun vs H Q _ => ∃ v g, vs = [v] ∧ (seqR K natR).at_ H v g ∧ g.length = 7 ∧ numsSound g = true ∧ RetV (.bl (allPushed g)) H Q
def spBroken (K : PySem.W.Frag) : Sp := fun vs H Q _ => ∃ v g, vs = [v] ∧ (seqR K natR).at_ H v g ∧ g.length = 7 ∧ (∀ x ∈ g, x < 4294967296) ∧ RetV (natV (broken g)) H Q
def spWhole (K : PySem.W.Frag) : Sp := fun vs H Q _ => ∃ v l, vs = [v] ∧ (seqR K natR).at_ H v l ∧ RetV (.bl (wholeRods l)) H Q
def spRods (K : PySem.W.Frag) : Sp := fun vs H Q _ => ∃ v l, vs = [v] ∧ (seqR K natR).at_ H v l ∧ l.length % 7 = 0 ∧ l.length ≤ 700 ∧ RetR (lstR (seqR K natR)) (cuts l) H Q
def spFault (K : PySem.W.Frag) : Sp := fun vs H Q _ => ∃ v l, vs = [v] ∧ (seqR K natR).at_ H v l ∧ l.length ≤ 700 ∧ (∀ x ∈ l, x < 4294967296) ∧ RetL ((mfault l).map natV) H Q
def spProd (K : PySem.W.Frag) : Sp := fun vs H Q _ => ∃ v l, vs = [v] ∧ (seqR K natR).at_ H v l ∧ l.length % 7 = 0 ∧ l.length ≤ 700 ∧ (∀ x ∈ l, x < 4294967296) ∧ RetV (natV (prodR (cuts l))) H Q
def spRefused : Sp := fun vs H Q _ => ∃ p xs, vs = [.ref p] ∧ H p = some (.lst xs) ∧ xs.length ≤ 1000 ∧ RetL (.int (-5) :: xs) H Q
def spJudge (K : PySem.W.Frag) : Sp := fun vs H Q _ => ∃ v l, vs = [v] ∧ (seqR K natR).at_ H v l ∧ l.length ≤ 700 ∧ (∀ x ∈ l, x < 4294967296) ∧ RetL ((judged l).map V.int) H Q
def spSpan (K : PySem.W.Frag) : Sp := fun vs H Q _ => ∃ v l, vs = [v] ∧ (seqR K natR).at_ H v l ∧ l.length ≤ 700 ∧ (∀ x ∈ l, x < 4294967296) ∧ RetL ((spanned l).map V.int) H Q
section
variable {P : Program} {w : World} {K : PySem.W.Frag} {mg : Str → Option Value} {base : Heap}
/-! ### words -/
theorem nat_ix {H : Hp} {σ : L2.St} {te : TE} {v : V} {g : List Nat} {j : Nat} (h : (seqR K natR).at_ H v g) (hj : j < g.length) (he : Ev te σ H v) : Ev (tOp (rIxL K) te (tC (.int (j : Int)))) σ H (natV (ix g j)) := by
  obtain ⟨p, rfl, hp⟩ := nats_at.mp h
  refine ev_op he ev_c (rv_ixL hp (atI_nat (j := j) ?_))
  rw [List.getElem?_map, List.getElem?_eq_getElem hj]
  unfold ix
  rw [List.getD_eq_getElem?_getD, List.getElem?_eq_getElem hj]
  rfl
theorem cast_lt {a b : Nat} : decide ((a : Int) < (b : Int)) = decide (a < b) := decide_eq_decide.mpr Int.ofNat_lt
theorem cast_le {a b : Nat} : decide ((a : Int) ≤ (b : Int)) = decide (a ≤ b) := decide_eq_decide.mpr Int.ofNat_le
theorem cast_eq {a b : Nat} : decide (natV a = natV b) = decide (a = b) := decide_eq_decide.mpr ⟨fun h => Int.ofNat.inj (V.int.inj h), fun h => h ▸ rfl⟩
theorem cast_eq0 {a : Nat} : decide (natV a = V.int 0) = decide (a = 0) := cast_eq (b := 0)
theorem cast_lt0 {a : Nat} : decide ((0 : Int) < (a : Int)) = decide (0 < a) := cast_lt (a := 0)
theorem lt_pow_abs {c n : Nat} (h : c < 2 ^ n) : ((c : Int)).natAbs < 2 ^ n := h
theorem or_shl {c w : Nat} : Builtin.bitOr (c : Int) ((c : Int) * 2 ^ ((w : Int)).toNat) = ((c ||| c <<< w : Nat) : Int) := by
  rw [Int.toNat_natCast, Nat.shiftLeft_eq]
  have e : ((c : Int) * 2 ^ w) = ((c * 2 ^ w : Nat) : Int) := by
    rw [Int.natCast_mul, PySem.W.kbt_cast]
  rw [e, bitOr_nn (Int.natCast_nonneg _) (Int.natCast_nonneg _), Int.toNat_natCast, Int.toNat_natCast]
theorem mask_eq {r : Nat} : ((1 : Int) * 2 ^ ((r : Int)).toNat - 1) = ((2 ^ r - 1 : Nat) : Int) := by
  rw [Int.toNat_natCast, Int.one_mul, Int.natCast_sub (Nat.two_pow_pos r), PySem.W.kbt_cast]
  rfl
theorem and_mask {c r : Nat} : Builtin.bitAnd (c : Int) ((2 ^ r - 1 : Nat) : Int) = ((c &&& (2 ^ r - 1) : Nat) : Int) := by
  rw [Int.natCast_sub (Nat.two_pow_pos r), PySem.W.kbt_cast]
  show Builtin.bitAnd (c : Int) (2 ^ r - 1) = _
  rw [PySem.W.kbt_mask, Nat.and_two_pow_sub_one_eq_mod, Int.natCast_emod, PySem.W.kbt_cast]
theorem mfault_short {l : List Nat} : ((mfault l).map natV).length ≤ 1000 := by
  unfold mfault
  split <;> simp
theorem ne_of_pos {l : List Nat} (h : decide (0 < (l.map natV).length) = true) : l ≠ [] := fun e => by
  subst e
  simp at h
theorem judged_bad {l : List Nat} (h : mfault l ≠ []) : (V.int (-5) :: (mfault l).map natV) = (judged l).map V.int := by
  unfold judged
  rw [if_neg h, List.map_cons, List.map_map]
  rfl
theorem judged_good {l : List Nat} (h : mfault l = []) : [V.int 0] = (judged l).map V.int := by
  unfold judged
  rw [if_pos h]
  rfl
theorem spanned_bad {l : List Nat} (h : mfault l ≠ []) : (V.int (-5) :: (mfault l).map natV) = (spanned l).map V.int := by
  unfold spanned
  rw [if_neg h, List.map_cons, List.map_map]
  rfl
theorem spanned_good {l : List Nat} (h : mfault l = []) : [natV 0, natV (prodR (cuts l))] = (spanned l).map V.int := by
  unfold spanned
  rw [if_pos h]
  rfl
theorem ok_decks_of {f : Addr} {fd : FuncData} (F : Fun K "decks_of" "decks_of" s_decks_of f fd) (M : Mg mg) : FnOk P w K mg base CX0 1 f fd ["rod"] (spDecks K) := by
  refine F.ok sc_decks_of (fun vs H Q E h => ?_) (fun cdv A outer s H vs Q E hr h => ⟨_, (pss_one (ps_ret (pe_lst (pa_cons (pe_tup (pa_cons (pe_ix (ixL (K := K)) (pv 0) pe_int (fun _ _ => rfl)) (pa_cons (pe_ix (ixL (K := K)) (pv 0) pe_int (fun _ _ => rfl)) pa_nil))) (pa_cons (pe_tup (pa_cons (pe_ix (ixL (K := K)) (pv 0) pe_int (fun _ _ => rfl)) (pa_cons (pe_ix (ixL (K := K)) (pv 0) pe_int (fun _ _ => rfl)) pa_nil))) (pa_cons (pe_tup (pa_cons (pe_ix (ixL (K := K)) (pv 0) pe_int (fun _ _ => rfl)) (pa_cons (pe_ix (ixL (K := K)) (pv 0) pe_int (fun _ _ => rfl)) pa_nil))) pa_nil)))))), ?_⟩)
  · obtain ⟨v, g, rfl, _⟩ := h
    rfl
  · obtain ⟨v, g, rfl, hv, h7, q⟩ := h
    have ei : ∀ j : Nat, j < 7 → EvR natR (tOp (rIxL K) (tVar 0) (tC (.int (j : Int)))) (start N_decks_of [v]) H (ix g j) := fun j hj => er_nat (nat_ix hv (by omega) (ev_var rfl))
    exact s_retR (er_lst (ei_cons (er_tup (ei 1 (by decide)) (ei 2 (by decide))) (ei_cons (er_tup (ei 3 (by decide)) (ei 4 (by decide))) (ei_cons (er_tup (ei 5 (by decide)) (ei 6 (by decide))) ei_nil))) (Nat.le_of_lt_succ (by simp))) q
/-- decks_of, called -/
theorem er_decks {H : Hp} {σ : L2.St} {te : TE} {v : V} {g : List Nat} (hv : (seqR K natR).at_ H v g) (h7 : g.length = 7) (he : Ev te σ H v) : EvR (lstR (pairR natR natR)) (tCall (spDecks K) [] E0 (tCons te tNil)) σ H (decks g) :=
  er_c1 (er_ev he hv) fun x H1 e hx Q q E => ⟨x, g, rfl, hx, h7, q⟩
theorem ok_worth_together {f : Addr} {fd : FuncData} (F : Fun K "worth_together" "worth_together" s_worth_together f fd) (M : Mg mg) (D_decks_of : Def P w K mg base "decks_of" 1 ["rod"] (spDecks K)) : FnOk P w K mg base CX0 2 f fd ["rod"] (spWorth K) := by
  refine F.ok sc_worth_together (fun vs H Q E h => ?_) (fun cdv A outer s H vs Q E hr h => ⟨_, (pss_cons (ps_set (i := 1) sc_worth_together.nd rfl (.inl rfl) pe_int)
      (pss_cons (ps_for PassesOwn.never rfl (pi_list (pe_callD D_decks_of hr (by decide) (pa_cons (pv 0) pa_nil))) (pg_tup rfl (pgs_cons (pg_name (i := 2) sc_worth_together.nd rfl (.inl rfl)) (pgs_cons (pg_name (i := 3) sc_worth_together.nd rfl (.inl rfl)) pgs_nil))) (pss_one (ps_set (i := 1) sc_worth_together.nd rfl (.inl rfl) (pe_op op_add (pv 1) (pe_op op_mulX (pv 2) (pv 3))))))
      (pss_one (ps_ret (pv 1))))), ?_⟩)
  · obtain ⟨v, g, rfl, _⟩ := h
    rfl
  · obtain ⟨v, g, rfl, hv, h7, hb, q⟩ := h
    refine q_asg (v := natV 0) ev_c fun H1 e1 => ?_
    refine q_forP (K := K) (R := natR) (S := natR) (er_seq (er_decks ((seqR K natR).mono e1 hv) h7 (ev_var rfl))) (fun i σ' _ => ∃ y z, σ' = [some v, some (natV (((decks g).take i).foldl (fun t d => t + d.1 * d.2) 0)), y, z]) (fun _ _ => ⟨none, none, rfl⟩) ?_ ?_
    · rintro B i b d v1 v2 σ' H' eB e' hi rfl rfl ⟨y, z, rfl⟩
      have lt := decks_lt h7 hb (List.mem_of_getElem? hi)
      refine s_asg (ev_op (ev_var rfl) (ev_op (ev_var rfl) (ev_var rfl) (rv_I (mulx_ok (a := 32) (b := 32) (lt_pow_abs lt.1) (lt_pow_abs lt.2) (by decide)))) rv_I0) fun H2 e2 => ⟨e'.trans e2, some (natV b), some (natV d), ?_⟩
      rw [take_fold hi]
      exact congrArg (fun x => [some v, some (V.int x), some (natV b), some (natV d)]) (by push_cast; rfl)
    · rintro σ' H' e' ⟨y, z, rfl⟩
      refine s_ret (ev_var rfl) fun H2 e2 => ?_
      rw [List.take_length]
      exact q H2 ((e1.trans e').trans e2)
theorem ok_has_whole_rods {f : Addr} {fd : FuncData} (F : Fun K "has_whole_rods" "has_whole_rods" s_has_whole_rods f fd) (M : Mg mg) : FnOk P w K mg base CX0 1 f fd ["make"] (spWhole K) := by
  refine F.ok sc_has_whole_rods (fun vs H Q E h => ?_) (fun cdv A outer s H vs Q E hr h => ⟨_, (pss_cons (ps_if (PW.pt (pw_or (pt_cmpR op_eq (pe_callB (lenS (K := K)) (by rfl) M.b_len PySem.boot_len (pa_cons (pv 0) pa_nil)) pe_int (nomark _)) (pw_or1 (pt_cmpR op_gt (pe_callB (lenS (K := K)) (by rfl) M.b_len PySem.boot_len (pa_cons (pv 0) pa_nil)) (pe_op op_mulX (pe_gint M.c_NUMBERS_A_ROD) (pe_gint M.c_MOST_RODS)) (nomark _))))) (pss_one (ps_ret pe_bl)) pss_nil)
      (pss_one (ps_ret (pe_cmpR op_eq (pe_op op_mod (pe_callB (lenS (K := K)) (by rfl) M.b_len PySem.boot_len (pa_cons (pv 0) pa_nil)) (pe_gint M.c_NUMBERS_A_ROD)) pe_int (nomark _))))), ?_⟩)
  · obtain ⟨v, g, rfl, _⟩ := h
    rfl
  · obtain ⟨v, l, rfl, hv, q⟩ := h
    have el : ∀ H1, Ex H H1 → Ev (tCB _ (tCons (tVar 0) tNil)) (start N_has_whole_rods [v]) H1 (natV l.length) := fun H1 e => er_len (K := K) (R := natR) (er_ev (ev_var rfl) ((seqR K natR).mono e hv))
    refine q_when (b := decide (l.length = 0) || decide (448 < l.length)) (et_or (et_is (et_test (ev_op (el H (Ex.refl H)) ev_c (rv_eq rfl))) cast_eq0) fun _ => et_is (et_test (ev_op (el H (Ex.refl H)) (ev_op ev_c ev_c (rv_I (mulx_ok (a := 32) (b := 32) (by decide) (by decide) (by decide)))) rv_I0)) (cast_lt (a := 448))) (fun hb H1 e1 => ?_) (fun hb H1 e1 => ?_)
    · refine s_ret ev_c fun H2 e2 => ret_to q (e1.trans e2) ?_
      unfold wholeRods
      rw [if_pos (by simpa using hb)]
    · refine s_ret (ev_op (ev_op (el H1 e1) ev_c (rv_I (by decide))) ev_c (rv_eq rfl)) fun H2 e2 => ret_to q (e1.trans e2) ?_
      unfold wholeRods
      rw [if_neg (by simpa using hb)]
      exact congrArg V.bl (cast_eq (a := l.length % 7) (b := 0) ▸ rfl)
theorem ok_deck_is_sound {f : Addr} {fd : FuncData} (F : Fun K "deck_is_sound" "deck_is_sound" s_deck_is_sound f fd) (M : Mg mg) : FnOk P w K mg base CX0 1 f fd ["beads", "worth"] (spSound) := by
  refine F.ok sc_deck_is_sound (fun vs H Q E h => ?_) (fun cdv A outer s H vs Q E hr h => ⟨_, (pss_cons (ps_if (PW.pt (pw_or (pt_cmpR op_eq (pv 0) pe_int (nomark _)) (pw_or1 (pt_cmpR op_eq (pv 1) pe_int (nomark _))))) (pss_one (ps_ret (pe_cmpR op_eq (pv 0) (pv 1) (nomark _)))) pss_nil)
      (pss_one (ps_ret (pe_and (pe_cmpR op_le (pv 0) (pe_gint M.c_MOST_BEADS) (nomark _)) (pe_one (pe_cmpR op_le (pv 1) (pe_gint M.c_MOST_WORTH) (nomark _))))))), ?_⟩)
  · obtain ⟨b, w, rfl, _⟩ := h
    rfl
  · obtain ⟨b, w, rfl, q⟩ := h
    refine q_when (b := decide (b = 0) || decide (w = 0)) (et_or (et_is (et_test (ev_op (ev_var rfl) ev_c (rv_eq rfl))) cast_eq0) fun _ => et_is (et_test (ev_op (ev_var rfl) ev_c (rv_eq rfl))) cast_eq0) (fun hb H1 e1 => ?_) (fun hb H1 e1 => ?_)
    · refine s_ret (ev_op (ev_var rfl) (ev_var rfl) (rv_eq rfl)) fun H2 e2 => ret_to q (e1.trans e2) ?_
      unfold sound
      rw [if_pos (by simpa using hb)]
      exact congrArg V.bl cast_eq
    · refine s_ret (ev_andV (ev_op (ev_var rfl) ev_c rv_I0) fun _ => ev_op (ev_var rfl) ev_c rv_I0) fun H2 e2 => ret_to q (e1.trans e2) ?_
      unfold sound
      rw [if_neg (by simpa using hb)]
      exact congrArg V.bl (congr2B (cast_le (b := 15)) (cast_le (b := 63)))
theorem ok_decks_are_in_turn {f : Addr} {fd : FuncData} (F : Fun K "decks_are_in_turn" "decks_are_in_turn" s_decks_are_in_turn f fd) (M : Mg mg) (D_decks_of : Def P w K mg base "decks_of" 1 ["rod"] (spDecks K)) : FnOk P w K mg base CX0 2 f fd ["rod"] (spTurn K) := by
  refine F.ok sc_decks_are_in_turn (fun vs H Q E h => ?_) (fun cdv A outer s H vs Q E hr h => ⟨_, (pss_cons (ps_set (i := 1) sc_decks_are_in_turn.nd rfl (.inl rfl) (pe_callD D_decks_of hr (by decide) (pa_cons (pv 0) pa_nil)))
      (pss_cons (ps_if (pt_cmpR op_eq (pe_ix (ixT (K := K)) (pe_ix (ixL (K := K)) (pv 1) pe_int (fun _ _ => rfl)) pe_int (fun _ _ => rfl)) pe_int (nomark _)) (pss_one (ps_ret pe_bl)) pss_nil)
      (pss_one (ps_ret (pe_or (pe_cmpR op_gt (pe_ix (ixT (K := K)) (pe_ix (ixL (K := K)) (pv 1) pe_int (fun _ _ => rfl)) pe_int (fun _ _ => rfl)) pe_int (nomark _)) (pe_one (pe_cmpR op_eq (pe_ix (ixT (K := K)) (pe_ix (ixL (K := K)) (pv 1) pe_int (fun _ _ => rfl)) pe_int (fun _ _ => rfl)) pe_int (nomark _)))))))), ?_⟩)
  · obtain ⟨v, g, rfl, _⟩ := h
    rfl
  · obtain ⟨v, g, rfl, hv, h7, q⟩ := h
    refine q_asgR (er_decks hv h7 (ev_var rfl)) fun d H1 e1 hd => ?_
    have hd' := lst_seq (K := K) hd
    have ed : ∀ (j : Nat) (a b : Nat) (H2 : Hp), Ex H1 H2 → (decks g)[j]? = some (a, b) → Ev (tOp (rIxT K) (tOp (rIxL K) (tVar 1) (tC (.int (j : Int)))) (tC (.int 0))) [some v, some d] H2 (natV a) := fun j a b H2 e2 hj => ev_nat (er_fst (er_ix (er_ev (ev_var rfl) ((seqR K (pairR natR natR)).mono e2 hd')) hj))
    refine q_when (b := decide (ix g 1 = 0)) (et_is (et_test (ev_op (ed 0 _ _ H1 (Ex.refl _) rfl) ev_c (rv_eq rfl))) cast_eq0) (fun hb H2 e2 => ?_) (fun hb H2 e2 => ?_)
    · refine s_ret ev_c fun H3 e3 => ret_to q ((e1.trans e2).trans e3) ?_
      unfold inTurn
      rw [if_pos (of_decide_eq_true hb)]
    · refine s_ret (ev_orV (ev_op (ed 1 _ _ H2 e2 rfl) ev_c rv_I0) fun _ => ev_op (ed 2 _ _ H2 e2 rfl) ev_c (rv_eq rfl)) fun H3 e3 => ret_to q ((e1.trans e2).trans e3) ?_
      unfold inTurn
      rw [if_neg (of_decide_eq_false hb)]
      exact congrArg V.bl (congr2O cast_lt0 cast_eq0)
theorem ok_numbers_are_sound {f : Addr} {fd : FuncData} (F : Fun K "numbers_are_sound" "numbers_are_sound" s_numbers_are_sound f fd) (M : Mg mg) (D_decks_of : Def P w K mg base "decks_of" 1 ["rod"] (spDecks K)) (D_decks_are_in_turn : Def P w K mg base "decks_are_in_turn" 2 ["rod"] (spTurn K)) (D_deck_is_sound : Def P w K mg base "deck_is_sound" 1 ["beads", "worth"] (spSound)) : FnOk P w K mg base CX0 3 f fd ["rod"] (spNums K) := by
  refine F.ok sc_numbers_are_sound (fun vs H Q E h => ?_) (fun cdv A outer s H vs Q E hr h => ⟨_, (pss_cons (ps_if (PW.pt (pw_or (pt_cmpR op_lt (pe_ix (ixL (K := K)) (pv 0) pe_int (fun _ _ => rfl)) (pe_gint M.c_LEAST_RATIO) (nomark _)) (pw_or1 (pt_cmpR op_gt (pe_ix (ixL (K := K)) (pv 0) pe_int (fun _ _ => rfl)) (pe_gint M.c_MOST_RATIO) (nomark _))))) (pss_one (ps_ret pe_bl)) pss_nil)
      (pss_cons (ps_for PassesOwn.never rfl (pi_list (pe_callD D_decks_of hr (by decide) (pa_cons (pv 0) pa_nil))) (pg_tup rfl (pgs_cons (pg_name (i := 1) sc_numbers_are_sound.nd rfl (.inl rfl)) (pgs_cons (pg_name (i := 2) sc_numbers_are_sound.nd rfl (.inl rfl)) pgs_nil))) (pss_one (ps_if (pt_not (pt_val (pe_callD D_deck_is_sound hr (by decide) (pa_cons (pv 1) (pa_cons (pv 2) pa_nil))))) (pss_one (ps_ret pe_bl)) pss_nil)))
      (pss_one (ps_ret (pe_callD D_decks_are_in_turn hr (by decide) (pa_cons (pv 0) pa_nil)))))), ?_⟩)
  · obtain ⟨v, g, rfl, _⟩ := h
    rfl
  · obtain ⟨v, g, rfl, hv, h7, q⟩ := h
    have e0 : Ev (tOp (rIxL K) (tVar 0) (tC (.int 0))) (start N_numbers_are_sound [v]) H (natV (ix g 0)) := nat_ix (j := 0) hv (by omega) (ev_var rfl)
    refine q_when (b := decide (ix g 0 < 2) || decide (20 < ix g 0)) (et_or (et_is (et_test (ev_op e0 ev_c rv_I0)) (cast_lt (b := 2))) fun _ => et_is (et_test (ev_op e0 ev_c rv_I0)) (cast_lt (a := 20))) (fun hb H1 e1 => ?_) (fun hb H1 e1 => ?_)
    · exact s_ret ev_c fun H2 e2 => ret_to q (e1.trans e2) (congrArg V.bl (nums_ratio hb).symm)
    · refine q_forP (K := K) (R := natR) (S := natR) (er_seq (er_decks ((seqR K natR).mono e1 hv) h7 (ev_var rfl))) (fun i σ' _ => (∃ y z, σ' = [some v, y, z]) ∧ ∀ d ∈ (decks g).take i, sound d.1 d.2 = true) (fun _ _ => ⟨⟨none, none, rfl⟩, fun d hd => by simp at hd⟩) ?_ ?_
      · rintro B i b d v1 v2 σ' H' eB e' hi rfl rfl ⟨⟨y, z, rfl⟩, ha⟩
        refine s_when (b := !sound b d) (et_not (et_B (ev_c2 (S := natR) (T := natR) (er_nat (ev_var rfl)) (er_nat (ev_var rfl)) fun x y H1 e hx hy Q q E => ⟨b, d, by rw [show x = natV b from hx, show y = natV d from hy], q⟩))) (fun hn H2 e2 => ?_) (fun hn H2 e2 => ?_)
        · exact s_ret ev_c fun H3 e3 => ret_to q (((e1.trans eB).trans (e'.trans e2)).trans e3) (congrArg V.bl (nums_false (List.mem_of_getElem? hi) (by simpa using hn)).symm)
        · refine ⟨e'.trans e2, ⟨_, _, rfl⟩, fun x hx => ?_⟩
          rw [List.take_add_one, hi] at hx
          rcases List.mem_append.mp hx with h | h
          · exact ha x h
          · have e : x = (b, d) := by simpa using h
            subst e
            simpa using hn
      · rintro σ' H' e' ⟨⟨y, z, rfl⟩, ha⟩
        rw [List.take_length] at ha
        refine s_ret (ev_c1 (S := seqR K natR) (v := .bl (inTurn g)) (er_ev (ev_var rfl) ((seqR K natR).mono (e1.trans e') hv)) fun x H1 e hx Q q E => ⟨x, g, rfl, hx, h7, q⟩) fun H2 e2 => ret_to q ((e1.trans e').trans e2) (congrArg V.bl (nums_else hb ha).symm)
theorem ok_pushable_counts {f : Addr} {fd : FuncData} (F : Fun K "pushable_counts" "pushable_counts" s_pushable_counts f fd) (M : Mg mg) (D_decks_of : Def P w K mg base "decks_of" 1 ["rod"] (spDecks K)) : FnOk P w K mg base CX0 2 f fd ["rod"] (spCounts K) := by
  refine F.ok sc_pushable_counts (fun vs H Q E h => ?_) (fun cdv A outer s H vs Q E hr h => ⟨_, (pss_cons (ps_set (i := 1) sc_pushable_counts.nd rfl (.inl rfl) pe_int)
      (pss_cons (ps_for PassesOwn.never rfl (pi_list (pe_callD D_decks_of hr (by decide) (pa_cons (pv 0) pa_nil))) (pg_tup rfl (pgs_cons (pg_name (i := 2) sc_pushable_counts.nd rfl (.inl rfl)) (pgs_cons (pg_name (i := 3) sc_pushable_counts.nd rfl (.inl rfl)) pgs_nil))) (pss_one (ps_for PassesOwn.never rfl (pi_range1 rfl M.b_range (pa_cons (pv 2) pa_nil)) (pg_name (i := 4) sc_pushable_counts.nd rfl (.inl rfl)) (pss_one (ps_set (i := 1) sc_pushable_counts.nd rfl (.inl rfl) (pe_op op_or (pv 1) (pe_op op_shlW (pv 1) (pv 3))))))))
      (pss_one (ps_ret (pv 1))))), ?_⟩)
  · obtain ⟨v, g, rfl, _⟩ := h
    rfl
  · obtain ⟨v, g, rfl, hv, h7, hn, q⟩ := h
    have hs := (nums_facts hn).2.2.1
    refine q_asg (v := natV 1) ev_c fun H1 e1 => ?_
    refine q_forP (K := K) (R := natR) (S := natR) (er_seq (er_decks ((seqR K natR).mono e1 hv) h7 (ev_var rfl))) (fun i σ' _ => ∃ y z u, σ' = [some v, some (natV (((decks g).take i).foldl (fun c d => more d.2 d.1 c) 1)), y, z, u]) (fun _ _ => ⟨none, none, none, rfl⟩) ?_ ?_
    · rintro B i b d v1 v2 σ' H' eB e' hi rfl rfl ⟨y, z, u, rfl⟩
      have sd := sound_le (hs _ (List.mem_of_getElem? hi))
      have lt : ((decks g).take i).foldl (fun c d => more d.2 d.1 c) 1 < 2 ^ (1 + 945 * ((decks g).take i).length) := fold_lt _ 1 1 (by decide) fun d hd => hs d (mem_take hd)
      have l3 : ((decks g).take i).length ≤ 3 := by
        rw [List.length_take]
        exact Nat.min_le_right _ _
      generalize hc : ((decks g).take i).foldl (fun c d => more d.2 d.1 c) 1 = c at lt ⊢
      refine s_forR1 (n := (b : Int)) (ea_cons (ev_var rfl) ea_nil) ⟨by omega, by omega⟩ (fun k σ' H2 => Ex B H2 ∧ ∃ u, σ' = [some v, some (natV (more d k c)), some (natV b), some (natV d), u]) (fun H2 e2 => ⟨e'.trans e2, u, rfl⟩) ?_ ?_
      · rintro k σ2 H2 hk ⟨e2, u2, rfl⟩
        have lt2 := more_lt' (w := d) (k := k) lt (by omega) sd.2
        refine s_asg (ev_op (ev_var rfl) (ev_op (ev_var rfl) (ev_var rfl) (rv_I (shl_ok (lt_pow_abs lt2) (by omega)))) rv_I0) fun H3 e3 => ⟨e2.trans e3, some (.int (k : Int)), ?_⟩
        rw [or_shl]
        rfl
      · rintro σ2 H2 ⟨e2, u2, rfl⟩
        refine ⟨e2, some (natV b), some (natV d), u2, ?_⟩
        rw [Int.toNat_natCast, take_fold hi, hc]
    · rintro σ' H' e' ⟨y, z, u, rfl⟩
      refine s_ret (ev_var rfl) fun H2 e2 => ?_
      rw [List.take_length]
      exact q H2 ((e1.trans e').trans e2)
theorem ok_each_digit_can_be_pushed {f : Addr} {fd : FuncData} (F : Fun K "each_digit_can_be_pushed" "each_digit_can_be_pushed" s_each_digit_can_be_pushed f fd) (M : Mg mg) (D_pushable_counts : Def P w K mg base "pushable_counts" 2 ["rod"] (spCounts K)) : FnOk P w K mg base CX0 3 f fd ["rod"] (spEach K) := by
  refine F.ok sc_each_digit_can_be_pushed (fun vs H Q E h => ?_) (fun cdv A outer s H vs Q E hr h => ⟨_, (pss_cons (ps_set (i := 1) sc_each_digit_can_be_pushed.nd rfl (.inl rfl) (pe_op op_sub (pe_op op_shlW pe_int (pe_ix (ixL (K := K)) (pv 0) pe_int (fun _ _ => rfl))) pe_int))
      (pss_one (ps_ret (pe_cmpR op_eq (pe_op op_and (pe_callD D_pushable_counts hr (by decide) (pa_cons (pv 0) pa_nil)) (pv 1)) (pv 1) (nomark _))))), ?_⟩)
  · obtain ⟨v, g, rfl, _⟩ := h
    rfl
  · obtain ⟨v, g, rfl, hv, h7, hn, q⟩ := h
    have hr := (nums_facts hn).2.1
    refine q_asg (v := natV (2 ^ ix g 0 - 1)) (ev_is (ev_op (ev_op ev_c (nat_ix (j := 0) hv (by omega) (ev_var rfl)) (rv_I (shl_ok (n := 1) (by decide) (by omega)))) ev_c rv_I0) (congrArg V.int mask_eq)) fun H1 e1 => ?_
    refine s_ret (ev_op (ev_op (ev_c1 (S := seqR K natR) (v := natV (counts g)) (er_ev (ev_var rfl) ((seqR K natR).mono e1 hv)) fun x H1 e hx Q q E => ⟨x, g, rfl, hx, h7, hn, q⟩) (ev_var rfl) rv_I0) (ev_var rfl) (rv_eq rfl)) fun H2 e2 => ret_to q (e1.trans e2) ?_
    rw [and_mask]
    exact congrArg V.bl cast_eq
theorem ok_broken_rule {f : Addr} {fd : FuncData} (F : Fun K "broken_rule" "broken_rule" s_broken_rule f fd) (M : Mg mg) (D_numbers_are_sound : Def P w K mg base "numbers_are_sound" 3 ["rod"] (spNums K)) (D_worth_together : Def P w K mg base "worth_together" 2 ["rod"] (spWorth K)) (D_each_digit_can_be_pushed : Def P w K mg base "each_digit_can_be_pushed" 3 ["rod"] (spEach K)) : FnOk P w K mg base CX0 4 f fd ["rod"] (spBroken K) := by
  refine F.ok sc_broken_rule (fun vs H Q E h => ?_) (fun cdv A outer s H vs Q E hr h => ⟨_, (pss_cons (ps_if (pt_not (pt_val (pe_callD D_numbers_are_sound hr (by decide) (pa_cons (pv 0) pa_nil)))) (pss_one (ps_ret pe_int)) pss_nil)
      (pss_cons (ps_if (pt_cmpR op_gt (pe_callD D_worth_together hr (by decide) (pa_cons (pv 0) pa_nil)) (pe_gint M.c_MOST_WORTH_TOGETHER) (nomark _)) (pss_one (ps_ret pe_int)) pss_nil)
      (pss_cons (ps_if (pt_not (pt_val (pe_callD D_each_digit_can_be_pushed hr (by decide) (pa_cons (pv 0) pa_nil)))) (pss_one (ps_ret pe_int)) pss_nil)
      (pss_one (ps_ret pe_int))))), ?_⟩)
  · obtain ⟨v, g, rfl, _⟩ := h
    rfl
  · obtain ⟨v, g, rfl, hv, h7, hb, q⟩ := h
    refine q_when (b := !numsSound g) (et_not (et_B (ev_c1 (S := seqR K natR) (er_ev (ev_var rfl) hv) fun x H1 e hx Q q E => ⟨x, g, rfl, hx, h7, q⟩))) (fun hn H1 e1 => ?_) (fun hn H1 e1 => ?_)
    · refine s_ret ev_c fun H2 e2 => ret_to q (e1.trans e2) ?_
      unfold broken
      rw [if_pos (by simpa using hn)]
      rfl
    · have hn' : numsSound g = true := by simpa using hn
      refine q_when (b := decide (255 < worthT g)) (et_is (et_test (ev_op (ev_c1 (S := seqR K natR) (v := natV (worthT g)) (er_ev (ev_var rfl) ((seqR K natR).mono e1 hv)) fun x H1 e hx Q q E => ⟨x, g, rfl, hx, h7, hb, q⟩) ev_c rv_I0)) (cast_lt (a := 255))) (fun hw H2 e2 => ?_) (fun hw H2 e2 => ?_)
      · refine s_ret ev_c fun H3 e3 => ret_to q ((e1.trans e2).trans e3) ?_
        unfold broken
        rw [if_neg (by simp [hn']), if_pos (of_decide_eq_true hw)]
        rfl
      · refine q_when (b := !allPushed g) (et_not (et_B (ev_c1 (S := seqR K natR) (er_ev (ev_var rfl) ((seqR K natR).mono (e1.trans e2) hv)) fun x H1 e hx Q q E => ⟨x, g, rfl, hx, h7, hn', q⟩))) (fun ha H3 e3 => ?_) (fun ha H3 e3 => ?_)
        · refine s_ret ev_c fun H4 e4 => ret_to q (((e1.trans e2).trans e3).trans e4) ?_
          unfold broken
          rw [if_neg (by simp [hn']), if_neg (of_decide_eq_false hw), if_pos (by simpa using ha)]
          rfl
        · refine s_ret ev_c fun H4 e4 => ret_to q (((e1.trans e2).trans e3).trans e4) ?_
          unfold broken
          rw [if_neg (by simp [hn']), if_neg (of_decide_eq_false hw), if_neg (by simpa using ha)]
          rfl
theorem ok_rods_of {f : Addr} {fd : FuncData} (F : Fun K "rods_of" "rods_of" s_rods_of f fd) (M : Mg mg) : FnOk P w K mg base CX0 1 f fd ["make"] (spRods K) := by
  refine F.ok sc_rods_of (fun vs H Q E h => ?_) (fun cdv A outer s H vs Q E hr h => ⟨_, (pss_one (ps_ret (pe_lc (own := [("start", 1)]) (g := gName 1) (tt := tYes) rfl sc_rods_of.nd (pi_range3 rfl M.b_range (pa_cons pe_int (pa_cons (pe_callB (lenS (K := K)) (by rfl) M.b_len PySem.boot_len (pa_cons (pv 0) pa_nil)) (pa_cons (pe_gint M.c_NUMBERS_A_ROD) pa_nil)))) (blkOk_by (N := N_rods_of) (sc := defScope s_rods_of) (by decide +kernel)) (fun _ _ _ _ _ => (pg_name (i := 1) sc_rods_of.nd rfl (.inl rfl))) (fun _ _ _ _ _ => pts_nil) (fun _ _ _ _ _ => (pe_slice (slL (K := K)) (pv 0) (po_some (pv 1)) (po_some (pe_op op_add (pv 1) (pe_gint M.c_NUMBERS_A_ROD)))))))), ?_⟩)
  · obtain ⟨v, g, rfl, _⟩ := h
    rfl
  · obtain ⟨v, l, rfl, hv, h7, hl, q⟩ := h
    obtain ⟨p, rfl, hp⟩ := nats_at.mp hv
    refine s_retR (flat_nats (l := (List.range (l.length / 7)).map fun i => ((l.drop (7 * i)).take 7).map natV) ?_ (er_lcR3L _ (ea_cons ev_c (ea_cons (er_len (K := K) (R := natR) (er_ev (ev_var rfl) hv)) (ea_cons ev_c ea_nil))) ?_ (by omega) (fun x => rfl) fun i H1 e1 hi => ?_)) q
    · unfold cuts
      rw [List.map_map]
      rfl
    · exact rgc_seven h7 hl
    · exact cutV_seven (l := l) (i := i) (by omega) ▸ el_sl (ev_var rfl) (eo_some (ev_var rfl)) (eo_some (ev_op (ev_var rfl) ev_c rv_I0)) (ex_l e1 hp)
theorem ok_make_fault {f : Addr} {fd : FuncData} (F : Fun K "make_fault" "make_fault" s_make_fault f fd) (M : Mg mg) (D_has_whole_rods : Def P w K mg base "has_whole_rods" 1 ["make"] (spWhole K)) (D_rods_of : Def P w K mg base "rods_of" 1 ["make"] (spRods K)) (D_broken_rule : Def P w K mg base "broken_rule" 4 ["rod"] (spBroken K)) : FnOk P w K mg base CX0 5 f fd ["make"] (spFault K) := by
  refine F.ok sc_make_fault (fun vs H Q E h => ?_) (fun cdv A outer s H vs Q E hr h => ⟨_, (pss_cons (ps_if (pt_not (pt_val (pe_callD D_has_whole_rods hr (by decide) (pa_cons (pv 0) pa_nil)))) (pss_one (ps_ret (pe_lst (pa_cons pe_int (pa_cons pe_int pa_nil))))) pss_nil)
      (pss_cons (ps_for PassesOwn.never rfl (pi_enum rfl M.b_enumerate (pa_cons (pe_callD D_rods_of hr (by decide) (pa_cons (pv 0) pa_nil)) pa_nil)) (pg_tup rfl (pgs_cons (pg_name (i := 1) sc_make_fault.nd rfl (.inl rfl)) (pgs_cons (pg_name (i := 2) sc_make_fault.nd rfl (.inl rfl)) pgs_nil))) (pss_cons (ps_set (i := 3) sc_make_fault.nd rfl (.inl rfl) (pe_callD D_broken_rule hr (by decide) (pa_cons (pv 2) pa_nil)))
      (pss_one (ps_if (pt_cmpR op_gt (pv 3) pe_int (nomark _)) (pss_one (ps_ret (pe_lst (pa_cons (pv 3) (pa_cons (pv 1) pa_nil))))) pss_nil))))
      (pss_one (ps_ret (pe_lst pa_nil))))), ?_⟩)
  · obtain ⟨v, g, rfl, _⟩ := h
    rfl
  · obtain ⟨v, l, rfl, hv, hl, hb, q⟩ := h
    refine q_when (b := !wholeRods l) (et_not (et_B (ev_c1 (S := seqR K natR) (er_ev (ev_var rfl) hv) fun x H1 e hx Q q E => ⟨x, l, rfl, hx, q⟩))) (fun hn H1 e1 => ?_) (fun hn H1 e1 => ?_)
    · refine s_retL (xs := [natV 1, natV 0]) (el_lst (ea_cons ev_c (ea_cons ev_c ea_nil)) (by decide)) fun p H2 hp e2 h2 => ?_
      exact ret_goL q e1 hp e2 h2 (by rw [mfault_bad (by simpa using hn)]; rfl)
    · have hw : wholeRods l = true := by simpa using hn
      have wf := whole_facts hw
      refine q_forEnum (K := K) (R := seqR K natR) (l := cuts l) (ec_cons (er_seq (er_c1 (R := lstR (seqR K natR)) (S := seqR K natR) (er_ev (ev_var rfl) ((seqR K natR).mono e1 hv)) fun x H1 e hx Q q E => ⟨x, l, rfl, hx, wf.2.2, hl, q⟩)) ec_nil |> ec_one) (fun i σ' _ => (∃ y z u, σ' = [some v, y, z, u]) ∧ ∀ (j : Nat) g, j < i → (cuts l)[j]? = some g → broken g = 0) (fun _ _ => ⟨⟨none, none, none, rfl⟩, fun j g hj => absurd hj (Nat.not_lt_zero _)⟩) ?_ (fun _ _ _ _ _ h => h) ?_
      · rintro B i g vg σ' H' eB e' hi hg ⟨⟨y, z, u, rfl⟩, ha⟩
        have gm := List.mem_of_getElem? hi
        have g7 := cuts_seven gm
        have gb : ∀ x ∈ g, x < 4294967296 := fun x hx => hb x (cuts_mem gm x hx)
        refine q_asg (v := natV (broken g)) (ev_c1 (S := seqR K natR) (er_ev (ev_var rfl) hg) fun x H1 e hx Q q E => ⟨x, g, rfl, hx, g7, gb, q⟩) fun H2 e2 => ?_
        refine s_when (b := decide (0 < broken g)) (et_is (et_test (ev_op (ev_var rfl) ev_c rv_I0)) cast_lt0) (fun hr H3 e3 => ?_) (fun hr H3 e3 => ?_)
        · refine s_retL (xs := [natV (broken g), natV i]) (el_lst (ea_cons (ev_var rfl) (ea_cons (ev_var rfl) ea_nil)) (by simp)) fun p H4 hp e4 h4 => ?_
          exact ret_goL q (e1.trans (eB.trans ((e'.trans e2).trans e3))) hp e4 h4 (by rw [mfault_at hw hi (Nat.ne_of_gt (of_decide_eq_true hr)) ha]; rfl)
        · refine ⟨(e'.trans e2).trans e3, ⟨_, _, _, rfl⟩, fun j g' hj hg' => ?_⟩
          by_cases hji : j < i
          · exact ha j g' hji hg'
          · have : j = i := by omega
            subst this
            have : g' = g := Option.some.inj (hg'.symm.trans hi)
            subst this
            have := of_decide_eq_false hr
            omega
      · rintro σ' H' e' ⟨⟨y, z, u, rfl⟩, ha⟩
        refine s_retL (xs := []) (el_lst ea_nil (by decide)) fun p H4 hp e4 h4 => ?_
        exact ret_goL q (e1.trans e') hp e4 h4 (by rw [mfault_ok hw fun j g hj => ha j g (List.getElem?_eq_some_iff.mp hj).1 hj]; rfl)
theorem ok_product_of_ratios {f : Addr} {fd : FuncData} (F : Fun K "product_of_ratios" "product_of_ratios" s_product_of_ratios f fd) (M : Mg mg) (D_rods_of : Def P w K mg base "rods_of" 1 ["make"] (spRods K)) : FnOk P w K mg base CX0 2 f fd ["make"] (spProd K) := by
  refine F.ok sc_product_of_ratios (fun vs H Q E h => ?_) (fun cdv A outer s H vs Q E hr h => ⟨_, (pss_cons (ps_set (i := 1) sc_product_of_ratios.nd rfl (.inl rfl) pe_int)
      (pss_cons (ps_for PassesOwn.never rfl (pi_list (pe_callD D_rods_of hr (by decide) (pa_cons (pv 0) pa_nil))) (pg_name (i := 2) sc_product_of_ratios.nd rfl (.inl rfl)) (pss_one (ps_set (i := 1) sc_product_of_ratios.nd rfl (.inl rfl) (pe_op op_mulX (pv 1) (pe_ix (ixL (K := K)) (pv 2) pe_int (fun _ _ => rfl))))))
      (pss_one (ps_ret (pv 1))))), ?_⟩)
  · obtain ⟨v, g, rfl, _⟩ := h
    rfl
  · obtain ⟨v, l, rfl, hv, h7, hl, hb, q⟩ := h
    have hlt : ∀ g ∈ cuts l, ix g 0 < 2 ^ 32 := fun g hg => worthT_le (cuts_seven hg) (fun x hx => hb x (cuts_mem hg x hx)) 0
    refine q_asg (v := natV 1) ev_c fun H1 e1 => ?_
    refine q_forR (K := K) (R := seqR K natR) (l := cuts l) (er_seq (er_c1 (R := lstR (seqR K natR)) (S := seqR K natR) (er_ev (ev_var rfl) ((seqR K natR).mono e1 hv)) fun x H1 e hx Q q E => ⟨x, l, rfl, hx, h7, hl, q⟩)) (fun i σ' _ => ∃ y, σ' = [some v, some (natV (prodR ((cuts l).take i))), y]) (fun _ _ => ⟨none, rfl⟩) ?_ ?_
    · rintro B i g vg σ' H' eB e' hi hg ⟨y, rfl⟩
      have gm := List.mem_of_getElem? hi
      have lt : prodR ((cuts l).take i) < 2 ^ (1 + 32 * ((cuts l).take i).length) := prod_lt _ 1 1 (by decide) fun g hg => hlt g (mem_take hg)
      have l3 : ((cuts l).take i).length ≤ 100 := by
        rw [List.length_take, cuts_len]
        exact Nat.le_trans (Nat.min_le_right _ _) (by omega)
      refine s_asg (ev_op (ev_var rfl) (nat_ix (j := 0) hg (by rw [cuts_seven gm]; decide) (ev_var rfl)) (rv_I (mulx_ok (b := 32) (lt_pow_abs lt) (lt_pow_abs (hlt g gm)) (by omega)))) fun H2 e2 => ⟨e'.trans e2, some vg, ?_⟩
      unfold prodR
      rw [take_fold hi]
      exact congrArg (fun x => [some v, some (V.int x), some vg]) (by push_cast; rfl)
    · rintro σ' H' e' ⟨y, rfl⟩
      refine s_ret (ev_var rfl) fun H2 e2 => ?_
      rw [List.take_length]
      exact q H2 ((e1.trans e').trans e2)
theorem ok_refused_for {f : Addr} {fd : FuncData} (F : Fun K "refused_for" "refused_for" s_refused_for f fd) (M : Mg mg) : FnOk P w K mg base CX0 1 f fd ["fault"] (spRefused) := by
  refine F.ok sc_refused_for (fun vs H Q E h => ?_) (fun cdv A outer s H vs Q E hr h => ⟨_, (pss_one (ps_ret (pe_op op_cat (pe_lst (pa_cons (pe_un un_neg pe_int) pa_nil)) (pv 0)))), ?_⟩)
  · obtain ⟨p, xs, rfl, _⟩ := h
    rfl
  · obtain ⟨p, xs, rfl, hp, hl, q⟩ := h
    exact s_retL (el_cat (el_lst (ea_cons (ev_un ev_c ru_neg) ea_nil) (by decide)) (fun H1 e1 => ev_var rfl) hp (by simp; omega)) q
theorem ok_span {f : Addr} {fd : FuncData} (F : Fun K "span" "span" s_span f fd) (M : Mg mg) (D_make_fault : Def P w K mg base "make_fault" 5 ["make"] (spFault K)) (D_refused_for : Def P w K mg base "refused_for" 1 ["fault"] (spRefused)) (D_product_of_ratios : Def P w K mg base "product_of_ratios" 2 ["make"] (spProd K)) : FnOk P w K mg base CX0 6 f fd ["make"] (spSpan K) := by
  refine F.ok sc_span (fun vs H Q E h => ?_) (fun cdv A outer s H vs Q E hr h => ⟨_, (pss_cons (ps_set (i := 1) sc_span.nd rfl (.inl rfl) (pe_callD D_make_fault hr (by decide) (pa_cons (pv 0) pa_nil)))
      (pss_cons (ps_if (pt_cmpR op_gt (pe_callB (lenS (K := K)) (by rfl) M.b_len PySem.boot_len (pa_cons (pv 1) pa_nil)) pe_int (nomark _)) (pss_one (ps_ret (pe_callD D_refused_for hr (by decide) (pa_cons (pv 1) pa_nil)))) pss_nil)
      (pss_one (ps_ret (pe_lst (pa_cons pe_int (pa_cons (pe_callD D_product_of_ratios hr (by decide) (pa_cons (pv 0) pa_nil)) pa_nil))))))), ?_⟩)
  · obtain ⟨v, g, rfl, _⟩ := h
    rfl
  · obtain ⟨v, l, rfl, hv, hl, hb, q⟩ := h
    refine q_asgL (el_c1 (S := seqR K natR) (er_ev (ev_var rfl) hv) fun x H1 e hx Q q E => ⟨x, l, rfl, hx, hl, hb, q⟩) fun p H1 hp e1 h1 => ?_
    refine q_when (b := decide (0 < ((mfault l).map natV).length)) (et_is (et_test (ev_op (ev_len (ev_var rfl) (sq_of h1)) ev_c rv_I0)) cast_lt0) (fun hn H2 e2 => ?_) (fun hn H2 e2 => ?_)
    · refine s_retL (el_c1 (S := flatR) (er_ev (ev_var rfl) ⟨p, rfl, e2 _ _ h1⟩) fun x H3 e hx Q q E => ?_) fun r H3 hr e3 h3 => ret_goL q (e1.trans e2) hr e3 h3 (spanned_bad (ne_of_pos hn))
      obtain ⟨z, rfl, hz⟩ := hx
      exact ⟨z, _, rfl, hz, mfault_short, q⟩
    · have hm : mfault l = [] := by simpa using hn
      have wf := whole_facts (mfault_nil hm).1
      exact s_retL (xs := [natV 0, natV (prodR (cuts l))]) (el_lst (ea_cons ev_c (ea_cons (ev_c1 (S := seqR K natR) (er_ev (ev_var rfl) ((seqR K natR).mono (e1.trans e2) hv)) fun x H1 e hx Q q E => ⟨x, l, rfl, hx, wf.2.2, hl, hb, q⟩) ea_nil)) (by simp)) fun r H3 hr e3 h3 => ret_goL q (e1.trans e2) hr e3 h3 (spanned_good hm)
end
/-! ### the request -/
theorem ints_nats {ns : List Int} (h : ∀ x ∈ ns, 0 ≤ x) : ns.map V.int = (ns.map Int.toNat).map natV := by
  rw [List.map_map]
  refine List.map_congr_left fun x hx => ?_
  show V.int x = V.int ((x.toNat : Nat) : Int)
  rw [Int.toNat_of_nonneg (h x hx)]
theorem req_list {ns : List Int} {m : Nat} {hi : Int} (h : (Codec.inLen 0 m ns && ns.all (Codec.inInt 0 hi)) = true) : ns.length ≤ m ∧ ∀ x ∈ ns, 0 ≤ x ∧ x ≤ hi := by
  rw [Bool.and_eq_true] at h
  refine ⟨(Codec.inNat_iff.mp h.1).2, fun x hx => Codec.inInt_iff.mp (List.all_eq_true.mp h.2 x hx)⟩
theorem req_at {K : PySem.W.Frag} {H : Hp} {p : Addr} {ns : List Int} {m : Nat} (hs : SqL K H p (ns.map V.int)) (h : ns.length ≤ m ∧ ∀ x ∈ ns, 0 ≤ x ∧ x ≤ 4294967295) :
    (seqR K natR).at_ H (.ref p) (ns.map Int.toNat) ∧ (ns.map Int.toNat).length ≤ m ∧ ∀ x ∈ ns.map Int.toNat, x < 4294967296 := by
  refine ⟨nats_at.mpr ⟨p, rfl, ints_nats (fun x hx => (h.2 x hx).1) ▸ hs⟩, by rw [List.length_map]; exact h.1, fun x hx => ?_⟩
  obtain ⟨y, hy, rfl⟩ := List.mem_map.mp hx
  have := h.2 y hy
  omega
theorem all_mk {P : Program} {w : World} {K : PySem.W.Frag} {h : Heap} {mg : Str → Option Value} {fa f0 f1 f2 f3 f4 f5 f6 f7 f8 f9 f10 f11 f12 f13 : Addr} (X : K.In h) (G : h.Ns mainGlobals mg) (hfa : mg "span" = some (.ref fa))
    {od0 an0 od1 an1 od2 an2 od3 an3 od4 an4 od5 an5 od6 an6 od7 an7 od8 an8 od9 an9 od10 an10 od11 an11 od12 an12 od13 an13 : Option Addr} {sl0 sl1 sl2 sl3 sl4 sl5 sl6 sl7 sl8 sl9 sl10 sl11 sl12 sl13 : Array (Option Value)} {oc0 kV0 dc0 pm0 cd0 ct0 oc1 kV1 dc1 pm1 cd1 ct1 oc2 kV2 dc2 pm2 cd2 ct2 oc3 kV3 dc3 pm3 cd3 ct3 oc4 kV4 dc4 pm4 cd4 ct4 oc5 kV5 dc5 pm5 cd5 ct5 oc6 kV6 dc6 pm6 cd6 ct6 oc7 kV7 dc7 pm7 cd7 ct7 oc8 kV8 dc8 pm8 cd8 ct8 oc9 kV9 dc9 pm9 cd9 ct9 oc10 kV10 dc10 pm10 cd10 ct10 oc11 kV11 dc11 pm11 cd11 ct11 oc12 kV12 dc12 pm12 cd12 ct12 oc13 kV13 dc13 pm13 cd13 ct13 : Value}
    {tk_LEAST_RATIO tk_MOST_BEADS tk_MOST_RATIO tk_MOST_RODS tk_MOST_WORTH tk_MOST_WORTH_TOGETHER tk_NUMBERS_A_ROD : Tok}
    (a0 : PySem.W.nsIn K mainGlobals "has_whole_rods" = some (some (.ref f0))) (l0 : K.lookup f0 = some ⟨oc0, od0, .func (PySem.W.fnOf "has_whole_rods" "has_whole_rods" (defArgs s_has_whole_rods) (defBody s_has_whole_rods) (defScope s_has_whole_rods) .none kV0 dc0 pm0 an0 cd0 ct0), sl0⟩) (c0 : PySem.W.codeIn K cd0 "has_whole_rods" = true) (k0 : PySem.W.keepIn K (.ref f0) = true)
    (a1 : PySem.W.nsIn K mainGlobals "rods_of" = some (some (.ref f1))) (l1 : K.lookup f1 = some ⟨oc1, od1, .func (PySem.W.fnOf "rods_of" "rods_of" (defArgs s_rods_of) (defBody s_rods_of) (defScope s_rods_of) .none kV1 dc1 pm1 an1 cd1 ct1), sl1⟩) (c1 : PySem.W.codeIn K cd1 "rods_of" = true) (k1 : PySem.W.keepIn K (.ref f1) = true)
    (a2 : PySem.W.nsIn K mainGlobals "decks_of" = some (some (.ref f2))) (l2 : K.lookup f2 = some ⟨oc2, od2, .func (PySem.W.fnOf "decks_of" "decks_of" (defArgs s_decks_of) (defBody s_decks_of) (defScope s_decks_of) .none kV2 dc2 pm2 an2 cd2 ct2), sl2⟩) (c2 : PySem.W.codeIn K cd2 "decks_of" = true) (k2 : PySem.W.keepIn K (.ref f2) = true)
    (a3 : PySem.W.nsIn K mainGlobals "decks_are_in_turn" = some (some (.ref f3))) (l3 : K.lookup f3 = some ⟨oc3, od3, .func (PySem.W.fnOf "decks_are_in_turn" "decks_are_in_turn" (defArgs s_decks_are_in_turn) (defBody s_decks_are_in_turn) (defScope s_decks_are_in_turn) .none kV3 dc3 pm3 an3 cd3 ct3), sl3⟩) (c3 : PySem.W.codeIn K cd3 "decks_are_in_turn" = true) (k3 : PySem.W.keepIn K (.ref f3) = true)
    (a4 : PySem.W.nsIn K mainGlobals "deck_is_sound" = some (some (.ref f4))) (l4 : K.lookup f4 = some ⟨oc4, od4, .func (PySem.W.fnOf "deck_is_sound" "deck_is_sound" (defArgs s_deck_is_sound) (defBody s_deck_is_sound) (defScope s_deck_is_sound) .none kV4 dc4 pm4 an4 cd4 ct4), sl4⟩) (c4 : PySem.W.codeIn K cd4 "deck_is_sound" = true) (k4 : PySem.W.keepIn K (.ref f4) = true)
    (a5 : PySem.W.nsIn K mainGlobals "numbers_are_sound" = some (some (.ref f5))) (l5 : K.lookup f5 = some ⟨oc5, od5, .func (PySem.W.fnOf "numbers_are_sound" "numbers_are_sound" (defArgs s_numbers_are_sound) (defBody s_numbers_are_sound) (defScope s_numbers_are_sound) .none kV5 dc5 pm5 an5 cd5 ct5), sl5⟩) (c5 : PySem.W.codeIn K cd5 "numbers_are_sound" = true) (k5 : PySem.W.keepIn K (.ref f5) = true)
    (a6 : PySem.W.nsIn K mainGlobals "worth_together" = some (some (.ref f6))) (l6 : K.lookup f6 = some ⟨oc6, od6, .func (PySem.W.fnOf "worth_together" "worth_together" (defArgs s_worth_together) (defBody s_worth_together) (defScope s_worth_together) .none kV6 dc6 pm6 an6 cd6 ct6), sl6⟩) (c6 : PySem.W.codeIn K cd6 "worth_together" = true) (k6 : PySem.W.keepIn K (.ref f6) = true)
    (a7 : PySem.W.nsIn K mainGlobals "pushable_counts" = some (some (.ref f7))) (l7 : K.lookup f7 = some ⟨oc7, od7, .func (PySem.W.fnOf "pushable_counts" "pushable_counts" (defArgs s_pushable_counts) (defBody s_pushable_counts) (defScope s_pushable_counts) .none kV7 dc7 pm7 an7 cd7 ct7), sl7⟩) (c7 : PySem.W.codeIn K cd7 "pushable_counts" = true) (k7 : PySem.W.keepIn K (.ref f7) = true)
    (a8 : PySem.W.nsIn K mainGlobals "each_digit_can_be_pushed" = some (some (.ref f8))) (l8 : K.lookup f8 = some ⟨oc8, od8, .func (PySem.W.fnOf "each_digit_can_be_pushed" "each_digit_can_be_pushed" (defArgs s_each_digit_can_be_pushed) (defBody s_each_digit_can_be_pushed) (defScope s_each_digit_can_be_pushed) .none kV8 dc8 pm8 an8 cd8 ct8), sl8⟩) (c8 : PySem.W.codeIn K cd8 "each_digit_can_be_pushed" = true) (k8 : PySem.W.keepIn K (.ref f8) = true)
    (a9 : PySem.W.nsIn K mainGlobals "broken_rule" = some (some (.ref f9))) (l9 : K.lookup f9 = some ⟨oc9, od9, .func (PySem.W.fnOf "broken_rule" "broken_rule" (defArgs s_broken_rule) (defBody s_broken_rule) (defScope s_broken_rule) .none kV9 dc9 pm9 an9 cd9 ct9), sl9⟩) (c9 : PySem.W.codeIn K cd9 "broken_rule" = true) (k9 : PySem.W.keepIn K (.ref f9) = true)
    (a10 : PySem.W.nsIn K mainGlobals "make_fault" = some (some (.ref f10))) (l10 : K.lookup f10 = some ⟨oc10, od10, .func (PySem.W.fnOf "make_fault" "make_fault" (defArgs s_make_fault) (defBody s_make_fault) (defScope s_make_fault) .none kV10 dc10 pm10 an10 cd10 ct10), sl10⟩) (c10 : PySem.W.codeIn K cd10 "make_fault" = true) (k10 : PySem.W.keepIn K (.ref f10) = true)
    (a11 : PySem.W.nsIn K mainGlobals "refused_for" = some (some (.ref f11))) (l11 : K.lookup f11 = some ⟨oc11, od11, .func (PySem.W.fnOf "refused_for" "refused_for" (defArgs s_refused_for) (defBody s_refused_for) (defScope s_refused_for) .none kV11 dc11 pm11 an11 cd11 ct11), sl11⟩) (c11 : PySem.W.codeIn K cd11 "refused_for" = true) (k11 : PySem.W.keepIn K (.ref f11) = true)
    (a12 : PySem.W.nsIn K mainGlobals "product_of_ratios" = some (some (.ref f12))) (l12 : K.lookup f12 = some ⟨oc12, od12, .func (PySem.W.fnOf "product_of_ratios" "product_of_ratios" (defArgs s_product_of_ratios) (defBody s_product_of_ratios) (defScope s_product_of_ratios) .none kV12 dc12 pm12 an12 cd12 ct12), sl12⟩) (c12 : PySem.W.codeIn K cd12 "product_of_ratios" = true) (k12 : PySem.W.keepIn K (.ref f12) = true)
    (a13 : PySem.W.nsIn K mainGlobals "span" = some (some (.ref f13))) (l13 : K.lookup f13 = some ⟨oc13, od13, .func (PySem.W.fnOf "span" "span" (defArgs s_span) (defBody s_span) (defScope s_span) .none kV13 dc13 pm13 an13 cd13 ct13), sl13⟩) (c13 : PySem.W.codeIn K cd13 "span" = true) (k13 : PySem.W.keepIn K (.ref f13) = true)
    (g_LEAST_RATIO : PySem.W.nsIn K mainGlobals "LEAST_RATIO" = some (some (.int 2 tk_LEAST_RATIO)))
    (g_MOST_BEADS : PySem.W.nsIn K mainGlobals "MOST_BEADS" = some (some (.int 15 tk_MOST_BEADS)))
    (g_MOST_RATIO : PySem.W.nsIn K mainGlobals "MOST_RATIO" = some (some (.int 20 tk_MOST_RATIO)))
    (g_MOST_RODS : PySem.W.nsIn K mainGlobals "MOST_RODS" = some (some (.int 64 tk_MOST_RODS)))
    (g_MOST_WORTH : PySem.W.nsIn K mainGlobals "MOST_WORTH" = some (some (.int 63 tk_MOST_WORTH)))
    (g_MOST_WORTH_TOGETHER : PySem.W.nsIn K mainGlobals "MOST_WORTH_TOGETHER" = some (some (.int 255 tk_MOST_WORTH_TOGETHER)))
    (g_NUMBERS_A_ROD : PySem.W.nsIn K mainGlobals "NUMBERS_A_ROD" = some (some (.int 7 tk_NUMBERS_A_ROD)))
    (z_enumerate : PySem.W.nsIn K mainGlobals "enumerate" = some none)
    (z_len : PySem.W.nsIn K mainGlobals "len" = some none)
    (z_range : PySem.W.nsIn K mainGlobals "range" = some none)
    : ∃ fd : FuncData, (∀ (s : Shared) (us : List Value), us.length = (["make"] : List Str).length → BindsTo s fd ⟨us, []⟩ ((["make"] : List Str).zip us)) ∧ ∀ base : Heap, K.In base → base.Ns mainGlobals mg → FnOk P w K mg base CX0 6 fa fd ["make"] (spSpan K) := by
  have e := hfa.symm.trans (PySem.W.mg_of X G a13)
  cases e
  have M : Mg mg := ⟨⟨_, PySem.W.mg_of X G g_LEAST_RATIO⟩, ⟨_, PySem.W.mg_of X G g_MOST_BEADS⟩, ⟨_, PySem.W.mg_of X G g_MOST_RATIO⟩, ⟨_, PySem.W.mg_of X G g_MOST_RODS⟩, ⟨_, PySem.W.mg_of X G g_MOST_WORTH⟩, ⟨_, PySem.W.mg_of X G g_MOST_WORTH_TOGETHER⟩, ⟨_, PySem.W.mg_of X G g_NUMBERS_A_ROD⟩, PySem.W.mg_none_of X G z_enumerate, PySem.W.mg_none_of X G z_len, PySem.W.mg_none_of X G z_range⟩
  have F0 := fun_mk (st := s_has_whole_rods) l0 c0 k0
  have D_has_whole_rods : ∀ base : Heap, Def P w K mg base "has_whole_rods" 1 ["make"] (spWhole K) := fun base => ⟨_, _, PySem.W.mg_of X G a0, k0, F0.binds (ps := ["make"]) (fun _ _ _ _ _ _ us hl => match us, hl with | [_], _ => rfl), ok_has_whole_rods F0 M⟩
  have F1 := fun_mk (st := s_rods_of) l1 c1 k1
  have D_rods_of : ∀ base : Heap, Def P w K mg base "rods_of" 1 ["make"] (spRods K) := fun base => ⟨_, _, PySem.W.mg_of X G a1, k1, F1.binds (ps := ["make"]) (fun _ _ _ _ _ _ us hl => match us, hl with | [_], _ => rfl), ok_rods_of F1 M⟩
  have F2 := fun_mk (st := s_decks_of) l2 c2 k2
  have D_decks_of : ∀ base : Heap, Def P w K mg base "decks_of" 1 ["rod"] (spDecks K) := fun base => ⟨_, _, PySem.W.mg_of X G a2, k2, F2.binds (ps := ["rod"]) (fun _ _ _ _ _ _ us hl => match us, hl with | [_], _ => rfl), ok_decks_of F2 M⟩
  have F3 := fun_mk (st := s_decks_are_in_turn) l3 c3 k3
  have D_decks_are_in_turn : ∀ base : Heap, Def P w K mg base "decks_are_in_turn" 2 ["rod"] (spTurn K) := fun base => ⟨_, _, PySem.W.mg_of X G a3, k3, F3.binds (ps := ["rod"]) (fun _ _ _ _ _ _ us hl => match us, hl with | [_], _ => rfl), ok_decks_are_in_turn F3 M (D_decks_of base)⟩
  have F4 := fun_mk (st := s_deck_is_sound) l4 c4 k4
  have D_deck_is_sound : ∀ base : Heap, Def P w K mg base "deck_is_sound" 1 ["beads", "worth"] (spSound) := fun base => ⟨_, _, PySem.W.mg_of X G a4, k4, F4.binds (ps := ["beads", "worth"]) (fun _ _ _ _ _ _ us hl => match us, hl with | [_, _], _ => rfl), ok_deck_is_sound F4 M⟩
  have F5 := fun_mk (st := s_numbers_are_sound) l5 c5 k5
  have D_numbers_are_sound : ∀ base : Heap, Def P w K mg base "numbers_are_sound" 3 ["rod"] (spNums K) := fun base => ⟨_, _, PySem.W.mg_of X G a5, k5, F5.binds (ps := ["rod"]) (fun _ _ _ _ _ _ us hl => match us, hl with | [_], _ => rfl), ok_numbers_are_sound F5 M (D_decks_of base) (D_decks_are_in_turn base) (D_deck_is_sound base)⟩
  have F6 := fun_mk (st := s_worth_together) l6 c6 k6
  have D_worth_together : ∀ base : Heap, Def P w K mg base "worth_together" 2 ["rod"] (spWorth K) := fun base => ⟨_, _, PySem.W.mg_of X G a6, k6, F6.binds (ps := ["rod"]) (fun _ _ _ _ _ _ us hl => match us, hl with | [_], _ => rfl), ok_worth_together F6 M (D_decks_of base)⟩
  have F7 := fun_mk (st := s_pushable_counts) l7 c7 k7
  have D_pushable_counts : ∀ base : Heap, Def P w K mg base "pushable_counts" 2 ["rod"] (spCounts K) := fun base => ⟨_, _, PySem.W.mg_of X G a7, k7, F7.binds (ps := ["rod"]) (fun _ _ _ _ _ _ us hl => match us, hl with | [_], _ => rfl), ok_pushable_counts F7 M (D_decks_of base)⟩
  have F8 := fun_mk (st := s_each_digit_can_be_pushed) l8 c8 k8
  have D_each_digit_can_be_pushed : ∀ base : Heap, Def P w K mg base "each_digit_can_be_pushed" 3 ["rod"] (spEach K) := fun base => ⟨_, _, PySem.W.mg_of X G a8, k8, F8.binds (ps := ["rod"]) (fun _ _ _ _ _ _ us hl => match us, hl with | [_], _ => rfl), ok_each_digit_can_be_pushed F8 M (D_pushable_counts base)⟩
  have F9 := fun_mk (st := s_broken_rule) l9 c9 k9
  have D_broken_rule : ∀ base : Heap, Def P w K mg base "broken_rule" 4 ["rod"] (spBroken K) := fun base => ⟨_, _, PySem.W.mg_of X G a9, k9, F9.binds (ps := ["rod"]) (fun _ _ _ _ _ _ us hl => match us, hl with | [_], _ => rfl), ok_broken_rule F9 M (D_numbers_are_sound base) (D_worth_together base) (D_each_digit_can_be_pushed base)⟩
  have F10 := fun_mk (st := s_make_fault) l10 c10 k10
  have D_make_fault : ∀ base : Heap, Def P w K mg base "make_fault" 5 ["make"] (spFault K) := fun base => ⟨_, _, PySem.W.mg_of X G a10, k10, F10.binds (ps := ["make"]) (fun _ _ _ _ _ _ us hl => match us, hl with | [_], _ => rfl), ok_make_fault F10 M (D_has_whole_rods base) (D_rods_of base) (D_broken_rule base)⟩
  have F11 := fun_mk (st := s_refused_for) l11 c11 k11
  have D_refused_for : ∀ base : Heap, Def P w K mg base "refused_for" 1 ["fault"] (spRefused) := fun base => ⟨_, _, PySem.W.mg_of X G a11, k11, F11.binds (ps := ["fault"]) (fun _ _ _ _ _ _ us hl => match us, hl with | [_], _ => rfl), ok_refused_for F11 M⟩
  have F12 := fun_mk (st := s_product_of_ratios) l12 c12 k12
  have D_product_of_ratios : ∀ base : Heap, Def P w K mg base "product_of_ratios" 2 ["make"] (spProd K) := fun base => ⟨_, _, PySem.W.mg_of X G a12, k12, F12.binds (ps := ["make"]) (fun _ _ _ _ _ _ us hl => match us, hl with | [_], _ => rfl), ok_product_of_ratios F12 M (D_rods_of base)⟩
  have F13 := fun_mk (st := s_span) l13 c13 k13
  exact ⟨PySem.W.fnOf "span" "span" (defArgs s_span) (defBody s_span) (defScope s_span) .none kV13 dc13 pm13 an13 cd13 ct13, fun s us hu => match us, hu with | [_], _ => .of_eq rfl, fun base _ _ => ok_span F13 M (D_make_fault base) (D_refused_for base) (D_product_of_ratios base)⟩
end Bf
open PySem PySem.W PyProof.Rows
set_option maxRecDepth 100000 in
set_option maxHeartbeats 0 in
theorem PySem.Challenge.cw_beadframes_s02_span_holds : PySem.Challenge.rw_beadframes_s02_span.Holds := by
  w_on; k_headS; (case hw => exact ⟨[.list []], by decide +kernel, by decide +kernel⟩)
  k_fillS
  refine L2.walk_specK (r := PySem.Challenge.rw_beadframes_s02_span) (k := 6) (CX := L2.CX0) (ps := ["make"]) (sp := fun K => Bf.spSpan K) (by decide +kernel) rfl rfl ⟨rfl, by decide, by decide⟩ (fun w h Y => PySem.W.kIn_of Y) ?F ?S (fun _ _ _ _ z => z)
  case F =>
    intro w mg fa h Y KX G hmg
    refine' Bf.all_mk KX G hmg ?a0 ?l0 ?c0 ?k0 ?a1 ?l1 ?c1 ?k1 ?a2 ?l2 ?c2 ?k2 ?a3 ?l3 ?c3 ?k3 ?a4 ?l4 ?c4 ?k4 ?a5 ?l5 ?c5 ?k5 ?a6 ?l6 ?c6 ?k6 ?a7 ?l7 ?c7 ?k7 ?a8 ?l8 ?c8 ?k8 ?a9 ?l9 ?c9 ?k9 ?a10 ?l10 ?c10 ?k10 ?a11 ?l11 ?c11 ?k11 ?a12 ?l12 ?c12 ?k12 ?a13 ?l13 ?c13 ?k13 ?g_LEAST_RATIO ?g_MOST_BEADS ?g_MOST_RATIO ?g_MOST_RODS ?g_MOST_WORTH ?g_MOST_WORTH_TOGETHER ?g_NUMBERS_A_ROD ?z_enumerate ?z_len ?z_range
    (case a0 => k_is)
    (case l0 => k_is)
    (case c0 => k_is)
    (case k0 => k_is)
    (case a1 => k_is)
    (case l1 => k_is)
    (case c1 => k_is)
    (case k1 => k_is)
    (case a2 => k_is)
    (case l2 => k_is)
    (case c2 => k_is)
    (case k2 => k_is)
    (case a3 => k_is)
    (case l3 => k_is)
    (case c3 => k_is)
    (case k3 => k_is)
    (case a4 => k_is)
    (case l4 => k_is)
    (case c4 => k_is)
    (case k4 => k_is)
    (case a5 => k_is)
    (case l5 => k_is)
    (case c5 => k_is)
    (case k5 => k_is)
    (case a6 => k_is)
    (case l6 => k_is)
    (case c6 => k_is)
    (case k6 => k_is)
    (case a7 => k_is)
    (case l7 => k_is)
    (case c7 => k_is)
    (case k7 => k_is)
    (case a8 => k_is)
    (case l8 => k_is)
    (case c8 => k_is)
    (case k8 => k_is)
    (case a9 => k_is)
    (case l9 => k_is)
    (case c9 => k_is)
    (case k9 => k_is)
    (case a10 => k_is)
    (case l10 => k_is)
    (case c10 => k_is)
    (case k10 => k_is)
    (case a11 => k_is)
    (case l11 => k_is)
    (case c11 => k_is)
    (case k11 => k_is)
    (case a12 => k_is)
    (case l12 => k_is)
    (case c12 => k_is)
    (case k12 => k_is)
    (case a13 => k_is)
    (case l13 => k_is)
    (case c13 => k_is)
    (case k13 => k_is)
    (case g_LEAST_RATIO => k_is)
    (case g_MOST_BEADS => k_is)
    (case g_MOST_RATIO => k_is)
    (case g_MOST_RODS => k_is)
    (case g_MOST_WORTH => k_is)
    (case g_MOST_WORTH_TOGETHER => k_is)
    (case g_NUMBERS_A_ROD => k_is)
    (case z_enumerate => k_is)
    (case z_len => k_is)
    (case z_range => k_is)
  case S =>
    intro K H xs a hO hwi hask hx
    cases hx with
    | cons h1 h2 =>
      cases h2
      cases h1 with
      | lst hs ha =>
        have e := L2.ints_dw a.1 _ ha
        subst e
        have q : ((Codec.inLen 0 700 a.1 && a.1.all (Codec.inInt 0 4294967295)) && true) = true := hwi
        rw [Bool.and_eq_true] at q
        obtain ⟨r1, r2, r3⟩ := Bf.req_at hs (Bf.req_list q.1)
        exact ⟨_, _, rfl, r1, r2, r3, fun p H2 hp e2 h2 => .lst (L2.SqL.of (show H2 p = some (.lst ((PyYqacaa.span a.1).map L2.V.int)) by rw [Bf.span_eq]; exact h2)) (L2.dw_ints _)⟩
#print axioms PySem.Challenge.cw_beadframes_s02_span_holds
