import PyProof.Rows.All
import Wide.All
import OpenK.AllK
import Wide.FinOn
import Open.SpecLaws
import KE.OsGo
import HandS.ForMost
import HandS.ForSpec
import HandS.WideBits
import HandS.Evl
import HandS.Zip
import PyProof.EqLayable
import HandS.ForDict
import PySem.Challenge.RW_beadframes_s05_show
set_option Elab.async false
set_option maxRecDepth 100000
set_option maxHeartbeats 4000000
namespace Bf
open Na

/-! ### one rod's seven numbers -/
def sound (b w : Nat) : Bool := if b = 0 ∨ w = 0 then b == w else decide (b ≤ 15) && decide (w ≤ 63)
def ix (g : List Nat) (j : Nat) : Nat := g.getD j 0
def decks (g : List Nat) : List (Nat × Nat) := [(ix g 1, ix g 2), (ix g 3, ix g 4), (ix g 5, ix g 6)]
def worthT (g : List Nat) : Nat := (decks g).foldl (fun t d => t + d.1 * d.2) 0
def inTurn (g : List Nat) : Bool := if ix g 1 = 0 then false else decide (0 < ix g 3) || decide (ix g 5 = 0)
def numsSound (g : List Nat) : Bool := if ix g 0 < 2 ∨ 20 < ix g 0 then false else if (decks g).all (fun d => sound d.1 d.2) then inTurn g else false
def more (w : Nat) : Nat → Nat → Nat
  | 0, c => c
  | k + 1, c => let x := more w k c
    x ||| (x <<< w)
def counts (g : List Nat) : Nat := (decks g).foldl (fun c d => more d.2 d.1 c) 1
def allPushed (g : List Nat) : Bool := (counts g &&& (2 ^ ix g 0 - 1)) == 2 ^ ix g 0 - 1
def broken (g : List Nat) : Nat := if numsSound g = false then 2 else if 255 < worthT g then 3 else if allPushed g = false then 4 else 0

/-! ### decks -/
def mk (d : Nat × Nat) : Deck := ⟨d.1, d.2⟩
theorem rodOf_decks (g : List Nat) : (rodOf g).decks = ((decks g).filter fun d => d.1 != 0).map mk := by
  unfold rodOf decks mk
  show List.map (fun j => (⟨ix g (1 + 2 * j), ix g (2 + 2 * j)⟩ : Deck)) (List.filter (fun j => ix g (1 + 2 * j) != 0) [0, 1, 2]) = _
  by_cases h1 : ix g 1 = 0 <;> by_cases h3 : ix g 3 = 0 <;> by_cases h5 : ix g 5 = 0 <;> simp [h1, h3, h5, List.filter_cons, List.filter_nil]
theorem rodOf_ratio (g : List Nat) : (rodOf g).ratio = ix g 0 := rfl

theorem total_cons (x : Nat) (l : List Nat) : total (x :: l) = x + total l := rfl
theorem most_eq (g : List Nat) : (rodOf g).most = worthT g := by
  unfold Rod.most
  rw [rodOf_decks]
  unfold worthT decks mk
  by_cases h1 : ix g 1 = 0 <;> by_cases h3 : ix g 3 = 0 <;> by_cases h5 : ix g 5 = 0 <;>
    simp [h1, h3, h5, List.filter_cons, List.filter_nil, total_cons, total] <;> omega

theorem beq_zero {a : Nat} (h : ¬a = 0) : (a == 0) = false := by simp [h]
theorem good_eq (g : List Nat) : rodGood g = numsSound g := by
  unfold rodGood Rod.formed_
  rw [rodOf_decks, rodOf_ratio]
  unfold numsSound inTurn sound decks mk Deck.good
  show (ix g 1 != 0 && ([0, 1, 2] : List Nat).all (fun j => (ix g (1 + 2 * j) == 0) == (ix g (2 + 2 * j) == 0)) && ((ix g 3 != 0 || ix g 5 == 0) && _)) = _
  simp only [List.all_cons, List.all_nil, Nat.mul_zero, Nat.add_zero, Nat.mul_one]
  generalize ix g 0 = r
  generalize ix g 1 = a
  generalize ix g 2 = b
  generalize ix g 3 = c
  generalize ix g 4 = d
  generalize ix g 5 = e
  generalize ix g 6 = f
  rw [Bool.eq_iff_iff]
  by_cases h1 : a = 0 <;> by_cases h2 : b = 0 <;> by_cases h3 : c = 0 <;> by_cases h4 : d = 0 <;> by_cases h5 : e = 0 <;> by_cases h6 : f = 0 <;>
    simp [h1, h2, h3, h4, h5, h6, List.filter_cons, List.filter_nil] <;> (try simp only [beq_zero h1, beq_zero h2, true_and, and_true]) <;> (try simp only [beq_zero h3, beq_zero h4, true_and, and_true]) <;> (try simp only [beq_zero h5, beq_zero h6, true_and, and_true]) <;> omega

/-! ### what can be pushed, as bits -/
theorem more_bit (w : Nat) : ∀ (k c n : Nat), (more w k c).testBit n = true ↔ ∃ j, j ≤ k ∧ j * w ≤ n ∧ c.testBit (n - j * w) = true
  | 0, c, n => by
    constructor
    · intro h
      exact ⟨0, Nat.le_refl _, by omega, by simpa [more] using h⟩
    · rintro ⟨j, hj, hn, h⟩
      obtain rfl : j = 0 := by omega
      simpa [more] using h
  | k + 1, c, n => by
    show ((more w k c) ||| (more w k c) <<< w).testBit n = true ↔ _
    rw [Nat.testBit_or, Nat.testBit_shiftLeft, Bool.or_eq_true, Bool.and_eq_true, decide_eq_true_iff, more_bit w k c n, more_bit w k c (n - w)]
    constructor
    · rintro (⟨j, hj, hn, h⟩ | ⟨hw, j, hj, hn, h⟩)
      · exact ⟨j, by omega, hn, h⟩
      · refine ⟨j + 1, by omega, ?_, ?_⟩
        · rw [Nat.succ_mul]; omega
        · rw [Nat.succ_mul, show n - (j * w + w) = n - w - j * w by omega]; exact h
    · rintro ⟨j, hj, hn, h⟩
      by_cases hk : j ≤ k
      · exact Or.inl ⟨j, hk, hn, h⟩
      · obtain rfl : j = k + 1 := by omega
        rw [Nat.succ_mul] at hn h
        exact Or.inr ⟨by omega, k, Nat.le_refl _, by omega, by rw [show n - w - k * w = n - (k * w + w) by omega]; exact h⟩

theorem worthOf_cons (d : Deck) (r : List Deck) (k : Nat) (p : Push) : worthOf (d :: r) (k :: p) = k * d.worth + worthOf r p := rfl
theorem mem_pushes_cons {d : Deck} {r : List Deck} {q : Push} : q ∈ pushes (d :: r) ↔ ∃ k p, k ≤ d.beads ∧ p ∈ pushes r ∧ q = k :: p := by
  show q ∈ (List.range (d.beads + 1)).flatMap _ ↔ _
  rw [List.mem_flatMap]
  constructor
  · rintro ⟨k, hk, h⟩
    obtain ⟨p, hp, e⟩ := List.mem_map.mp h
    exact ⟨k, p, by have := List.mem_range.mp hk; omega, hp, e.symm⟩
  · rintro ⟨k, p, hk, hp, e⟩
    exact ⟨k, List.mem_range.mpr (by omega), List.mem_map.mpr ⟨p, hp, e.symm⟩⟩
theorem fold_bit : ∀ (l : List (Nat × Nat)) (c n : Nat), ((l.foldl (fun c d => more d.2 d.1 c) c).testBit n = true ↔
    ∃ m p, c.testBit m = true ∧ p ∈ pushes (l.map mk) ∧ n = m + worthOf (l.map mk) p)
  | [], c, n => by
    constructor
    · intro h
      exact ⟨n, [], h, List.mem_singleton.mpr rfl, rfl⟩
    · rintro ⟨m, p, h, hp, e⟩
      obtain rfl := List.mem_singleton.mp hp
      obtain rfl : n = m := e
      exact h
  | d :: l, c, n => by
    rw [List.foldl_cons, fold_bit l]
    constructor
    · rintro ⟨m, p, h, hp, e⟩
      obtain ⟨j, hj, hm, hb⟩ := (more_bit _ _ _ _).mp h
      refine ⟨m - j * d.2, j :: p, hb, mem_pushes_cons.mpr ⟨j, p, hj, hp, rfl⟩, ?_⟩
      show n = m - j * d.2 + (j * d.2 + worthOf (l.map mk) p)
      omega
    · rintro ⟨m, q, h, hq, e⟩
      obtain ⟨k, p, hk, hp, rfl⟩ := mem_pushes_cons.mp hq
      have e' : n = m + (k * d.2 + worthOf (l.map mk) p) := e
      refine ⟨m + k * d.2, p, (more_bit _ _ _ _).mpr ⟨k, hk, by omega, by rw [Nat.add_sub_cancel]; exact h⟩, hp, by omega⟩
theorem fold_skip : ∀ (l : List (Nat × Nat)) (c : Nat), l.foldl (fun c d => more d.2 d.1 c) c = (l.filter fun d => d.1 != 0).foldl (fun c d => more d.2 d.1 c) c
  | [], _ => rfl
  | d :: l, c => by
    rw [List.foldl_cons, fold_skip l]
    by_cases h : d.1 = 0
    · rw [List.filter_cons, if_neg (by simp [h]), h]
      rfl
    · rw [List.filter_cons, if_pos (by simp [h]), List.foldl_cons]
theorem one_bit (m : Nat) : Nat.testBit 1 m = true ↔ m = 0 := by
  cases m with
  | zero => simp
  | succ m => simp [Nat.testBit_succ]
theorem counts_bit (g : List Nat) (n : Nat) : (counts g).testBit n = true ↔ ∃ p ∈ pushes (rodOf g).decks, worthOf (rodOf g).decks p = n := by
  unfold counts
  rw [fold_skip, fold_bit, rodOf_decks]
  constructor
  · rintro ⟨m, p, h, hp, e⟩
    obtain rfl := (one_bit m).mp h
    exact ⟨p, hp, by omega⟩
  · rintro ⟨p, hp, e⟩
    exact ⟨0, p, by decide, hp, by omega⟩
theorem mask_bits (c r : Nat) : ((c &&& (2 ^ r - 1)) == 2 ^ r - 1) = true ↔ ∀ d, d < r → c.testBit d = true := by
  rw [beq_iff_eq]
  constructor
  · intro h d hd
    have e := congrArg (fun x => Nat.testBit x d) h
    simp only [Nat.testBit_and, Nat.testBit_two_pow_sub_one, decide_eq_true hd, Bool.and_true] at e
    exact e
  · intro h
    apply Nat.eq_of_testBit_eq
    intro d
    rw [Nat.testBit_and, Nat.testBit_two_pow_sub_one]
    by_cases hd : d < r
    · rw [h d hd]; simp
    · simp [hd]
theorem whole_eq (g : List Nat) : (rodOf g).whole = allPushed g := by
  rw [Bool.eq_iff_iff]
  unfold allPushed
  rw [mask_bits]
  unfold Rod.whole
  rw [List.all_eq_true, rodOf_ratio]
  constructor
  · intro h d hd
    obtain ⟨p, hp, e⟩ := List.any_eq_true.mp (h d (List.mem_range.mpr hd))
    exact (counts_bit g d).mpr ⟨p, hp, beq_iff_eq.mp e⟩
  · intro h d hd
    obtain ⟨p, hp, e⟩ := (counts_bit g d).mp (h d (List.mem_range.mp hd))
    exact List.any_eq_true.mpr ⟨p, hp, beq_iff_eq.mpr e⟩
theorem wrong_eq (g : List Nat) : rodWrong g = broken g := by
  unfold rodWrong broken
  rw [good_eq, most_eq, whole_eq]
end Bf
namespace Bf
open Na
/-! ### the list as rods -/
theorem drop_nil_of {l : List Nat} {n : Nat} (h : l.length ≤ n) : l.drop n = [] := List.drop_eq_nil_of_le h
def cuts (l : List Nat) : List (List Nat) := (List.range (l.length / 7)).map fun i => (l.drop (7 * i)).take 7
theorem by_cuts : ∀ (n : Nat) (l : List Nat), l.length % 7 = 0 → l.length / 7 < n → by_ 7 n l = cuts l
  | 0, l, _, h => by omega
  | n + 1, l, h0, h => by
    show (if l = [] then [] else l.take 7 :: by_ 7 n (l.drop 7)) = cuts l
    by_cases e : l = []
    · rw [if_pos e, e]
      rfl
    · rw [if_neg e]
      have hl : 0 < l.length := List.length_pos_iff.mpr e
      have h7 : 7 ≤ l.length := by omega
      rw [by_cuts n (l.drop 7) (by rw [List.length_drop]; omega) (by rw [List.length_drop]; omega)]
      unfold cuts
      rw [List.length_drop, show l.length / 7 = (l.length - 7) / 7 + 1 by omega, List.range_succ_eq_map, List.map_cons, List.map_map]
      refine congrArg (List.cons (l.take 7)) (List.map_congr_left fun i _ => ?_)
      rw [List.drop_drop]
      show (l.drop (7 + 7 * i)).take 7 = (l.drop (7 * (i + 1))).take 7
      rw [show 7 * (i + 1) = 7 + 7 * i by omega]
theorem groups_cuts {l : List Nat} (h : l.length % 7 = 0) : groups 7 l = cuts l := by_cuts _ l h (by omega)
theorem cuts_len (l : List Nat) : (cuts l).length = l.length / 7 := by
  unfold cuts
  rw [List.length_map, List.length_range]
theorem cuts_at {l : List Nat} {i : Nat} (h : i < l.length / 7) : (cuts l)[i]? = some ((l.drop (7 * i)).take 7) := by
  unfold cuts
  rw [List.getElem?_map, List.getElem?_range h]
  rfl
theorem cuts_seven {l : List Nat} {g : List Nat} (h : g ∈ cuts l) : g.length = 7 := by
  obtain ⟨i, hi, rfl⟩ := List.mem_map.mp h
  rw [List.length_take, List.length_drop]
  have := List.mem_range.mp hi
  omega
theorem cuts_mem {l : List Nat} {g : List Nat} (h : g ∈ cuts l) : ∀ x ∈ g, x ∈ l := by
  obtain ⟨i, hi, rfl⟩ := List.mem_map.mp h
  exact fun x hx => List.mem_of_mem_drop (List.mem_of_mem_take hx)

/-! ### the make's fault -/
def mfault (l : List Nat) : List Nat := match makeOf l with
  | .error e => [e.rule, e.place]
  | .ok _ => []
def wholeRods (l : List Nat) : Bool := if l.length = 0 ∨ 448 < l.length then false else l.length % 7 == 0
theorem whole_facts {l : List Nat} (h : wholeRods l = true) : 0 < l.length ∧ l.length ≤ 448 ∧ l.length % 7 = 0 := by
  unfold wholeRods at h
  split at h
  · cases h
  · have := beq_iff_eq.mp h
    omega
theorem makeOf_bad {l : List Nat} (h : wholeRods l = false) : makeOf l = .error ⟨1, 0⟩ := by
  unfold makeOf
  refine if_pos ?_
  unfold wholeRods at h
  show l.length % 7 ≠ 0 ∨ l.length = 0 ∨ 448 < l.length
  split at h
  · omega
  · have : ¬ l.length % 7 = 0 := by simpa using h
    exact Or.inl this
theorem makeOf_whole {l : List Nat} (h : wholeRods l = true) : makeOf l = match (cuts l).findIdx? fun (g : List Nat) => broken g != 0 with
    | some i => .error ⟨broken ((cuts l).getD i []), i⟩
    | none => .ok ((cuts l).map rodOf) := by
  obtain ⟨h1, h2, h3⟩ := whole_facts h
  unfold makeOf
  rw [if_neg (show ¬ (l.length % 7 ≠ 0 ∨ l.length = 0 ∨ 7 * RODS < l.length) by
    show ¬ (l.length % 7 ≠ 0 ∨ l.length = 0 ∨ 448 < l.length)
    omega), groups_cuts h3, show rodWrong = broken from funext wrong_eq]
  cases (cuts l).findIdx? (fun (g : List Nat) => broken g != 0) <;> rfl
theorem mfault_bad {l : List Nat} (h : wholeRods l = false) : mfault l = [1, 0] := by
  unfold mfault
  rw [makeOf_bad h]
theorem makeOf_at {l : List Nat} (h : wholeRods l = true) {i : Nat} {g : List Nat} (hi : (cuts l)[i]? = some g) (hb : broken g ≠ 0) (ha : ∀ (j : Nat) (g' : List Nat), j < i → (cuts l)[j]? = some g' → broken g' = 0) : makeOf l = .error ⟨broken g, i⟩ := by
  rw [makeOf_whole h]
  have hlt : i < (cuts l).length := (List.getElem?_eq_some_iff.mp hi).1
  have e : (cuts l).findIdx? (fun (g : List Nat) => broken g != 0) = some i := by
    rw [List.findIdx?_eq_some_iff_getElem]
    refine ⟨hlt, ?_, ?_⟩
    · rw [(List.getElem?_eq_some_iff.mp hi).2]
      simpa using hb
    · intro j hj
      have := ha j _ hj (List.getElem?_eq_getElem (by omega))
      simp [this]
  rw [e]
  show Except.error (⟨broken ((cuts l).getD i []), i⟩ : Fault) = _
  rw [List.getD_eq_getElem?_getD, hi]
  rfl
theorem mfault_at {l : List Nat} (h : wholeRods l = true) {i : Nat} {g : List Nat} (hi : (cuts l)[i]? = some g) (hb : broken g ≠ 0) (ha : ∀ (j : Nat) (g' : List Nat), j < i → (cuts l)[j]? = some g' → broken g' = 0) : mfault l = [broken g, i] := by
  unfold mfault
  rw [makeOf_at h hi hb ha]
theorem makeOf_ok {l : List Nat} (h : wholeRods l = true) (ha : ∀ (j : Nat) (g : List Nat), (cuts l)[j]? = some g → broken g = 0) : makeOf l = .ok ((cuts l).map rodOf) := by
  rw [makeOf_whole h]
  have e : (cuts l).findIdx? (fun (g : List Nat) => broken g != 0) = none := by
    rw [List.findIdx?_eq_none_iff]
    intro g hg
    obtain ⟨j, hj⟩ := List.getElem?_of_mem hg
    simp [ha j g hj]
  rw [e]
theorem mfault_ok {l : List Nat} (h : wholeRods l = true) (ha : ∀ (j : Nat) (g : List Nat), (cuts l)[j]? = some g → broken g = 0) : mfault l = [] := by
  unfold mfault
  rw [makeOf_ok h ha]
/-- a make: no fault -/
theorem mfault_nil {l : List Nat} (h : mfault l = []) : wholeRods l = true ∧ makeOf l = .ok ((cuts l).map rodOf) ∧ ∀ g ∈ cuts l, broken g = 0 := by
  cases hw : wholeRods l with
  | false =>
    rw [mfault_bad hw] at h
    cases h
  | true =>
    have key : ∀ (j : Nat) (g : List Nat), (cuts l)[j]? = some g → broken g = 0 := by
      cases e : (cuts l).findIdx? (fun (g : List Nat) => broken g != 0) with
      | none =>
        rw [List.findIdx?_eq_none_iff] at e
        intro j g hj
        simpa using e g (List.mem_of_getElem? hj)
      | some i =>
        unfold mfault at h
        rw [makeOf_whole hw, e] at h
        cases h
    refine ⟨rfl, makeOf_ok hw key, fun g hg => ?_⟩
    obtain ⟨j, hj⟩ := List.getElem?_of_mem hg
    exact key j g hj
theorem makeOf_err {l : List Nat} (h : mfault l ≠ []) : ∃ e, makeOf l = .error e ∧ mfault l = [e.rule, e.place] := by
  unfold mfault at h ⊢
  cases e : makeOf l with
  | error f => exact ⟨f, rfl, rfl⟩
  | ok m =>
    rw [e] at h
    exact absurd rfl h
/-! ### judge -/
def judged (l : List Nat) : List Int := if mfault l = [] then [0] else -5 :: (mfault l).map (fun n : Nat => (n : Int))
theorem judge_eq (ns : List Int) : PyYqacaa.judge ns = judged (ns.map Int.toNat) := by
  show BdNeutral.told (Bd.ofMake (ns.map Int.toNat) fun _ => .nums []) = _
  unfold judged Bd.ofMake
  by_cases h : mfault (ns.map Int.toNat) = []
  · rw [if_pos h, (mfault_nil h).2.1]
    rfl
  · obtain ⟨e, h1, h2⟩ := makeOf_err h
    rw [if_neg h, h1, h2]
    rfl
/-! ### span -/
def prodR (gs : List (List Nat)) : Nat := gs.foldl (fun p g => p * ix g 0) 1
theorem prod_span : ∀ (gs : List (List Nat)) (p : Nat), gs.foldl (fun p g => p * ix g 0) p = p * Na.span (gs.map rodOf)
  | [], p => (Nat.mul_one p).symm
  | g :: gs, p => by
    rw [List.foldl_cons, prod_span gs]
    show p * ix g 0 * _ = p * (ix g 0 * Na.span (gs.map rodOf))
    rw [Nat.mul_assoc]
def spanned (l : List Nat) : List Int := if mfault l = [] then [0, (prodR (cuts l) : Int)] else -5 :: (mfault l).map (fun n : Nat => (n : Int))
theorem span_eq (ns : List Int) : PyYqacaa.span ns = spanned (ns.map Int.toNat) := by
  show BdNeutral.told (Bd.ofMake (ns.map Int.toNat) fun m => .nums [Na.span m]) = _
  unfold spanned Bd.ofMake
  by_cases h : mfault (ns.map Int.toNat) = []
  · rw [if_pos h, (mfault_nil h).2.1]
    unfold prodR
    rw [prod_span, Nat.one_mul]
    rfl
  · obtain ⟨e, h1, h2⟩ := makeOf_err h
    rw [if_neg h, h1, h2]
    rfl
end Bf
namespace Bf
open Na
/-! ### bounds and single turns -/
theorem sound_le {b w : Nat} (h : sound b w = true) : b ≤ 15 ∧ w ≤ 63 := by
  unfold sound at h
  split at h
  · rename_i c
    have e := beq_iff_eq.mp h
    omega
  · simp at h
    exact h
theorem nums_facts {g : List Nat} (h : numsSound g = true) : 2 ≤ ix g 0 ∧ ix g 0 ≤ 20 ∧ (∀ d ∈ decks g, sound d.1 d.2 = true) ∧ inTurn g = true := by
  unfold numsSound at h
  split at h
  · cases h
  · split at h
    · rename_i c a
      exact ⟨by omega, by omega, fun d hd => List.all_eq_true.mp a d hd, h⟩
    · cases h
theorem more_lt {w m : Nat} : ∀ (k c : Nat), c < 2 ^ m → more w k c < 2 ^ (m + w * k)
  | 0, c, h => h
  | k + 1, c, h => by
    have ih := more_lt (w := w) k c h
    show (more w k c) ||| (more w k c) <<< w < _
    rw [Nat.mul_succ, ← Nat.add_assoc]
    refine Nat.or_lt_two_pow ?_ ?_
    · exact Nat.lt_of_lt_of_le ih (Nat.pow_le_pow_right (by decide) (by omega))
    · rw [Nat.shiftLeft_eq, Nat.pow_add 2 (m + w * k) w]
      exact Nat.mul_lt_mul_of_pos_right ih (Nat.two_pow_pos w)
theorem more_lt' {w m k c : Nat} (h : c < 2 ^ m) (hk : k ≤ 15) (hw : w ≤ 63) : more w k c < 2 ^ (m + 945) :=
  Nat.lt_of_lt_of_le (more_lt k c h) (Nat.pow_le_pow_right (by decide) (by
    have := Nat.mul_le_mul hw hk
    omega))
theorem fold_lt : ∀ (l : List (Nat × Nat)) (c m : Nat), c < 2 ^ m → (∀ d ∈ l, sound d.1 d.2 = true) → l.foldl (fun c d => more d.2 d.1 c) c < 2 ^ (m + 945 * l.length)
  | [], c, m, h, _ => h
  | d :: l, c, m, h, hs => by
    have s := sound_le (hs d (List.mem_cons_self ..))
    have := fold_lt l (more d.2 d.1 c) (m + 945) (more_lt' h s.1 s.2) fun x hx => hs x (List.mem_cons_of_mem _ hx)
    rw [List.foldl_cons, List.length_cons]
    rw [show m + 945 * (l.length + 1) = m + 945 + 945 * l.length by omega]
    exact this
theorem worthT_le {g : List Nat} (h7 : g.length = 7) (h : ∀ x ∈ g, x < 4294967296) (j : Nat) : ix g j < 4294967296 := by
  unfold ix
  rw [List.getD_eq_getElem?_getD]
  cases e : g[j]? with
  | none => exact (by decide : 0 < 4294967296)
  | some x => exact h x (List.mem_of_getElem? e)
theorem decks_lt {g : List Nat} (h7 : g.length = 7) (h : ∀ x ∈ g, x < 4294967296) {d : Nat × Nat} (hd : d ∈ decks g) : d.1 < 4294967296 ∧ d.2 < 4294967296 := by
  have k := worthT_le h7 h
  unfold decks at hd
  simp only [List.mem_cons, List.not_mem_nil, or_false] at hd
  rcases hd with rfl | rfl | rfl
  · exact ⟨k 1, k 2⟩
  · exact ⟨k 3, k 4⟩
  · exact ⟨k 5, k 6⟩
theorem prod_lt : ∀ (gs : List (List Nat)) (p m : Nat), p < 2 ^ m → (∀ g ∈ gs, ix g 0 < 2 ^ 32) → gs.foldl (fun p g => p * ix g 0) p < 2 ^ (m + 32 * gs.length)
  | [], p, m, h, _ => h
  | g :: gs, p, m, h, hs => by
    have := prod_lt gs (p * ix g 0) (m + 32) (by
      rw [Nat.pow_add]
      have a := hs g (List.mem_cons_self ..)
      exact Nat.mul_lt_mul_of_lt_of_le h (Nat.le_of_lt a) (by decide)) fun x hx => hs x (List.mem_cons_of_mem _ hx)
    rw [List.foldl_cons, List.length_cons, show m + 32 * (gs.length + 1) = m + 32 + 32 * gs.length by omega]
    exact this
theorem mem_take {α : Type} {l : List α} {i : Nat} {x : α} (h : x ∈ l.take i) : x ∈ l := List.mem_of_mem_take h
theorem nums_false {g : List Nat} {d : Nat × Nat} (hd : d ∈ decks g) (h : sound d.1 d.2 = false) : numsSound g = false := by
  cases e : numsSound g with
  | false => rfl
  | true =>
    have := (nums_facts e).2.2.1 d hd
    rw [h] at this
    cases this
theorem nums_ratio {g : List Nat} (h : (decide (ix g 0 < 2) || decide (20 < ix g 0)) = true) : numsSound g = false := by
  unfold numsSound
  rw [if_pos (by simpa using h)]
theorem nums_else {g : List Nat} (h : (decide (ix g 0 < 2) || decide (20 < ix g 0)) = false) (ha : ∀ d ∈ decks g, sound d.1 d.2 = true) : numsSound g = inTurn g := by
  unfold numsSound
  rw [if_neg (by simpa using h), if_pos (List.all_eq_true.mpr ha)]
end Bf
namespace Bf
open Na

/-! ### sums -/
def sumBy {α : Type} (f : α → Nat) : List α → Nat
  | [] => 0
  | x :: l => f x + sumBy f l
theorem total_map {α : Type} (f : α → Nat) : ∀ l : List α, total (l.map f) = sumBy f l
  | [] => rfl
  | x :: l => congrArg (f x + ·) (total_map f l)
theorem sumBy_append {α : Type} (f : α → Nat) : ∀ l m : List α, sumBy f (l ++ m) = sumBy f l + sumBy f m
  | [], m => (Nat.zero_add _).symm
  | x :: l, m => by
    show f x + sumBy f (l ++ m) = f x + sumBy f l + sumBy f m
    rw [sumBy_append f l m, Nat.add_assoc]
theorem sumBy_congr {α : Type} {f g : α → Nat} : ∀ {l : List α}, (∀ x ∈ l, f x = g x) → sumBy f l = sumBy g l
  | [], _ => rfl
  | x :: l, h => by
    show f x + sumBy f l = g x + sumBy g l
    rw [h x (List.mem_cons_self ..), sumBy_congr fun y hy => h y (List.mem_cons_of_mem _ hy)]
theorem sumBy_zero {α : Type} {f : α → Nat} {l : List α} (h : ∀ x ∈ l, f x = 0) : sumBy f l = 0 := by
  induction l with
  | nil => rfl
  | cons x l ih =>
    show f x + sumBy f l = 0
    rw [h x (List.mem_cons_self ..), ih fun y hy => h y (List.mem_cons_of_mem _ hy)]
theorem sumBy_add {α : Type} (f g : α → Nat) : ∀ l : List α, sumBy (fun x => f x + g x) l = sumBy f l + sumBy g l
  | [] => rfl
  | x :: l => by
    show f x + g x + sumBy (fun x => f x + g x) l = f x + sumBy f l + (g x + sumBy g l)
    rw [sumBy_add f g l]
    omega
theorem sumBy_mul {α : Type} (f : α → Nat) (c : Nat) : ∀ l : List α, sumBy (fun x => c * f x) l = c * sumBy f l
  | [] => rfl
  | x :: l => by
    show c * f x + sumBy (fun x => c * f x) l = c * (f x + sumBy f l)
    rw [sumBy_mul f c l, Nat.mul_add]
theorem sumBy_filter {α : Type} (f : α → Nat) (p : α → Bool) : ∀ l : List α, sumBy f (l.filter p) = sumBy (fun x => if p x = true then f x else 0) l
  | [] => rfl
  | x :: l => by
    rw [List.filter_cons]
    show _ = (if p x = true then f x else 0) + sumBy (fun x => if p x = true then f x else 0) l
    split
    · show f x + sumBy f (l.filter p) = _
      rw [sumBy_filter f p l]
    · rw [sumBy_filter f p l, Nat.zero_add]
theorem sumBy_const {α : Type} (c : Nat) : ∀ l : List α, sumBy (fun _ => c) l = l.length * c
  | [] => (Nat.zero_mul c).symm
  | x :: l => by
    show c + sumBy (fun _ => c) l = (l.length + 1) * c
    rw [sumBy_const c l, Nat.succ_mul, Nat.add_comm]
theorem sumBy_map {α β : Type} (f : β → Nat) (g : α → β) : ∀ l : List α, sumBy f (l.map g) = sumBy (fun x => f (g x)) l
  | [] => rfl
  | x :: l => congrArg (f (g x) + ·) (sumBy_map f g l)
theorem sumBy_flat {α β : Type} (f : β → Nat) (g : α → List β) : ∀ l : List α, sumBy f (l.flatMap g) = sumBy (fun x => sumBy f (g x)) l
  | [] => rfl
  | x :: l => by
    rw [List.flatMap_cons, sumBy_append, sumBy_flat f g l]
    rfl
/-- sums may be taken in either order -/
theorem sumBy_comm {α β : Type} (f : α → β → Nat) (l : List α) (m : List β) : sumBy (fun x => sumBy (f x) m) l = sumBy (fun y => sumBy (fun x => f x y) l) m := by
  induction l with
  | nil =>
    show 0 = sumBy (fun _ => 0) m
    rw [sumBy_const, Nat.mul_zero]
  | cons x l ih =>
    show sumBy (f x) m + sumBy (fun x => sumBy (f x) m) l = sumBy (fun y => f x y + sumBy (fun x => f x y) l) m
    rw [ih, sumBy_add]
/-- just one of 0 .. n - 1 is w -/
theorem sumBy_one {n w : Nat} (f : Nat → Nat) (h : w < n) : sumBy (fun k => if k = w then f k else 0) (List.range n) = f w := by
  induction n with
  | zero => omega
  | succ n ih =>
    rw [List.range_succ, sumBy_append]
    show _ + ((if n = w then f n else 0) + 0) = _
    by_cases e : n = w
    · rw [if_pos e, e, sumBy_zero fun k hk => if_neg (by have := List.mem_range.mp hk; omega), Nat.zero_add, Nat.add_zero]
    · rw [if_neg e, ih (by omega), Nat.add_zero]

/-! ### pushes -/
theorem worth_most : ∀ (l : List Deck) (p : Push), p ∈ pushes l → worthOf l p ≤ total (l.map fun d => d.beads * d.worth)
  | [], p, h => Nat.zero_le _
  | d :: r, q, h => by
    obtain ⟨k, p, hk, hp, rfl⟩ := mem_pushes_cons.mp h
    show k * d.worth + worthOf r p ≤ d.beads * d.worth + total (r.map _)
    exact Nat.add_le_add (Nat.mul_le_mul_right _ hk) (worth_most r p hp)
theorem push_len : ∀ (l : List Deck) (p : Push), p ∈ pushes l → p.length = l.length
  | [], p, h => by
    obtain rfl := List.mem_singleton.mp h
    rfl
  | d :: r, q, h => by
    obtain ⟨k, p, hk, hp, rfl⟩ := mem_pushes_cons.mp h
    exact congrArg (· + 1) (push_len r p hp)

/-! ### a rod's tally -/
theorem tally_sum (r : Rod) (g : Nat → Nat) : sumBy (fun (y : Nat × (Nat × Nat)) => y.2.1 * g y.1) (tally r) = sumBy (fun p => g (worthOf r.decks p)) (pushes r.decks) := by
  have hm : ∀ p ∈ pushes r.decks, worthOf r.decks p < r.most + 1 := fun p hp => Nat.lt_succ_of_le (worth_most _ _ hp)
  have step : ∀ ws : List Nat, sumBy (fun (y : Nat × (Nat × Nat)) => y.2.1 * g y.1) (ws.filterMap fun (w : Nat) => match (pushes r.decks).filter fun (p : Push) => worthOf r.decks p == w with
      | [] => none
      | p :: l => some (w, (l.length + 1, l.foldl (fun (b : Nat) (q : Push) => min b (total q)) (total p)))) = sumBy (fun w => sumBy (fun p => if worthOf r.decks p = w then g w else 0) (pushes r.decks)) ws := by
    intro ws
    induction ws with
    | nil => rfl
    | cons w ws ih =>
      have hc : sumBy (fun p => if worthOf r.decks p = w then g w else 0) (pushes r.decks) = ((pushes r.decks).filter fun (p : Push) => worthOf r.decks p == w).length * g w := by
        rw [← sumBy_const, sumBy_filter]
        exact sumBy_congr fun p _ => by simp
      rw [List.filterMap_cons]
      cases e : (pushes r.decks).filter fun (p : Push) => worthOf r.decks p == w with
      | nil =>
        rw [e] at hc
        show sumBy _ (ws.filterMap _) = sumBy (fun p => if worthOf r.decks p = w then g w else 0) (pushes r.decks) + _
        rw [ih, hc]
        simp
      | cons p l =>
        rw [e] at hc
        show (l.length + 1) * g w + sumBy _ (ws.filterMap _) = sumBy (fun p => if worthOf r.decks p = w then g w else 0) (pushes r.decks) + _
        rw [ih, hc]
        rfl
  refine (step (List.range (r.most + 1))).trans ?_
  rw [sumBy_comm]
  refine sumBy_congr fun p hp => ?_
  rw [show (fun (w : Nat) => if worthOf r.decks p = w then g w else 0) = (fun w => if w = worthOf r.decks p then g w else 0) from funext fun w => by
    by_cases e : w = worthOf r.decks p
    · rw [if_pos e, if_pos e.symm]
    · rw [if_neg e, if_neg fun h => e h.symm]]
  exact sumBy_one g (hm p hp)

/-! ### numbers with their ways -/
/-- each entry's ways, times f of its number -/
def wt (f : Nat → Nat) (l : List (Nat × Nat)) : Nat := sumBy (fun (x : Nat × Nat) => x.2 * f x.1) l
theorem wt_put (f : Nat → Nat) (u c : Nat) : ∀ l : List (Nat × Nat), wt f (putWith (fun a b => a + b) u c l) = wt f l + c * f u
  | [] => by
    show c * f u + 0 = 0 + c * f u
    omega
  | x :: l => by
    show wt f (if x.1 = u then (u, x.2 + c) :: l else x :: putWith (fun a b => a + b) u c l) = _
    split
    · rename_i e
      show (x.2 + c) * f u + wt f l = x.2 * f x.1 + wt f l + c * f u
      rw [e, Nat.add_mul]
      omega
    · show x.2 * f x.1 + wt f (putWith (fun a b => a + b) u c l) = x.2 * f x.1 + wt f l + c * f u
      rw [wt_put f u c l]
      omega
/-- what f is of what's left above a rod that shows w; 0 where nothing can be left -/
def above (r : Rod) (f : Nat → Nat) (u w : Nat) : Nat := match leftOver r u w with
  | some v => f v
  | none => 0
theorem wt_up1 (r : Rod) (f : Nat → Nat) (x : Nat × Nat) : ∀ (t : List (Nat × (Nat × Nat))) (z : List (Nat × Nat)), wt f (t.foldl (fun (z : List (Nat × Nat)) (y : Nat × (Nat × Nat)) => match leftOver r x.1 y.1 with
    | some u => putWith (fun (a b : Nat) => a + b) u (x.2 * y.2.1) z
    | none => z) z) = wt f z + x.2 * sumBy (fun (y : Nat × (Nat × Nat)) => y.2.1 * above r f x.1 y.1) t
  | [], z => by
    show wt f z = wt f z + x.2 * 0
    omega
  | y :: t, z => by
    rw [List.foldl_cons, wt_up1 r f x t]
    show _ = wt f z + x.2 * (y.2.1 * above r f x.1 y.1 + sumBy _ t)
    unfold above
    cases leftOver r x.1 y.1 with
    | none =>
      show wt f z + _ = wt f z + x.2 * (y.2.1 * 0 + _)
      rw [Nat.mul_zero, Nat.zero_add]
    | some u =>
      show wt f (putWith (fun (a b : Nat) => a + b) u (x.2 * y.2.1) z) + _ = wt f z + x.2 * (y.2.1 * f u + _)
      rw [wt_put, Nat.mul_add, Nat.mul_assoc]
      omega
/-- f behind a rod more -/
def upF (r : Rod) (f : Nat → Nat) (u : Nat) : Nat := sumBy (fun p => above r f u (worthOf r.decks p)) (pushes r.decks)
theorem wt_oneUp (r : Rod) (f : Nat → Nat) (l : List (Nat × Nat)) : wt f (oneUp r l) = wt (upF r f) l := by
  have key : ∀ (l z : List (Nat × Nat)), wt f (l.foldl (fun (z : List (Nat × Nat)) (x : Nat × Nat) => (tally r).foldl (fun (z : List (Nat × Nat)) (y : Nat × (Nat × Nat)) => match leftOver r x.1 y.1 with
      | some u => putWith (fun (a b : Nat) => a + b) u (x.2 * y.2.1) z
      | none => z) z) z) = wt f z + wt (upF r f) l := by
    intro l
    induction l with
    | nil => intro z; rfl
    | cons x l ih =>
      intro z
      rw [List.foldl_cons, ih, wt_up1, tally_sum r (fun w => above r f x.1 w)]
      show _ = wt f z + (x.2 * upF r f x.1 + wt (upF r f) l)
      unfold upF
      omega
  have := key l []
  rw [show wt f [] = 0 from rfl, Nat.zero_add] at this
  exact this
/-- **in how many ways**, rod by rod -/
def cntF (f : Nat → Nat) : Make → Nat → Nat
  | [], u => f u
  | r :: m, u => upF r (cntF f m) u
theorem wt_fold (f : Nat → Nat) : ∀ (m : Make) (l : List (Nat × Nat)), wt f (m.foldl (fun (l : List (Nat × Nat)) (r : Rod) => oneUp r l) l) = wt (cntF f m) l
  | [], l => rfl
  | r :: m, l => by
    rw [List.foldl_cons, wt_fold f m, wt_oneUp]
    rfl
/-! each number stands once -/
theorem put_keys (f : Nat → Nat → Nat) (u c : Nat) : ∀ l : List (Nat × Nat), (putWith f u c l).map (·.1) = if u ∈ l.map (·.1) then l.map (·.1) else l.map (·.1) ++ [u]
  | [] => rfl
  | x :: l => by
    have ih := put_keys f u c l
    show ((if x.1 = u then (u, f x.2 c) :: l else x :: putWith f u c l)).map (·.1) = _
    by_cases e : x.1 = u
    · rw [if_pos e, if_pos (by simp [e])]
      show u :: l.map (·.1) = x.1 :: l.map (·.1)
      rw [e]
    · rw [if_neg e]
      show x.1 :: (putWith f u c l).map (·.1) = _
      rw [ih]
      by_cases h : u ∈ l.map (·.1)
      · rw [if_pos h, List.map_cons, if_pos (List.mem_cons_of_mem _ h)]
      · rw [if_neg h, List.map_cons, if_neg (by simp only [List.map_cons, List.mem_cons, not_or]; exact ⟨fun h => e h.symm, h⟩)]
        rfl
theorem put_nodup (f : Nat → Nat → Nat) (u c : Nat) (l : List (Nat × Nat)) (h : (l.map (·.1)).Nodup) : ((putWith f u c l).map (·.1)).Nodup := by
  rw [put_keys]
  split
  · exact h
  · rename_i hu
    rw [List.nodup_append]
    exact ⟨h, by simp, fun a ha b hb e => by
      have : b = u := by simpa using hb
      exact hu (this ▸ e ▸ ha)⟩
theorem fold_keep {α β : Type} {P : β → Prop} {g : β → α → β} (hg : ∀ b a, P b → P (g b a)) : ∀ (l : List α) (b : β), P b → P (l.foldl g b)
  | [], _, h => h
  | a :: l, b, h => fold_keep hg l (g b a) (hg b a h)
theorem oneUp_nodup (r : Rod) (l : List (Nat × Nat)) : ((oneUp r l).map (·.1)).Nodup := by
  unfold oneUp
  refine fold_keep (P := fun (z : List (Nat × Nat)) => (z.map (·.1)).Nodup) (fun z x hz => ?_) l [] List.nodup_nil
  refine fold_keep (P := fun (z : List (Nat × Nat)) => (z.map (·.1)).Nodup) (fun z y hz => ?_) _ z hz
  split
  · exact put_nodup _ _ _ _ hz
  · exact hz
theorem oneUpLeast_nodup (r : Rod) (l : List (Nat × Nat)) : ((oneUpLeast r l).map (·.1)).Nodup := by
  unfold oneUpLeast
  refine fold_keep (P := fun (z : List (Nat × Nat)) => (z.map (·.1)).Nodup) (fun z x hz => ?_) l [] List.nodup_nil
  refine fold_keep (P := fun (z : List (Nat × Nat)) => (z.map (·.1)).Nodup) (fun z y hz => ?_) _ z hz
  split
  · exact put_nodup _ _ _ _ hz
  · exact hz
def isZero (u : Nat) : Nat := if u = 0 then 1 else 0
theorem nothing_wt : ∀ (l : List (Nat × Nat)), (l.map (·.1)).Nodup → (nothingLeft l).getD 0 = wt isZero l
  | [], _ => rfl
  | x :: l, h => by
    obtain ⟨h1, h2⟩ := List.nodup_cons.mp h
    unfold nothingLeft
    rw [List.find?_cons]
    by_cases e : x.1 = 0
    · have : (x.1 == 0) = true := by simp [e]
      rw [this]
      show x.2 = x.2 * isZero x.1 + wt isZero l
      have z : wt isZero l = 0 := sumBy_zero fun y hy => by
        have : y.1 ≠ 0 := fun h0 => h1 (List.mem_map.mpr ⟨y, hy, h0.trans e.symm⟩)
        unfold isZero
        rw [if_neg this, Nat.mul_zero]
      rw [z]
      unfold isZero
      rw [if_pos e]
      omega
    · have : (x.1 == 0) = false := by simp [e]
      rw [this]
      show (nothingLeft l).getD 0 = x.2 * isZero x.1 + wt isZero l
      rw [nothing_wt l h2]
      unfold isZero
      rw [if_neg e]
      omega
/-- **the specification's ways are the ways counted rod by rod** -/
theorem ways_cnt (m : Make) (v : Nat) : ways m v = cntF isZero m v := by
  unfold ways
  have nd : ∀ (m : Make) (l : List (Nat × Nat)), (l.map (·.1)).Nodup → ((m.foldl (fun (l : List (Nat × Nat)) (r : Rod) => oneUp r l) l).map (·.1)).Nodup := fun m l h => fold_keep (P := fun (z : List (Nat × Nat)) => (z.map (·.1)).Nodup) (fun z r _ => oneUp_nodup r z) m l h
  rw [nothing_wt _ (nd m _ (by simp)), wt_fold]
  show 1 * cntF isZero m v + 0 = _
  omega
end Bf
namespace Bf
open Na
/-! ### the least of some, where there's any -/
def mn : Option Nat → Option Nat → Option Nat
  | none, b => b
  | some a, none => some a
  | some a, some b => some (min a b)
theorem mn_none (a : Option Nat) : mn a none = a := by cases a <;> rfl
theorem mn_comm (a b : Option Nat) : mn a b = mn b a := by
  cases a <;> cases b <;> first | rfl | exact congrArg some (Nat.min_comm _ _)
theorem mn_assoc (a b c : Option Nat) : mn (mn a b) c = mn a (mn b c) := by
  cases a <;> cases b <;> cases c <;> first | rfl | exact congrArg some (Nat.min_assoc _ _ _)
def plusO (c : Nat) (a : Option Nat) : Option Nat := a.map (c + ·)
theorem plus_mn (c : Nat) (a b : Option Nat) : plusO c (mn a b) = mn (plusO c a) (plusO c b) := by
  cases a <;> cases b <;> first | rfl | exact congrArg some (by show c + min _ _ = min (c + _) (c + _); omega)
theorem plus_plus (c d : Nat) (a : Option Nat) : plusO c (plusO d a) = plusO (c + d) a := by
  cases a with
  | none => rfl
  | some a => exact congrArg some (Nat.add_assoc c d a).symm
theorem plus_min (c d : Nat) (a : Option Nat) : plusO (min c d) a = mn (plusO c a) (plusO d a) := by
  cases a with
  | none => rfl
  | some a => exact congrArg some (by show min c d + a = min (c + a) (d + a); omega)
def minBy {α : Type} (f : α → Option Nat) : List α → Option Nat
  | [] => none
  | x :: l => mn (f x) (minBy f l)
theorem minBy_append {α : Type} (f : α → Option Nat) : ∀ l m : List α, minBy f (l ++ m) = mn (minBy f l) (minBy f m)
  | [], m => rfl
  | x :: l, m => by
    show mn (f x) (minBy f (l ++ m)) = mn (mn (f x) (minBy f l)) (minBy f m)
    rw [minBy_append f l m, mn_assoc]
theorem minBy_congr {α : Type} {f g : α → Option Nat} : ∀ {l : List α}, (∀ x ∈ l, f x = g x) → minBy f l = minBy g l
  | [], _ => rfl
  | x :: l, h => by
    show mn (f x) (minBy f l) = mn (g x) (minBy g l)
    rw [h x (List.mem_cons_self ..), minBy_congr fun y hy => h y (List.mem_cons_of_mem _ hy)]
theorem minBy_none {α : Type} {f : α → Option Nat} {l : List α} (h : ∀ x ∈ l, f x = none) : minBy f l = none := by
  induction l with
  | nil => rfl
  | cons x l ih =>
    show mn (f x) (minBy f l) = none
    rw [h x (List.mem_cons_self ..), ih fun y hy => h y (List.mem_cons_of_mem _ hy)]
    rfl
theorem minBy_mn {α : Type} (f g : α → Option Nat) : ∀ l : List α, minBy (fun x => mn (f x) (g x)) l = mn (minBy f l) (minBy g l)
  | [] => rfl
  | x :: l => by
    show mn (mn (f x) (g x)) (minBy (fun x => mn (f x) (g x)) l) = mn (mn (f x) (minBy f l)) (mn (g x) (minBy g l))
    rw [minBy_mn f g l, mn_assoc, mn_assoc, ← mn_assoc (g x), mn_comm (g x) (minBy f l), mn_assoc]
theorem minBy_plus {α : Type} (f : α → Option Nat) (c : Nat) : ∀ l : List α, minBy (fun x => plusO c (f x)) l = plusO c (minBy f l)
  | [] => rfl
  | x :: l => by
    show mn (plusO c (f x)) (minBy (fun x => plusO c (f x)) l) = plusO c (mn (f x) (minBy f l))
    rw [minBy_plus f c l, plus_mn]
theorem minBy_comm {α β : Type} (f : α → β → Option Nat) (l : List α) (m : List β) : minBy (fun x => minBy (f x) m) l = minBy (fun y => minBy (fun x => f x y) l) m := by
  induction l with
  | nil => exact (minBy_none fun _ _ => rfl).symm
  | cons x l ih =>
    show mn (minBy (f x) m) (minBy (fun x => minBy (f x) m) l) = minBy (fun y => mn (f x y) (minBy (fun x => f x y) l)) m
    rw [ih, minBy_mn]
theorem minBy_filter {α : Type} (f : α → Option Nat) (p : α → Bool) : ∀ l : List α, minBy f (l.filter p) = minBy (fun x => if p x = true then f x else none) l
  | [] => rfl
  | x :: l => by
    rw [List.filter_cons]
    show _ = mn (if p x = true then f x else none) (minBy (fun x => if p x = true then f x else none) l)
    split
    · show mn (f x) (minBy f (l.filter p)) = _
      rw [minBy_filter f p l]
    · rw [minBy_filter f p l]
      rfl
theorem minBy_one {n w : Nat} (f : Nat → Option Nat) (h : w < n) : minBy (fun k => if k = w then f k else none) (List.range n) = f w := by
  induction n with
  | zero => omega
  | succ n ih =>
    rw [List.range_succ, minBy_append]
    show mn _ (mn (if n = w then f n else none) none) = _
    rw [mn_none]
    by_cases e : n = w
    · rw [if_pos e, e, minBy_none fun k hk => if_neg (by have := List.mem_range.mp hk; omega)]
      rfl
    · rw [if_neg e, mn_none, ih (by omega)]
/-- how the least stands to the members -/
theorem minBy_mem {α : Type} {f : α → Option Nat} {b : Nat} : ∀ {l : List α}, minBy f l = some b → ∃ x ∈ l, f x = some b
  | [], h => by cases h
  | x :: l, h => by
    have h' : mn (f x) (minBy f l) = some b := h
    cases e : f x with
    | none =>
      rw [e] at h'
      obtain ⟨y, hy, k⟩ := minBy_mem (l := l) h'
      exact ⟨y, List.mem_cons_of_mem _ hy, k⟩
    | some a =>
      cases e2 : minBy f l with
      | none =>
        rw [e, e2] at h'
        obtain rfl := Option.some.inj h'
        exact ⟨x, List.mem_cons_self .., e⟩
      | some c =>
        rw [e, e2] at h'
        have h2 : min a c = b := Option.some.inj h'
        by_cases hac : a ≤ c
        · exact ⟨x, List.mem_cons_self .., by rw [e]; exact congrArg some (by omega)⟩
        · obtain ⟨y, hy, k⟩ := minBy_mem (l := l) e2
          exact ⟨y, List.mem_cons_of_mem _ hy, by rw [k]; exact congrArg some (by omega)⟩
theorem minBy_le {α : Type} {f : α → Option Nat} {a : Nat} : ∀ {l : List α} {x : α}, x ∈ l → f x = some a → ∃ b, minBy f l = some b ∧ b ≤ a
  | y :: l, x, hx, h => by
    show ∃ b, mn (f y) (minBy f l) = some b ∧ b ≤ a
    rcases List.mem_cons.mp hx with e | e
    · subst e
      rw [h]
      cases minBy f l with
      | none => exact ⟨a, rfl, Nat.le_refl _⟩
      | some c => exact ⟨min a c, rfl, Nat.min_le_left _ _⟩
    · obtain ⟨b, hb, hle⟩ := minBy_le e h
      rw [hb]
      cases f y with
      | none => exact ⟨b, rfl, hle⟩
      | some c => exact ⟨min c b, rfl, Nat.le_trans (Nat.min_le_right _ _) hle⟩
theorem fold_min (g : Push → Nat) : ∀ (l : List Push) (b : Nat), some (l.foldl (fun (b : Nat) (q : Push) => min b (g q)) b) = mn (some b) (minBy (fun p => some (g p)) l)
  | [], b => rfl
  | p :: l, b => by
    rw [List.foldl_cons, fold_min g l]
    show mn (some (min b (g p))) _ = mn (some b) (mn (some (g p)) _)
    rw [← mn_assoc]
    rfl
theorem tally_min (r : Rod) (g : Nat → Option Nat) : minBy (fun (y : Nat × (Nat × Nat)) => plusO y.2.2 (g y.1)) (tally r) = minBy (fun p => plusO (total p) (g (worthOf r.decks p))) (pushes r.decks) := by
  have hm : ∀ p ∈ pushes r.decks, worthOf r.decks p < r.most + 1 := fun p hp => Nat.lt_succ_of_le (worth_most _ _ hp)
  have step : ∀ ws : List Nat, minBy (fun (y : Nat × (Nat × Nat)) => plusO y.2.2 (g y.1)) (ws.filterMap fun (w : Nat) => match (pushes r.decks).filter fun (p : Push) => worthOf r.decks p == w with
      | [] => none
      | p :: l => some (w, (l.length + 1, l.foldl (fun (b : Nat) (q : Push) => min b (total q)) (total p)))) = minBy (fun w => minBy (fun p => if worthOf r.decks p = w then plusO (total p) (g w) else none) (pushes r.decks)) ws := by
    intro ws
    induction ws with
    | nil => rfl
    | cons w ws ih =>
      have hc : minBy (fun p => if worthOf r.decks p = w then plusO (total p) (g w) else none) (pushes r.decks) = minBy (fun p => plusO (total p) (g w)) ((pushes r.decks).filter fun (p : Push) => worthOf r.decks p == w) := by
        rw [minBy_filter]
        exact minBy_congr fun p _ => by simp
      rw [List.filterMap_cons]
      cases e : (pushes r.decks).filter fun (p : Push) => worthOf r.decks p == w with
      | nil =>
        rw [e] at hc
        show minBy _ (ws.filterMap _) = mn (minBy (fun p => if worthOf r.decks p = w then plusO (total p) (g w) else none) (pushes r.decks)) _
        rw [ih, hc]
        rfl
      | cons p l =>
        rw [e] at hc
        show mn (plusO (l.foldl (fun (b : Nat) (q : Push) => min b (total q)) (total p)) (g w)) (minBy _ (ws.filterMap _)) = mn (minBy (fun p => if worthOf r.decks p = w then plusO (total p) (g w) else none) (pushes r.decks)) _
        rw [ih, hc]
        refine congrArg (mn · _) ?_
        have fm : ∀ (l : List Push) (b : Nat), plusO (l.foldl (fun (b : Nat) (q : Push) => min b (total q)) b) (g w) = mn (plusO b (g w)) (minBy (fun p => plusO (total p) (g w)) l) := by
          intro l
          induction l with
          | nil => intro b; exact (mn_none _).symm
          | cons q l ih2 =>
            intro b
            rw [List.foldl_cons, ih2, plus_min, mn_assoc]
            rfl
        rw [fm]
        rfl
  refine (step (List.range (r.most + 1))).trans ?_
  rw [minBy_comm]
  refine minBy_congr fun p hp => ?_
  rw [show (fun (w : Nat) => if worthOf r.decks p = w then plusO (total p) (g w) else none) = (fun w => if w = worthOf r.decks p then plusO (total p) (g w) else none) from funext fun w => by
    by_cases e : w = worthOf r.decks p
    · rw [if_pos e, if_pos e.symm]
    · rw [if_neg e, if_neg fun h => e h.symm]]
  exact minBy_one (fun w => plusO (total p) (g w)) (hm p hp)

/-! ### numbers with the fewest beads so far -/
def lt_ (f : Nat → Option Nat) (l : List (Nat × Nat)) : Option Nat := minBy (fun (x : Nat × Nat) => plusO x.2 (f x.1)) l
theorem lt_put (f : Nat → Option Nat) (u c : Nat) : ∀ l : List (Nat × Nat), lt_ f (putWith min u c l) = mn (lt_ f l) (plusO c (f u))
  | [] => mn_none _
  | x :: l => by
    show lt_ f (if x.1 = u then (u, min x.2 c) :: l else x :: putWith min u c l) = _
    split
    · rename_i e
      show mn (plusO (min x.2 c) (f u)) (lt_ f l) = mn (mn (plusO x.2 (f x.1)) (lt_ f l)) (plusO c (f u))
      rw [e, plus_min, mn_assoc, mn_comm (plusO c (f u)), ← mn_assoc]
    · show mn (plusO x.2 (f x.1)) (lt_ f (putWith min u c l)) = mn (mn (plusO x.2 (f x.1)) (lt_ f l)) (plusO c (f u))
      rw [lt_put f u c l, mn_assoc]
def aboveL (r : Rod) (f : Nat → Option Nat) (u w : Nat) : Option Nat := match leftOver r u w with
  | some v => f v
  | none => none
theorem lt_up1 (r : Rod) (f : Nat → Option Nat) (x : Nat × Nat) : ∀ (t : List (Nat × (Nat × Nat))) (z : List (Nat × Nat)), lt_ f (t.foldl (fun (z : List (Nat × Nat)) (y : Nat × (Nat × Nat)) => match leftOver r x.1 y.1 with
    | some u => putWith min u (x.2 + y.2.2) z
    | none => z) z) = mn (lt_ f z) (plusO x.2 (minBy (fun (y : Nat × (Nat × Nat)) => plusO y.2.2 (aboveL r f x.1 y.1)) t))
  | [], z => (mn_none _).symm
  | y :: t, z => by
    rw [List.foldl_cons, lt_up1 r f x t]
    show _ = mn (lt_ f z) (plusO x.2 (mn (plusO y.2.2 (aboveL r f x.1 y.1)) (minBy _ t)))
    unfold aboveL
    cases leftOver r x.1 y.1 with
    | none => rfl
    | some u =>
      show mn (lt_ f (putWith min u (x.2 + y.2.2) z)) _ = mn (lt_ f z) (plusO x.2 (mn (plusO y.2.2 (f u)) _))
      rw [lt_put, plus_mn, plus_plus, mn_assoc]
def upL (r : Rod) (f : Nat → Option Nat) (u : Nat) : Option Nat := minBy (fun p => plusO (total p) (aboveL r f u (worthOf r.decks p))) (pushes r.decks)
theorem lt_oneUp (r : Rod) (f : Nat → Option Nat) (l : List (Nat × Nat)) : lt_ f (oneUpLeast r l) = lt_ (upL r f) l := by
  have key : ∀ (l z : List (Nat × Nat)), lt_ f (l.foldl (fun (z : List (Nat × Nat)) (x : Nat × Nat) => (tally r).foldl (fun (z : List (Nat × Nat)) (y : Nat × (Nat × Nat)) => match leftOver r x.1 y.1 with
      | some u => putWith min u (x.2 + y.2.2) z
      | none => z) z) z) = mn (lt_ f z) (lt_ (upL r f) l) := by
    intro l
    induction l with
    | nil => intro z; exact (mn_none _).symm
    | cons x l ih =>
      intro z
      rw [List.foldl_cons, ih, lt_up1, tally_min r (fun w => aboveL r f x.1 w), mn_assoc]
      rfl
  exact key l []
def leastF (f : Nat → Option Nat) : Make → Nat → Option Nat
  | [], u => f u
  | r :: m, u => upL r (leastF f m) u
theorem lt_fold (f : Nat → Option Nat) : ∀ (m : Make) (l : List (Nat × Nat)), lt_ f (m.foldl (fun (l : List (Nat × Nat)) (r : Rod) => oneUpLeast r l) l) = lt_ (leastF f m) l
  | [], l => rfl
  | r :: m, l => by
    rw [List.foldl_cons, lt_fold f m, lt_oneUp]
    rfl
def zeroL (u : Nat) : Option Nat := if u = 0 then some 0 else none
theorem nothing_lt : ∀ (l : List (Nat × Nat)), (l.map (·.1)).Nodup → nothingLeft l = lt_ zeroL l
  | [], _ => rfl
  | x :: l, h => by
    obtain ⟨h1, h2⟩ := List.nodup_cons.mp h
    unfold nothingLeft
    rw [List.find?_cons]
    by_cases e : x.1 = 0
    · have : (x.1 == 0) = true := by simp [e]
      rw [this]
      show some x.2 = mn (plusO x.2 (zeroL x.1)) (lt_ zeroL l)
      have z : lt_ zeroL l = none := minBy_none fun y hy => by
        have : y.1 ≠ 0 := fun h0 => h1 (List.mem_map.mpr ⟨y, hy, h0.trans e.symm⟩)
        unfold zeroL
        rw [if_neg this]
        rfl
      rw [z, mn_none]
      unfold zeroL
      rw [if_pos e]
      rfl
    · have : (x.1 == 0) = false := by simp [e]
      rw [this]
      show nothingLeft l = mn (plusO x.2 (zeroL x.1)) (lt_ zeroL l)
      rw [nothing_lt l h2]
      unfold zeroL
      rw [if_neg e]
      rfl
/-- **the specification's fewest beads are the fewest, rod by rod** -/
theorem least_min (m : Make) (v : Nat) : leastBeads m v = leastF zeroL m v := by
  unfold leastBeads
  have nd : ∀ (m : Make) (l : List (Nat × Nat)), (l.map (·.1)).Nodup → ((m.foldl (fun (l : List (Nat × Nat)) (r : Rod) => oneUpLeast r l) l).map (·.1)).Nodup := fun m l h => fold_keep (P := fun (z : List (Nat × Nat)) => (z.map (·.1)).Nodup) (fun z r _ => oneUpLeast_nodup r z) m l h
  rw [nothing_lt _ (nd m _ (by simp)), lt_fold]
  show mn (plusO 0 (leastF zeroL m v)) none = _
  rw [mn_none]
  unfold plusO
  cases leastF zeroL m v with
  | none => rfl
  | some a => exact congrArg some (Nat.zero_add a)
end Bf
namespace Bf
open Na
/-! ### the order of pushes -/
theorem below_self : ∀ p : List Nat, below p p = false
  | [] => rfl
  | x :: p => by
    show (decide (x < x) || (x == x && below p p)) = false
    rw [below_self p]
    simp
theorem below_cons {x y : Nat} {p q : List Nat} : below (x :: p) (y :: q) = true ↔ x < y ∨ (x = y ∧ below p q = true) := by
  show (decide (x < y) || (x == y && below p q)) = true ↔ _
  simp
theorem below_trans : ∀ {p q r : List Nat}, below p q = true → below q r = true → below p r = true
  | [], _, _, h, _ => by
    cases h
  | _ :: _, [], _, h, _ => by cases h
  | _ :: _, _ :: _, [], _, h => by cases h
  | x :: p, y :: q, z :: r, h1, h2 => by
    rw [below_cons] at h1 h2 ⊢
    rcases h1 with a | ⟨a, b⟩ <;> rcases h2 with c | ⟨c, d⟩
    · exact .inl (by omega)
    · exact .inl (by omega)
    · exact .inl (by omega)
    · exact .inr ⟨by omega, below_trans b d⟩
theorem below_total : ∀ {p q : List Nat}, p.length = q.length → below p q = true ∨ p = q ∨ below q p = true
  | [], [], _ => .inr (.inl rfl)
  | [], _ :: _, h => by cases h
  | _ :: _, [], h => by cases h
  | x :: p, y :: q, h => by
    rw [below_cons, below_cons]
    have h' : p.length = q.length := Nat.succ.inj h
    rcases Nat.lt_trichotomy x y with a | a | a
    · exact .inl (.inl a)
    · rcases below_total h' with b | b | b
      · exact .inl (.inr ⟨a, b⟩)
      · exact .inr (.inl (by rw [a, b]))
      · exact .inr (.inr (.inr ⟨a.symm, b⟩))
    · exact .inr (.inr (.inl a))
theorem nicer_iff {p q : Push} : nicer p q = true ↔ total p < total q ∨ (total p = total q ∧ below q p = true) := by
  unfold nicer
  simp
theorem nicer_self (p : Push) : nicer p p = false := by
  cases e : nicer p p with
  | false => rfl
  | true =>
    rcases nicer_iff.mp e with h | ⟨_, h⟩
    · omega
    · rw [below_self] at h
      cases h
theorem nicer_trans {p q r : Push} (h1 : nicer p q = true) (h2 : nicer q r = true) : nicer p r = true := by
  rw [nicer_iff] at h1 h2 ⊢
  rcases h1 with a | ⟨a, b⟩ <;> rcases h2 with c | ⟨c, d⟩
  · exact .inl (by omega)
  · exact .inl (by omega)
  · exact .inl (by omega)
  · exact .inr ⟨by omega, below_trans d b⟩
theorem nicer_total {p q : Push} (h : p.length = q.length) : nicer p q = true ∨ p = q ∨ nicer q p = true := by
  rw [nicer_iff, nicer_iff]
  rcases Nat.lt_trichotomy (total p) (total q) with a | a | a
  · exact .inl (.inl a)
  · rcases below_total h with b | b | b
    · exact .inr (.inr (.inr ⟨a.symm, b⟩))
    · exact .inr (.inl b)
    · exact .inl (.inr ⟨a, b⟩)
  · exact .inr (.inr (.inl a))
/-! ### the nicest of some -/
def nicestFrom (a : Push) (l : List Push) : Push := l.foldl (fun q p => if nicer p q = true then p else q) a
theorem nicest_cons (a : Push) (l : List Push) : nicest (a :: l) = some (nicestFrom a l) := by
  have key : ∀ (l : List Push) (a : Push), l.foldl (fun (a : Option Push) (p : Push) => match a with
      | none => some p
      | some q => if nicer p q = true then some p else some q) (some a) = some (nicestFrom a l) := by
    intro l
    induction l with
    | nil => intro a; rfl
    | cons p l ih =>
      intro a
      rw [List.foldl_cons]
      show List.foldl _ (if nicer p a = true then some p else some a) l = some (nicestFrom (if nicer p a = true then p else a) l)
      split
      · exact ih p
      · exact ih a
  exact key l a
theorem nicestFrom_mem : ∀ (l : List Push) (a : Push), nicestFrom a l ∈ a :: l
  | [], a => List.mem_singleton.mpr rfl
  | p :: l, a => by
    show nicestFrom (if nicer p a = true then p else a) l ∈ _
    have := nicestFrom_mem l (if nicer p a = true then p else a)
    rcases List.mem_cons.mp this with h | h
    · rw [h]
      split
      · exact List.mem_cons_of_mem _ (List.mem_cons_self ..)
      · exact List.mem_cons_self ..
    · exact List.mem_cons_of_mem _ (List.mem_cons_of_mem _ h)
theorem nicestFrom_le : ∀ (l : List Push) (a : Push), nicestFrom a l = a ∨ nicer (nicestFrom a l) a = true
| [], a => .inl rfl
| p :: l, a => by
  show nicestFrom (if nicer p a = true then p else a) l = a ∨ nicer (nicestFrom (if nicer p a = true then p else a) l) a = true
  by_cases h : nicer p a = true
  · rw [if_pos h]
    rcases nicestFrom_le l p with z | z
    · rw [z]
      exact .inr h
    · exact .inr (nicer_trans z h)
  · rw [if_neg h]
    exact nicestFrom_le l a
theorem nicestFrom_best : ∀ (l : List Push) (a : Push), ∀ q ∈ a :: l, nicer q (nicestFrom a l) = false
  | [], a, q, hq => by
    obtain rfl := List.mem_singleton.mp hq
    exact nicer_self q
  | p :: l, a, q, hq => by
    show nicer q (nicestFrom (if nicer p a = true then p else a) l) = false
    have ih := nicestFrom_best l (if nicer p a = true then p else a)
    have hb := ih _ (List.mem_cons_self ..)
    rcases List.mem_cons.mp hq with e | e
    · subst e
      by_cases h : nicer p q = true
      · rw [if_pos h] at hb ih ⊢
        cases k : nicer q (nicestFrom p l) with
        | false => rfl
        | true =>
          have := nicer_trans h k
          rw [hb] at this
          cases this
      · rw [if_neg h] at hb ⊢
        exact hb
    · rcases List.mem_cons.mp e with e | e
      · subst e
        by_cases h : nicer q a = true
        · rw [if_pos h] at hb ⊢
          exact hb
        · rw [if_neg h] at hb ih ⊢
          cases k : nicer q (nicestFrom a l) with
          | false => rfl
          | true =>
            have : nicer q a = true := by
              rcases nicestFrom_le l a with z | z
              · rw [z] at k
                exact k
              · exact nicer_trans k z
            exact absurd this h
      · exact ih q (List.mem_cons_of_mem _ e)
/-- **the nicest**: one of them, and none is nicer; of as long ones there's just one such -/
theorem nicest_is {l : List Push} {p : Push} (hl : ∀ q ∈ l, q.length = p.length) (hp : p ∈ l) (hb : ∀ q ∈ l, nicer q p = false) : nicest l = some p := by
  cases l with
  | nil => cases hp
  | cons a l =>
    rw [nicest_cons]
    have h1 := nicestFrom_mem l a
    have h2 := nicestFrom_best l a p hp
    have h3 := hb _ h1
    rcases nicer_total (hl _ h1) with k | k | k
    · rw [h3] at k
      cases k
    · rw [k]
    · rw [h2] at k
      cases k
theorem nicest_some {l : List Push} (h : l ≠ []) : ∃ p, nicest l = some p ∧ p ∈ l ∧ ∀ q ∈ l, nicer q p = false := by
  cases l with
  | nil => exact absurd rfl h
  | cons a l => exact ⟨_, nicest_cons a l, nicestFrom_mem l a, nicestFrom_best l a⟩
theorem form_is {r : Rod} {d : Nat} {p : Push} (hp : p ∈ pushes r.decks) (hw : worthOf r.decks p = d) (hb : ∀ q ∈ pushes r.decks, worthOf r.decks q = d → nicer q p = false) : formOf r d = p := by
  have hl := push_len _ _ hp
  unfold formOf
  rw [nicest_is (p := p) (fun q hq => by
    rw [push_len _ _ (List.mem_filter.mp hq).1, hl]) (List.mem_filter.mpr ⟨hp, by simp [hw]⟩) (fun q hq => by
    obtain ⟨h1, h2⟩ := List.mem_filter.mp hq
    exact hb q h1 (beq_iff_eq.mp h2))]
  rfl
/-- of a rod that's whole each digit has a form -/
theorem form_some {r : Rod} {d : Nat} (h : r.whole = true) (hd : d < r.ratio) : formOf r d ∈ pushes r.decks ∧ worthOf r.decks (formOf r d) = d ∧ ∀ q ∈ pushes r.decks, worthOf r.decks q = d → nicer q (formOf r d) = false := by
  unfold Rod.whole at h
  obtain ⟨p, hp, e⟩ := List.any_eq_true.mp (List.all_eq_true.mp h d (List.mem_range.mpr hd))
  have hne : (pushes r.decks).filter (fun (p : Push) => worthOf r.decks p == d) ≠ [] := fun z => by
    have : p ∈ (pushes r.decks).filter (fun (p : Push) => worthOf r.decks p == d) := List.mem_filter.mpr ⟨hp, e⟩
    rw [z] at this
    cases this
  obtain ⟨f, hf, hm, hb⟩ := nicest_some hne
  have ef : formOf r d = f := by
    unfold formOf
    rw [hf]
    rfl
  rw [ef]
  obtain ⟨h1, h2⟩ := List.mem_filter.mp hm
  exact ⟨h1, beq_iff_eq.mp h2, fun q hq hw => hb q (List.mem_filter.mpr ⟨hq, by simp [hw]⟩)⟩
end Bf
namespace Bf
open Na
/-! ### a rod's decks, those that aren't there among them -/
def dn (g : List Nat) : Nat := if ix g 3 = 0 then 1 else if ix g 5 = 0 then 2 else 3
def D3 (g : List Nat) : List Deck := (decks g).map mk
def pad (n : Nat) (p : Push) : Push := p ++ List.replicate n 0
theorem dn_le (g : List Nat) : dn g ≤ 3 := by
  unfold dn
  split
  · decide
  · split <;> decide
theorem turn_facts {g : List Nat} (h : inTurn g = true) : ix g 1 ≠ 0 ∧ (ix g 5 ≠ 0 → ix g 3 ≠ 0) := by
  unfold inTurn at h
  split at h
  · cases h
  · rename_i c
    simp at h
    exact ⟨c, fun k => by omega⟩
theorem sound_zero {b w : Nat} (h : sound b w = true) (hb : b = 0) : w = 0 := by
  unfold sound at h
  rw [if_pos (.inl hb)] at h
  have := beq_iff_eq.mp h
  omega
/-- the decks that are there come first; behind them none has beads or worth -/
theorem good_decks {g : List Nat} (h : numsSound g = true) : (rodOf g).decks.length = dn g ∧ D3 g = (rodOf g).decks ++ List.replicate (3 - dn g) ⟨0, 0⟩ := by
  obtain ⟨_, _, hs, ht⟩ := nums_facts h
  obtain ⟨h1, h2⟩ := turn_facts ht
  have s3 := sound_zero (hs (ix g 3, ix g 4) (by unfold decks; simp))
  have s5 := sound_zero (hs (ix g 5, ix g 6) (by unfold decks; simp))
  rw [rodOf_decks]
  unfold D3 dn decks
  simp only [List.filter_cons, List.filter_nil, List.map_cons, List.map_nil, bne_iff_ne, ne_eq]
  rw [if_pos h1]
  by_cases c3 : ix g 3 = 0
  · have c5 : ix g 5 = 0 := by
      by_cases c5 : ix g 5 = 0
      · exact c5
      · exact absurd c3 (h2 c5)
    have z4 : ix g 4 = 0 := s3 c3
    have z6 : ix g 6 = 0 := s5 c5
    simp [c3, c5, z4, z6, mk, List.replicate]
  · by_cases c5 : ix g 5 = 0
    · have z6 : ix g 6 = 0 := s5 c5
      simp [c3, c5, z6, mk, List.replicate]
    · simp [c3, c5, mk, List.replicate]
theorem pushes_zero : ∀ n : Nat, pushes (List.replicate n (⟨0, 0⟩ : Deck)) = [List.replicate n 0]
  | 0 => rfl
  | n + 1 => by
    show (List.range 1).flatMap (fun (k : Nat) => (pushes (List.replicate n (⟨0, 0⟩ : Deck))).map fun (p : Push) => k :: p) = _
    rw [pushes_zero n]
    rfl
theorem pushes_pad (n : Nat) : ∀ ds : List Deck, pushes (ds ++ List.replicate n ⟨0, 0⟩) = (pushes ds).map (pad n)
  | [] => pushes_zero n
  | d :: ds => by
    show (List.range (d.beads + 1)).flatMap (fun (k : Nat) => (pushes (ds ++ List.replicate n ⟨0, 0⟩)).map fun (p : Push) => k :: p) = ((List.range (d.beads + 1)).flatMap (fun (k : Nat) => (pushes ds).map fun (p : Push) => k :: p)).map (pad n)
    rw [pushes_pad n ds, List.map_flatMap]
    refine congrArg (fun f => List.flatMap f (List.range (d.beads + 1))) (funext fun k => ?_)
    rw [List.map_map, List.map_map]
    rfl
theorem p3_pushes {g : List Nat} (h : numsSound g = true) : pushes (D3 g) = (pushes (rodOf g).decks).map (pad (3 - dn g)) := by
  rw [(good_decks h).2, pushes_pad]
theorem total_append : ∀ p q : List Nat, total (p ++ q) = total p + total q
  | [], q => (Nat.zero_add _).symm
  | x :: p, q => by
    show x + total (p ++ q) = x + total p + total q
    rw [total_append p q, Nat.add_assoc]
theorem total_zeros : ∀ n : Nat, total (List.replicate n 0) = 0
  | 0 => rfl
  | n + 1 => by
    show 0 + total (List.replicate n 0) = 0
    rw [total_zeros n]
theorem total_pad (n : Nat) (p : Push) : total (pad n p) = total p := by
  unfold pad
  rw [total_append, total_zeros, Nat.add_zero]
theorem worth_zeros : ∀ (n : Nat) (p : Push), worthOf (List.replicate n (⟨0, 0⟩ : Deck)) p = 0
  | 0, _ => rfl
  | n + 1, [] => rfl
  | n + 1, x :: p => by
    show x * 0 + worthOf (List.replicate n ⟨0, 0⟩) p = 0
    rw [worth_zeros n p]
    omega
theorem worth_append : ∀ (l : List Deck) (p : Push) (l' : List Deck) (q : Push), p.length = l.length → worthOf (l ++ l') (p ++ q) = worthOf l p + worthOf l' q
  | [], [], l', q, _ => (Nat.zero_add _).symm
  | [], _ :: _, _, _, h => by cases h
  | _ :: _, [], _, _, h => by cases h
  | d :: l, x :: p, l', q, h => by
    show x * d.worth + worthOf (l ++ l') (p ++ q) = x * d.worth + worthOf l p + worthOf l' q
    rw [worth_append l p l' q (Nat.succ.inj h), Nat.add_assoc]
theorem worth_pad {g : List Nat} (h : numsSound g = true) {p : Push} (hp : p.length = dn g) : worthOf (D3 g) (pad (3 - dn g) p) = worthOf (rodOf g).decks p := by
  obtain ⟨h1, h2⟩ := good_decks h
  rw [h2]
  unfold pad
  rw [worth_append _ _ _ _ (hp.trans h1.symm), worth_zeros, Nat.add_zero]
theorem below_append : ∀ (p q r : List Nat), p.length = q.length → below (p ++ r) (q ++ r) = below p q
  | [], [], r, _ => below_self r
  | [], _ :: _, _, h => by cases h
  | _ :: _, [], _, h => by cases h
  | x :: p, y :: q, r, h => by
    show (decide (x < y) || (x == y && below (p ++ r) (q ++ r))) = (decide (x < y) || (x == y && below p q))
    rw [below_append p q r (Nat.succ.inj h)]
theorem nicer_pad {n : Nat} {p q : Push} (h : p.length = q.length) : nicer (pad n p) (pad n q) = nicer p q := by
  unfold nicer
  rw [total_pad, total_pad]
  unfold pad
  rw [below_append _ _ _ h.symm]
/-- as the answer tells a push: three numbers -/
theorem told_pad {p : Push} (h : p.length ≤ 3) : (List.range 3).map (fun (j : Nat) => p.getD j 0) = pad (3 - p.length) p := by
  match p, h with
  | [], _ => rfl
  | [a], _ => rfl
  | [a, b], _ => rfl
  | [a, b, c], _ => rfl
  | a :: b :: c :: d :: r, h => exact absurd h (by simp)
/-- the nicest of all three decks' pushes of a count, told by three numbers -/
def form3 (g : List Nat) (d : Nat) : Push := pad (3 - dn g) (formOf (rodOf g) d)
theorem form3_is {g : List Nat} (h : numsSound g = true) {d : Nat} {t : Push} (ht : t ∈ pushes (D3 g)) (hw : worthOf (D3 g) t = d) (hb : ∀ q ∈ pushes (D3 g), worthOf (D3 g) q = d → nicer q t = false) : form3 g d = t := by
  rw [p3_pushes h] at ht hb
  obtain ⟨p, hp, rfl⟩ := List.mem_map.mp ht
  have hl : p.length = dn g := (push_len _ _ hp).trans (good_decks h).1
  rw [worth_pad h hl] at hw
  unfold form3
  rw [form_is hp hw fun q hq hq2 => by
    have lq : q.length = dn g := (push_len _ _ hq).trans (good_decks h).1
    have := hb (pad (3 - dn g) q) (List.mem_map.mpr ⟨q, hq, rfl⟩) (by rw [worth_pad h lq]; exact hq2)
    rw [nicer_pad (lq.trans hl.symm)] at this
    exact this]
theorem form3_some {g : List Nat} (h : numsSound g = true) (ha : allPushed g = true) {d : Nat} (hd : d < ix g 0) : form3 g d ∈ pushes (D3 g) ∧ worthOf (D3 g) (form3 g d) = d ∧ ∀ q ∈ pushes (D3 g), worthOf (D3 g) q = d → nicer q (form3 g d) = false := by
  have hw : (rodOf g).whole = true := by
    rw [whole_eq]
    exact ha
  obtain ⟨h1, h2, h3⟩ := form_some hw (by rw [rodOf_ratio]; exact hd)
  have hl : (formOf (rodOf g) d).length = dn g := (push_len _ _ h1).trans (good_decks h).1
  unfold form3
  refine ⟨?_, ?_, fun q hq hq2 => ?_⟩
  · rw [p3_pushes h]
    exact List.mem_map.mpr ⟨_, h1, rfl⟩
  · rw [worth_pad h hl]
    exact h2
  · rw [p3_pushes h] at hq
    obtain ⟨p, hp, rfl⟩ := List.mem_map.mp hq
    have lp : p.length = dn g := (push_len _ _ hp).trans (good_decks h).1
    rw [worth_pad h lp] at hq2
    rw [nicer_pad (lp.trans hl.symm)]
    exact h3 p hp hq2
end Bf
namespace Bf
open Na
/-! ### standings -/
def AllGood (gs : List (List Nat)) : Prop := ∀ g ∈ gs, numsSound g = true
theorem broken_sound {g : List Nat} (h : broken g = 0) : numsSound g = true ∧ worthT g ≤ 255 ∧ allPushed g = true := by
  unfold broken at h
  split at h
  · cases h
  · split at h
    · cases h
    · split at h
      · cases h
      · rename_i a b c
        exact ⟨by simpa using a, by omega, by simpa using c⟩
theorem good_of {l : List Nat} (h : mfault l = []) : AllGood (cuts l) := fun g hg => (broken_sound ((mfault_nil h).2.2 g hg)).1
theorem there_rod {g : List Nat} (h : numsSound g = true) {j : Nat} (hj : j < 3) : (((rodOf g).decks[j]?).map fun (d : Deck) => d.beads).getD 0 = ix g (1 + 2 * j) := by
  obtain ⟨h1, h2⟩ := good_decks h
  have e : ((D3 g)[j]?.map fun (d : Deck) => d.beads).getD 0 = ix g (1 + 2 * j) := by
    match j, hj with
    | 0, _ => rfl
    | 1, _ => rfl
    | 2, _ => rfl
  rw [← e, h2]
  by_cases c : j < (rodOf g).decks.length
  · rw [List.getElem?_append_left c]
  · rw [List.getElem?_append_right (by omega), List.getElem?_eq_none_iff.mpr (by omega : (rodOf g).decks.length ≤ j), List.getElem?_replicate]
    split <;> rfl
theorem there_at {gs : List (List Nat)} (h : AllGood gs) {k : Nat} {g : List Nat} (hk : gs[k / 3]? = some g) : thereAt (gs.map rodOf) k = ix g (1 + 2 * (k % 3)) := by
  unfold thereAt
  rw [List.getElem?_map, hk]
  exact there_rod (h g (List.mem_of_getElem? hk)) (by omega)
/-- too many beads at a place -/
def over (gs : List (List Nat)) (st : List Nat) (k : Nat) : Bool := decide (ix (gs.getD (k / 3) []) (1 + 2 * (k % 3)) < st.getD k 0)
def sfault (gs : List (List Nat)) (st : List Nat) : List Nat := if st.length ≠ 3 * gs.length then [5, st.length] else match (List.range st.length).find? (over gs st) with
  | some k => [5, k]
  | none => []
/-- a standing's rods, each deck that's there -/
def stOf : List (List Nat) → List Nat → Standing
  | [], _ => []
  | g :: gs, st => (List.range (rodOf g).decks.length).map (fun (j : Nat) => st.getD j 0) :: stOf gs (st.drop 3)
theorem find_congr {α : Type} {p q : α → Bool} : ∀ {l : List α}, (∀ x ∈ l, p x = q x) → l.find? p = l.find? q
  | [], _ => rfl
  | x :: l, h => by
    rw [List.find?_cons, List.find?_cons, h x (List.mem_cons_self ..), find_congr fun y hy => h y (List.mem_cons_of_mem _ hy)]
theorem zip_stOf (st : List Nat) : ∀ (gs : List (List Nat)) (i : Nat), ((gs.map rodOf).zipIdx i).map (fun (x : Rod × Nat) => (List.range x.1.decks.length).map fun (j : Nat) => st.getD (3 * x.2 + j) 0) = stOf gs (st.drop (3 * i))
  | [], _ => rfl
  | g :: gs, i => by
    rw [List.map_cons, List.zipIdx_cons, List.map_cons, zip_stOf st gs (i + 1)]
    show _ = (List.range (rodOf g).decks.length).map (fun (j : Nat) => (st.drop (3 * i)).getD j 0) :: stOf gs ((st.drop (3 * i)).drop 3)
    rw [List.drop_drop]
    refine congr (congrArg List.cons (List.map_congr_left fun j _ => ?_)) (by rw [show 3 * (i + 1) = 3 * i + 3 by omega])
    rw [List.getD_eq_getElem?_getD, List.getD_eq_getElem?_getD, List.getElem?_drop]
theorem over_there {gs : List (List Nat)} (h : AllGood gs) {st : List Nat} (hl : st.length = 3 * gs.length) : (List.range st.length).find? (fun (k : Nat) => decide (thereAt (gs.map rodOf) k < st.getD k 0)) = (List.range st.length).find? (over gs st) :=
  find_congr fun k hk => by
    have hk' : k / 3 < gs.length := by
      have := List.mem_range.mp hk
      omega
    unfold over
    rw [there_at h (List.getElem?_eq_getElem hk'), show gs.getD (k / 3) [] = gs[k / 3] by rw [List.getD_eq_getElem?_getD, List.getElem?_eq_getElem hk']; rfl]
theorem standing_bad {gs : List (List Nat)} (h : AllGood gs) {st : List Nat} (hf : sfault gs st ≠ []) : ∃ e, standingOf (gs.map rodOf) st = .error e ∧ sfault gs st = [e.rule, e.place] := by
  unfold sfault at hf ⊢
  unfold standingOf
  rw [List.length_map]
  by_cases hl : st.length ≠ 3 * gs.length
  · rw [if_pos hl, if_pos hl]
    exact ⟨_, rfl, rfl⟩
  · rw [if_neg hl] at hf
    rw [if_neg hl, if_neg hl, over_there h (Decidable.not_not.mp hl)]
    cases e : (List.range st.length).find? (over gs st) with
    | none =>
      rw [e] at hf
      exact absurd rfl hf
    | some k => exact ⟨_, rfl, rfl⟩
theorem standing_ok {gs : List (List Nat)} (h : AllGood gs) {st : List Nat} (hf : sfault gs st = []) : standingOf (gs.map rodOf) st = .ok (stOf gs st) ∧ st.length = 3 * gs.length ∧ ∀ (k : Nat), k < st.length → over gs st k = false := by
  unfold sfault at hf
  unfold standingOf
  rw [List.length_map]
  by_cases hl : st.length ≠ 3 * gs.length
  · rw [if_pos hl] at hf
    cases hf
  · have hl' := Decidable.not_not.mp hl
    rw [if_neg hl] at hf
    rw [if_neg hl, over_there h hl']
    cases e : (List.range st.length).find? (over gs st) with
    | some k =>
      rw [e] at hf
      cases hf
    | none =>
      refine ⟨congrArg Except.ok (zip_stOf st gs 0), hl', fun k hk => ?_⟩
      rw [List.find?_eq_none] at e
      have := e k (List.mem_range.mpr hk)
      simpa using this
/-- the first place with too many beads -/
theorem sfault_at {gs : List (List Nat)} {st : List Nat} (hl : st.length = 3 * gs.length) {k : Nat} (hk : k < st.length) (ho : over gs st k = true) (hb : ∀ j, j < k → over gs st j = false) : sfault gs st = [5, k] := by
  unfold sfault
  rw [if_neg (by simpa using hl)]
  have e : (List.range st.length).find? (over gs st) = some k := by
    rw [List.find?_range_eq_some]
    exact ⟨ho, List.mem_range.mpr hk, fun j hj => by simpa using hb j hj⟩
  rw [e]
theorem sfault_none {gs : List (List Nat)} {st : List Nat} (hl : st.length = 3 * gs.length) (hb : ∀ j, j < st.length → over gs st j = false) : sfault gs st = [] := by
  unfold sfault
  rw [if_neg (by simpa using hl)]
  have e : (List.range st.length).find? (over gs st) = none := by
    rw [List.find?_eq_none]
    intro j hj
    rw [hb j (List.mem_range.mp hj)]
    decide
  rw [e]
theorem sfault_len {gs : List (List Nat)} {st : List Nat} (hl : st.length ≠ 3 * gs.length) : sfault gs st = [5, st.length] := by
  unfold sfault
  rw [if_pos hl]
/-- a rod's count by three numbers -/
def count3 (g : List Nat) (a b c : Nat) : Nat := a * ix g 2 + b * ix g 4 + c * ix g 6
theorem getD_range {st : List Nat} {n : Nat} (j : Nat) : ((List.range n).map (fun (j : Nat) => st.getD j 0)).getD j 0 = if j < n then st.getD j 0 else 0 := by
  rw [List.getD_eq_getElem?_getD, List.getElem?_map]
  by_cases h : j < n
  · rw [List.getElem?_range h, if_pos h]
    rfl
  · rw [List.getElem?_eq_none_iff.mpr (by rw [List.length_range]; omega), if_neg h]
    rfl
/-- the three numbers of a rod that has no more beads pushed than there are -/
theorem pad_three {g : List Nat} (h : numsSound g = true) {st : List Nat} (hb : ∀ j, j < 3 → st.getD j 0 ≤ ix g (1 + 2 * j)) :
    pad (3 - dn g) ((List.range (rodOf g).decks.length).map fun (j : Nat) => st.getD j 0) = [st.getD 0 0, st.getD 1 0, st.getD 2 0] := by
  obtain ⟨_, _, hs, ht⟩ := nums_facts h
  obtain ⟨h1, h2⟩ := turn_facts ht
  have b1 : st.getD 1 0 ≤ ix g 3 := hb 1 (by decide)
  have b2 : st.getD 2 0 ≤ ix g 5 := hb 2 (by decide)
  rw [(good_decks h).1]
  unfold dn
  by_cases c3 : ix g 3 = 0
  · have c5 : ix g 5 = 0 := by
      by_cases c5 : ix g 5 = 0
      · exact c5
      · exact absurd c3 (h2 c5)
    rw [if_pos c3, show st.getD 1 0 = 0 by omega, show st.getD 2 0 = 0 by omega]
    rfl
  · rw [if_neg c3]
    by_cases c5 : ix g 5 = 0
    · rw [if_pos c5, show st.getD 2 0 = 0 by omega]
      rfl
    · rw [if_neg c5]
      rfl
theorem worth_three (g : List Nat) (a b c : Nat) : worthOf (D3 g) [a, b, c] = count3 g a b c := by
  show a * ix g 2 + (b * ix g 4 + (c * ix g 6 + 0)) = _
  unfold count3
  omega
theorem mem_p3 {g : List Nat} {q : Push} : q ∈ pushes (D3 g) ↔ ∃ a b c, a ≤ ix g 1 ∧ b ≤ ix g 3 ∧ c ≤ ix g 5 ∧ q = [a, b, c] := by
  show q ∈ pushes [(⟨ix g 1, ix g 2⟩ : Deck), ⟨ix g 3, ix g 4⟩, ⟨ix g 5, ix g 6⟩] ↔ _
  rw [mem_pushes_cons]
  constructor
  · rintro ⟨a, p, ha, hp, rfl⟩
    obtain ⟨b, p2, hb, hp2, rfl⟩ := mem_pushes_cons.mp hp
    obtain ⟨c, p3, hc, hp3, rfl⟩ := mem_pushes_cons.mp hp2
    obtain rfl := List.mem_singleton.mp hp3
    exact ⟨a, b, c, ha, hb, hc, rfl⟩
  · rintro ⟨a, b, c, ha, hb, hc, rfl⟩
    exact ⟨a, [b, c], ha, mem_pushes_cons.mpr ⟨b, [c], hb, mem_pushes_cons.mpr ⟨c, [], hc, List.mem_singleton.mpr rfl, rfl⟩, rfl⟩, rfl⟩
/-- the worth of a rod's pushed beads, by the list's own numbers -/
theorem worth_row {g : List Nat} (h : numsSound g = true) {st : List Nat} (hb : ∀ j, j < 3 → st.getD j 0 ≤ ix g (1 + 2 * j)) :
    worthOf (rodOf g).decks ((List.range (rodOf g).decks.length).map fun (j : Nat) => st.getD j 0) = count3 g (st.getD 0 0) (st.getD 1 0) (st.getD 2 0) := by
  have hl : ((List.range (rodOf g).decks.length).map fun (j : Nat) => st.getD j 0).length = dn g := by
    rw [List.length_map, List.length_range]
    exact (good_decks h).1
  rw [← worth_pad h hl, pad_three h hb, worth_three]
/-! values -/
def rawVal : List (List Nat) → List Nat → Nat
  | [], _ => 0
  | g :: gs, st => count3 g (st.getD 0 0) (st.getD 1 0) (st.getD 2 0) + ix g 0 * rawVal gs (st.drop 3)
/-- no more beads pushed than there are, rod by rod -/
def Fits : List (List Nat) → List Nat → Prop
  | [], _ => True
  | g :: gs, st => (∀ j, j < 3 → st.getD j 0 ≤ ix g (1 + 2 * j)) ∧ Fits gs (st.drop 3)
theorem fits_of : ∀ (gs : List (List Nat)) (st : List Nat), (∀ (k : Nat), k < 3 * gs.length → over gs st k = false) → Fits gs st
  | [], _, _ => trivial
  | g :: gs, st, h => by
    refine ⟨fun j hj => ?_, fits_of gs (st.drop 3) fun k hk => ?_⟩
    · have := h j (by rw [List.length_cons]; omega)
      unfold over at this
      rw [show j / 3 = 0 by omega, show j % 3 = j by omega] at this
      have := of_decide_eq_false this
      exact Nat.le_of_not_lt this
    · have := h (k + 3) (by rw [List.length_cons]; omega)
      unfold over at this ⊢
      rw [show (k + 3) / 3 = k / 3 + 1 by omega, show (k + 3) % 3 = k % 3 by omega] at this
      rw [show (st.drop 3).getD k 0 = st.getD (k + 3) 0 by rw [List.getD_eq_getElem?_getD, List.getElem?_drop, List.getD_eq_getElem?_getD, Nat.add_comm]]
      exact this
theorem value_raw : ∀ (gs : List (List Nat)) (st : List Nat), AllGood gs → Fits gs st → value (gs.map rodOf) (stOf gs st) = rawVal gs st
  | [], _, _, _ => rfl
  | g :: gs, st, h, hf => by
    show worthOf (rodOf g).decks ((List.range (rodOf g).decks.length).map fun (j : Nat) => st.getD j 0) + (rodOf g).ratio * value (gs.map rodOf) (stOf gs (st.drop 3)) = _
    rw [worth_row (h g (List.mem_cons_self ..)) hf.1, value_raw gs (st.drop 3) (fun x hx => h x (List.mem_cons_of_mem _ hx)) hf.2]
    rfl
end Bf
namespace Bf
open Na
def refusal (f : List Nat) : List Int := -5 :: f.map (fun n : Nat => (n : Int))
def nums (l : List Nat) : List Int := 0 :: l.map (fun n : Nat => (n : Int))
/-- the answer of a call on a make -/
def onMake (l : List Nat) (f : List (List Nat) → List Int) : List Int := if mfault l = [] then f (cuts l) else refusal (mfault l)
theorem ofMake_eq {l : List Nat} {F : Make → Bd.Answer} {f : List (List Nat) → List Int} (h : mfault l = [] → BdNeutral.told (F ((cuts l).map rodOf)) = f (cuts l)) : BdNeutral.told (Bd.ofMake l F) = onMake l f := by
  unfold onMake Bd.ofMake
  by_cases e : mfault l = []
  · rw [if_pos e, (mfault_nil e).2.1]
    exact h e
  · obtain ⟨x, h1, h2⟩ := makeOf_err e
    rw [if_neg e, h1, h2]
    rfl
def onStanding (l st : List Nat) (f : List (List Nat) → List Nat → List Int) : List Int := onMake l fun gs => if sfault gs st = [] then f gs st else refusal (sfault gs st)
theorem ofStanding_eq {l st : List Nat} {F : Make → Standing → Bd.Answer} {f : List (List Nat) → List Nat → List Int} (h : mfault l = [] → sfault (cuts l) st = [] → BdNeutral.told (F ((cuts l).map rodOf) (stOf (cuts l) st)) = f (cuts l) st) :
    BdNeutral.told (Bd.ofStanding l st F) = onStanding l st f := by
  refine ofMake_eq fun hm => ?_
  by_cases e : sfault (cuts l) st = []
  · rw [if_pos e, (standing_ok (good_of hm) e).1]
    exact h hm e
  · obtain ⟨x, h1, h2⟩ := standing_bad (good_of hm) e
    rw [if_neg e, h1, h2]
    rfl
theorem told_nums (l : List Nat) : BdNeutral.told (.nums l) = nums l := rfl
theorem span_prod (gs : List (List Nat)) : Na.span (gs.map rodOf) = prodR gs := by
  unfold prodR
  rw [prod_span, Nat.one_mul]
/-! ### value -/
theorem fits_ok {gs : List (List Nat)} (h : AllGood gs) {st : List Nat} (hf : sfault gs st = []) : Fits gs st := by
  obtain ⟨_, h2, h3⟩ := standing_ok h hf
  exact fits_of gs st fun k hk => h3 k (by omega)
theorem value_eq (ns ss : List Int) : PyYqacaa.value ns ss = onStanding (ns.map Int.toNat) (ss.map Int.toNat) fun gs st => nums [rawVal gs st] := by
  show BdNeutral.told (Bd.ofStanding (ns.map Int.toNat) (ss.map Int.toNat) fun m s => .nums [Na.value m s]) = _
  exact ofStanding_eq fun hm hs => by rw [value_raw _ _ (good_of hm) (fits_ok (good_of hm) hs), told_nums]
/-! ### digits -/
def digs : List (List Nat) → Nat → List Nat
  | [], _ => []
  | g :: gs, v => v % ix g 0 :: digs gs (v / ix g 0)
theorem digs_eq : ∀ (gs : List (List Nat)) (v : Nat), Na.digits (gs.map rodOf) v = digs gs v
  | [], _ => rfl
  | g :: gs, v => by
    show v % ix g 0 :: Na.digits (gs.map rodOf) (v / ix g 0) = _
    rw [digs_eq gs]
    rfl
def below4 (gs : List (List Nat)) (v : Nat) (f : List Int) : List Int := if v < prodR gs then f else [-4]
theorem digits_eq (v : Int) (ns : List Int) : PyYqacaa.digits v ns = onMake (ns.map Int.toNat) fun gs => below4 gs v.toNat (nums (digs gs v.toNat)) := by
  show BdNeutral.told (Bd.ofMake (ns.map Int.toNat) fun m => if v.toNat < Na.span m then .nums (Na.digits m v.toNat) else .refused 4) = _
  refine ofMake_eq fun hm => ?_
  rw [span_prod, digs_eq]
  unfold below4
  split <;> rfl
/-! ### show -/
def shown3 : List (List Nat) → Nat → List Nat
  | [], _ => []
  | g :: gs, v => form3 g (v % ix g 0) ++ shown3 gs (v / ix g 0)
def AllFit (gs : List (List Nat)) : Prop := ∀ g ∈ gs, broken g = 0
theorem fit_of {l : List Nat} (h : mfault l = []) : AllFit (cuts l) := (mfault_nil h).2.2
theorem form_len {g : List Nat} (h : broken g = 0) {d : Nat} (hd : d < ix g 0) : (formOf (rodOf g) d).length = dn g := by
  obtain ⟨h1, _, h3⟩ := broken_sound h
  have hw : (rodOf g).whole = true := by
    rw [whole_eq]
    exact h3
  exact (push_len _ _ (form_some hw (by rw [rodOf_ratio]; exact hd)).1).trans (good_decks h1).1
theorem ratio_pos {g : List Nat} (h : broken g = 0) : 0 < ix g 0 := by
  have := (nums_facts (broken_sound h).1).1
  omega
theorem show_raw : ∀ (gs : List (List Nat)) (v : Nat), AllFit gs → standingNumbers (Na.shown (gs.map rodOf) v) = shown3 gs v
  | [], _, _ => rfl
  | g :: gs, v, h => by
    have hg := h g (List.mem_cons_self ..)
    show standingNumbers (formOf (rodOf g) (v % ix g 0) :: Na.shown (gs.map rodOf) (v / ix g 0)) = _
    show (List.range 3).map (fun (j : Nat) => (formOf (rodOf g) (v % ix g 0)).getD j 0) ++ standingNumbers (Na.shown (gs.map rodOf) (v / ix g 0)) = form3 g (v % ix g 0) ++ shown3 gs (v / ix g 0)
    have hl := form_len hg (Nat.mod_lt v (ratio_pos hg))
    rw [told_pad (by rw [hl]; exact dn_le g), hl, show_raw gs _ fun x hx => h x (List.mem_cons_of_mem _ hx)]
    rfl
theorem show_eq (v : Int) (ns : List Int) : PyYqacaa.show_ v ns = onMake (ns.map Int.toNat) fun gs => below4 gs v.toNat (nums (shown3 gs v.toNat)) := by
  show BdNeutral.told (Bd.ofMake (ns.map Int.toNat) fun m => if v.toNat < Na.span m then .nums (standingNumbers (Na.shown m v.toNat)) else .refused 4) = _
  refine ofMake_eq fun hm => ?_
  rw [span_prod, show_raw _ _ (fit_of hm)]
  unfold below4
  split <;> rfl
/-! ### formed -/
def three (st : List Nat) : Push := [st.getD 0 0, st.getD 1 0, st.getD 2 0]
def cnt3 (g st : List Nat) : Nat := count3 g (st.getD 0 0) (st.getD 1 0) (st.getD 2 0)
def inForm3 : List (List Nat) → List Nat → Bool
  | [], _ => true
  | g :: gs, st => (decide (cnt3 g st < ix g 0) && decide (three st = form3 g (cnt3 g st))) && inForm3 gs (st.drop 3)
theorem pad_inj {n : Nat} {p q : Push} (h : p.length = q.length) (e : pad n p = pad n q) : p = q := (List.append_inj e h).1
theorem formed_row {g : List Nat} (hb : broken g = 0) {st : List Nat} (hf : ∀ j, j < 3 → st.getD j 0 ≤ ix g (1 + 2 * j)) :
    (decide (worthOf (rodOf g).decks ((List.range (rodOf g).decks.length).map fun (j : Nat) => st.getD j 0) < (rodOf g).ratio) && ((List.range (rodOf g).decks.length).map fun (j : Nat) => st.getD j 0) == formOf (rodOf g) (worthOf (rodOf g).decks ((List.range (rodOf g).decks.length).map fun (j : Nat) => st.getD j 0))) = (decide (cnt3 g st < ix g 0) && decide (three st = form3 g (cnt3 g st))) := by
  have hs := (broken_sound hb).1
  rw [worth_row hs hf, rodOf_ratio]
  show (decide (cnt3 g st < ix g 0) && _) = _
  by_cases hd : cnt3 g st < ix g 0
  · rw [decide_eq_true hd, Bool.true_and, Bool.true_and]
    have hl : ((List.range (rodOf g).decks.length).map fun (j : Nat) => st.getD j 0).length = dn g := by
      rw [List.length_map, List.length_range]
      exact (good_decks hs).1
    have e3 : three st = pad (3 - dn g) ((List.range (rodOf g).decks.length).map fun (j : Nat) => st.getD j 0) := (pad_three hs hf).symm
    rw [Bool.eq_iff_iff, beq_iff_eq, decide_eq_true_iff, e3]
    unfold form3
    constructor
    · intro e
      exact congrArg (pad (3 - dn g)) e
    · intro e
      exact pad_inj (hl.trans (form_len hb hd).symm) e
  · rw [decide_eq_false hd, Bool.false_and, Bool.false_and]
theorem stOf_len : ∀ (gs : List (List Nat)) (st : List Nat), (stOf gs st).length = gs.length
  | [], _ => rfl
  | g :: gs, st => congrArg (· + 1) (stOf_len gs (st.drop 3))
theorem formed_raw : ∀ (gs : List (List Nat)) (st : List Nat), AllFit gs → Fits gs st → (List.zip (gs.map rodOf) (stOf gs st)).all (fun (x : Rod × Push) => decide (worthOf x.1.decks x.2 < x.1.ratio) && x.2 == formOf x.1 (worthOf x.1.decks x.2)) = inForm3 gs st
  | [], _, _, _ => rfl
  | g :: gs, st, h, hf => by
    show ((decide (worthOf (rodOf g).decks ((List.range (rodOf g).decks.length).map fun (j : Nat) => st.getD j 0) < (rodOf g).ratio) && ((List.range (rodOf g).decks.length).map fun (j : Nat) => st.getD j 0) == formOf (rodOf g) (worthOf (rodOf g).decks ((List.range (rodOf g).decks.length).map fun (j : Nat) => st.getD j 0))) && (List.zip (gs.map rodOf) (stOf gs (st.drop 3))).all _) = _
    rw [formed_row (h g (List.mem_cons_self ..)) hf.1, formed_raw gs (st.drop 3) (fun x hx => h x (List.mem_cons_of_mem _ hx)) hf.2]
    rfl
theorem formed_eq (ns ss : List Int) : PyYqacaa.formed ns ss = onStanding (ns.map Int.toNat) (ss.map Int.toNat) fun gs st => [if inForm3 gs st = true then 1 else 0] := by
  show BdNeutral.told (Bd.ofStanding (ns.map Int.toNat) (ss.map Int.toNat) fun m s => .number (if Na.formed m s = true then 1 else 0)) = _
  refine ofStanding_eq fun hm hs => ?_
  have e : Na.formed ((cuts (ns.map Int.toNat)).map rodOf) (stOf (cuts (ns.map Int.toNat)) (ss.map Int.toNat)) = inForm3 (cuts (ns.map Int.toNat)) (ss.map Int.toNat) := by
    unfold Na.formed
    rw [stOf_len, List.length_map, beq_self_eq_true, Bool.true_and]
    exact formed_raw _ _ (fit_of hm) (fits_ok (good_of hm) hs)
  rw [e]
  split <;> rfl
/-! ### ways -/
theorem waysCall_eq (v : Int) (ns : List Int) : PyYqacaa.ways v ns = onMake (ns.map Int.toNat) fun gs => nums [cntF isZero (gs.map rodOf) v.toNat] := by
  show BdNeutral.told (Bd.ofMake (ns.map Int.toNat) fun m => .nums [Na.ways m v.toNat]) = _
  exact ofMake_eq fun hm => by rw [ways_cnt, told_nums]
/-- a rod more, by all three decks' pushes -/
def up3 (g : List Nat) (f : Nat → Nat) (u : Nat) : Nat := sumBy (fun p => above (rodOf g) f u (worthOf (D3 g) p)) (pushes (D3 g))
def cnt3F (f : Nat → Nat) : List (List Nat) → Nat → Nat
  | [], u => f u
  | g :: gs, u => up3 g (cnt3F f gs) u
theorem up3_eq {g : List Nat} (h : numsSound g = true) (f : Nat → Nat) (u : Nat) : upF (rodOf g) f u = up3 g f u := by
  unfold upF up3
  rw [p3_pushes h, sumBy_map]
  refine sumBy_congr fun p hp => ?_
  rw [worth_pad h ((push_len _ _ hp).trans (good_decks h).1)]
theorem cnt3F_eq (f : Nat → Nat) : ∀ (gs : List (List Nat)), AllGood gs → cntF f (gs.map rodOf) = cnt3F f gs
  | [], _ => rfl
  | g :: gs, h => by
    funext u
    show upF (rodOf g) (cntF f (gs.map rodOf)) u = up3 g (cnt3F f gs) u
    rw [cnt3F_eq f gs fun x hx => h x (List.mem_cons_of_mem _ hx), up3_eq (h g (List.mem_cons_self ..))]
end Bf
namespace Bf
open Na
/-! ### how many beads there are, deck by deck -/
def bds : List (List Nat) → List Nat
  | [] => []
  | g :: gs => ix g 1 :: ix g 3 :: ix g 5 :: bds gs
theorem bds_len : ∀ gs : List (List Nat), (bds gs).length = 3 * gs.length
  | [] => rfl
  | g :: gs => by
    show (bds gs).length + 1 + 1 + 1 = 3 * (gs.length + 1)
    rw [bds_len gs]
    omega
theorem bds_snoc : ∀ (gs : List (List Nat)) (g : List Nat), bds (gs ++ [g]) = bds gs ++ [ix g 1, ix g 3, ix g 5]
  | [], _ => rfl
  | x :: gs, g => by
    show ix x 1 :: ix x 3 :: ix x 5 :: bds (gs ++ [g]) = _
    rw [bds_snoc gs g]
    rfl
theorem bds_at : ∀ (gs : List (List Nat)) (k : Nat), k < 3 * gs.length → (bds gs)[k]? = some (ix (gs.getD (k / 3) []) (1 + 2 * (k % 3)))
  | [], k, h => absurd h (Nat.not_lt_zero _)
  | g :: gs, 0, _ => rfl
  | g :: gs, 1, _ => rfl
  | g :: gs, 2, _ => rfl
  | g :: gs, k + 3, h => by
    rw [show (k + 3) / 3 = k / 3 + 1 by omega, show (k + 3) % 3 = k % 3 by omega]
    exact bds_at gs k (by rw [List.length_cons] at h; omega)
theorem over_bds {gs : List (List Nat)} {st : List Nat} {k m p : Nat} (hk : k < 3 * gs.length) (hm : (bds gs)[k]? = some m) (hp : st[k]? = some p) : over gs st k = decide (m < p) := by
  rw [bds_at gs k hk] at hm
  unfold over
  rw [Option.some.inj hm, List.getD_eq_getElem?_getD, hp]
  rfl
/-! ### a standing, rod by rod -/
def cut3 (st : List Nat) : List (List Nat) := (List.range (st.length / 3)).map fun i => (st.drop (3 * i)).take 3
theorem cut3_len (st : List Nat) : (cut3 st).length = st.length / 3 := by
  unfold cut3
  rw [List.length_map, List.length_range]
theorem cut3_at {st : List Nat} {i : Nat} {q : List Nat} (h : (cut3 st)[i]? = some q) : q = [st.getD (3 * i) 0, st.getD (3 * i + 1) 0, st.getD (3 * i + 2) 0] ∧ 3 * i + 3 ≤ st.length := by
  have hi : i < st.length / 3 := by
    rw [← cut3_len]
    exact (List.getElem?_eq_some_iff.mp h).1
  unfold cut3 at h
  rw [List.getElem?_map, List.getElem?_range hi] at h
  have e : (st.drop (3 * i)).take 3 = q := Option.some.inj h
  refine ⟨?_, by omega⟩
  rw [← e]
  apply List.ext_getElem?
  intro j
  rw [List.getElem?_take]
  by_cases hj : j < 3
  · rw [if_pos hj, List.getElem?_drop]
    have lt : 3 * i + j < st.length := by omega
    rw [List.getElem?_eq_getElem lt]
    match j, hj with
    | 0, _ => simp [List.getD_eq_getElem?_getD, List.getElem?_eq_getElem (show 3 * i < st.length by omega)]
    | 1, _ => simp [List.getD_eq_getElem?_getD, List.getElem?_eq_getElem (show 3 * i + 1 < st.length by omega)]
    | 2, _ => simp [List.getD_eq_getElem?_getD, List.getElem?_eq_getElem (show 3 * i + 2 < st.length by omega)]
  · rw [if_neg hj]
    exact (List.getElem?_eq_none_iff.mpr (by simp; omega)).symm
theorem getD_drop (st : List Nat) (n j : Nat) : (st.drop n).getD j 0 = st.getD (n + j) 0 := by
  rw [List.getD_eq_getElem?_getD, List.getElem?_drop, List.getD_eq_getElem?_getD]
/-- the value so far and the next place, of the first i rods -/
def valAt (gs : List (List Nat)) (st : List Nat) : Nat → Nat
  | 0 => 0
  | i + 1 => valAt gs st i + count3 (gs.getD i []) (st.getD (3 * i) 0) (st.getD (3 * i + 1) 0) (st.getD (3 * i + 2) 0) * prodR (gs.take i)
theorem valAt_succ {gs : List (List Nat)} {st : List Nat} {i : Nat} {g : List Nat} (h : gs[i]? = some g) : valAt gs st (i + 1) = valAt gs st i + count3 g (st.getD (3 * i) 0) (st.getD (3 * i + 1) 0) (st.getD (3 * i + 2) 0) * prodR (gs.take i) := by
  have e : gs.getD i [] = g := by
    rw [List.getD_eq_getElem?_getD, h]
    rfl
  rw [← e]
  rfl
theorem prodR_cons (g : List Nat) (gs : List (List Nat)) : prodR (g :: gs) = ix g 0 * prodR gs := by
  unfold prodR
  rw [prod_span, prod_span, Nat.one_mul, Nat.one_mul]
  rfl
theorem prodR_snoc {gs : List (List Nat)} {i : Nat} {g : List Nat} (h : gs[i]? = some g) : prodR (gs.take (i + 1)) = prodR (gs.take i) * ix g 0 := by
  unfold prodR
  rw [List.take_add_one, h, List.foldl_append]
  rfl
theorem valAt_cons (g : List Nat) (gs : List (List Nat)) (st : List Nat) : ∀ i : Nat, valAt (g :: gs) st (i + 1) = count3 g (st.getD 0 0) (st.getD 1 0) (st.getD 2 0) + ix g 0 * valAt gs (st.drop 3) i
  | 0 => by
    show 0 + count3 g _ _ _ * prodR [] = _
    unfold valAt prodR
    simp
  | i + 1 => by
    show valAt (g :: gs) st (i + 1) + count3 (gs.getD i []) (st.getD (3 * (i + 1)) 0) (st.getD (3 * (i + 1) + 1) 0) (st.getD (3 * (i + 1) + 2) 0) * prodR (g :: gs.take i) = _
    rw [valAt_cons g gs st i]
    show _ = _ + ix g 0 * (valAt gs (st.drop 3) i + count3 (gs.getD i []) ((st.drop 3).getD (3 * i) 0) ((st.drop 3).getD (3 * i + 1) 0) ((st.drop 3).getD (3 * i + 2) 0) * prodR (gs.take i))
    rw [getD_drop, getD_drop, getD_drop, prodR_cons, show 3 * (i + 1) = 3 + 3 * i by omega, show 3 + 3 * i + 1 = 3 + (3 * i + 1) by omega, show 3 + 3 * i + 2 = 3 + (3 * i + 2) by omega, Nat.mul_add, Nat.add_assoc]
    congr 2
    rw [Nat.mul_left_comm]
theorem valAt_all : ∀ (gs : List (List Nat)) (st : List Nat), valAt gs st gs.length = rawVal gs st
  | [], _ => rfl
  | g :: gs, st => by
    show valAt (g :: gs) st (gs.length + 1) = count3 g (st.getD 0 0) (st.getD 1 0) (st.getD 2 0) + ix g 0 * rawVal gs (st.drop 3)
    rw [valAt_cons, valAt_all gs (st.drop 3)]
/-! ### digits one by one -/
def lefts (gs : List (List Nat)) (u : Nat) : Nat := gs.foldl (fun v g => v / ix g 0) u
theorem digs_snoc : ∀ (gs : List (List Nat)) (g : List Nat) (u : Nat), digs (gs ++ [g]) u = digs gs u ++ [lefts gs u % ix g 0]
  | [], g, u => rfl
  | x :: gs, g, u => by
    show u % ix x 0 :: digs (gs ++ [g]) (u / ix x 0) = _
    rw [digs_snoc gs g]
    rfl
theorem digs_len : ∀ (gs : List (List Nat)) (u : Nat), (digs gs u).length = gs.length
  | [], _ => rfl
  | x :: gs, u => congrArg (· + 1) (digs_len gs _)
theorem shown3_snoc : ∀ (gs : List (List Nat)) (g : List Nat) (u : Nat), shown3 (gs ++ [g]) u = shown3 gs u ++ form3 g (lefts gs u % ix g 0)
  | [], g, u => by
    show form3 g (u % ix g 0) ++ [] = [] ++ form3 g (u % ix g 0)
    simp
  | x :: gs, g, u => by
    show form3 x (u % ix x 0) ++ shown3 (gs ++ [g]) (u / ix x 0) = (form3 x (u % ix x 0) ++ shown3 gs (u / ix x 0)) ++ _
    rw [shown3_snoc gs g, List.append_assoc]
    rfl
theorem digs_at : ∀ (gs : List (List Nat)) (u i : Nat) (g : List Nat), gs[i]? = some g → (digs gs u)[i]? = some (lefts (gs.take i) u % ix g 0)
  | x :: gs, u, 0, g, h => by
    obtain rfl := Option.some.inj h
    rfl
  | x :: gs, u, i + 1, g, h => digs_at gs (u / ix x 0) i g h
/-! ### in form, rod by rod -/
def rodForm (g : List Nat) (st : List Nat) (i : Nat) : Bool := decide (count3 g (st.getD (3 * i) 0) (st.getD (3 * i + 1) 0) (st.getD (3 * i + 2) 0) < ix g 0) && decide ([st.getD (3 * i) 0, st.getD (3 * i + 1) 0, st.getD (3 * i + 2) 0] = form3 g (count3 g (st.getD (3 * i) 0) (st.getD (3 * i + 1) 0) (st.getD (3 * i + 2) 0)))
theorem inForm3_iff : ∀ (gs : List (List Nat)) (st : List Nat), inForm3 gs st = true ↔ ∀ (i : Nat) (g : List Nat), gs[i]? = some g → rodForm g st i = true
  | [], st => ⟨fun _ i g h => by simp at h, fun _ => rfl⟩
  | x :: gs, st => by
    show (rodForm x st 0 && inForm3 gs (st.drop 3)) = true ↔ _
    rw [Bool.and_eq_true, inForm3_iff gs (st.drop 3)]
    have e : ∀ (g : List Nat) (i : Nat), rodForm g (st.drop 3) i = rodForm g st (i + 1) := fun g i => by
      unfold rodForm
      rw [getD_drop, getD_drop, getD_drop, show 3 * (i + 1) = 3 + 3 * i by omega, show 3 + 3 * i + 1 = 3 + (3 * i + 1) by omega, show 3 + 3 * i + 2 = 3 + (3 * i + 2) by omega]
    constructor
    · rintro ⟨h1, h2⟩ i g hi
      match i, hi with
      | 0, hi =>
        obtain rfl := Option.some.inj hi
        exact h1
      | i + 1, hi =>
        rw [← e]
        exact h2 i g hi
    · intro h
      exact ⟨h 0 x rfl, fun i g hi => by rw [e]; exact h (i + 1) g hi⟩
/-! ### a digit's form, by a search from most beads of deck 0 down -/
def mp (b w d : Nat) : Nat := if b = 0 then 0 else min b (d / w)
theorem mp_le (b w d : Nat) : mp b w d ≤ b := by
  unfold mp
  split
  · omega
  · exact Nat.min_le_left _ _
theorem mp_mul (b w d : Nat) : mp b w d * w ≤ d := by
  unfold mp
  split
  · omega
  · exact Nat.le_trans (Nat.mul_le_mul_right w (Nat.min_le_right _ _)) (Nat.div_mul_le_self d w)
theorem le_mp {b w d x : Nat} (hw : b ≠ 0 → w ≠ 0) (hx : x ≤ b) (hd : x * w ≤ d) : x ≤ mp b w d := by
  unfold mp
  split
  · omega
  · rename_i hb
    exact Nat.le_min.mpr ⟨hx, (Nat.le_div_iff_mul_le (Nat.pos_of_ne_zero (hw hb))).mpr hd⟩
theorem mp_exact {b w d x : Nat} (hw : b ≠ 0 → w ≠ 0) (hx : x ≤ b) (hd : x * w = d) : mp b w d = x := by
  have h1 := le_mp hw hx (Nat.le_of_eq hd)
  have h2 := mp_mul b w d
  by_cases hb : b = 0
  · unfold mp
    rw [if_pos hb]
    omega
  · have := Nat.pos_of_ne_zero (hw hb)
    rw [← hd] at h2
    exact Nat.le_antisymm (Nat.le_of_mul_le_mul_right (hd ▸ h2) this) h1
/-- the best so far, of the pushes that V holds of -/
def Best (g : List Nat) (d : Nat) (V : Nat → Nat → Prop) (t : List Nat) : Prop :=
  (t = [] ∧ ∀ a b c, a ≤ ix g 1 → b ≤ ix g 3 → c ≤ ix g 5 → count3 g a b c = d → ¬V a b) ∨
  ∃ x y z, t = [x, y, z] ∧ x ≤ ix g 1 ∧ y ≤ ix g 3 ∧ z ≤ ix g 5 ∧ count3 g x y z = d ∧ V x y ∧ ∀ a b c, a ≤ ix g 1 → b ≤ ix g 3 → c ≤ ix g 5 → count3 g a b c = d → V a b → nicer [a, b, c] [x, y, z] = false
theorem Best.to {g : List Nat} {d : Nat} {V W : Nat → Nat → Prop} {t : List Nat} (h : Best g d V t) (e : ∀ a b c, a ≤ ix g 1 → b ≤ ix g 3 → c ≤ ix g 5 → count3 g a b c = d → (V a b ↔ W a b)) : Best g d W t := by
  rcases h with ⟨h1, h2⟩ | ⟨x, y, z, h1, hx, hy, hz, hc, hv, hb⟩
  · exact .inl ⟨h1, fun a b c ha hb hc hd hw => h2 a b c ha hb hc hd ((e a b c ha hb hc hd).mpr hw)⟩
  · exact .inr ⟨x, y, z, h1, hx, hy, hz, hc, (e x y z hx hy hz hc).mp hv, fun a b c ha hb2 hc2 hd hw => hb a b c ha hb2 hc2 hd ((e a b c ha hb2 hc2 hd).mpr hw)⟩
theorem total_three (a b c : Nat) : total [a, b, c] = a + b + c := by
  show a + (b + (c + 0)) = _
  omega
theorem nicer_three {a b c x y z : Nat} : nicer [a, b, c] [x, y, z] = false ↔ ¬(a + b + c < x + y + z ∨ (a + b + c = x + y + z ∧ (x < a ∨ (x = a ∧ (y < b ∨ (y = b ∧ z < c)))))) := by
  rw [← Bool.not_eq_true, nicer_iff, total_three, total_three, below_cons, below_cons, below_cons]
  show ¬(_ ∨ _ ∧ (_ ∨ _ ∧ (_ ∨ _ ∧ (_ ∨ _ ∧ false = true)))) ↔ _
  simp
theorem Best.three {g : List Nat} {d : Nat} {V : Nat → Nat → Prop} {t : List Nat} (h : Best g d V t) (hs : (∃ a b c, a ≤ ix g 1 ∧ b ≤ ix g 3 ∧ c ≤ ix g 5 ∧ count3 g a b c = d ∧ V a b)) : t ≠ [] := by
  rintro rfl
  rcases h with ⟨_, h2⟩ | ⟨x, y, z, h1, _⟩
  · obtain ⟨a, b, c, ha, hb, hc, hd, hv⟩ := hs
    exact h2 a b c ha hb hc hd hv
  · cases h1
/-- one more push is looked at: the only one of a beads of deck 0 and b of deck 1 that may count d -/
theorem Best.turn {g : List Nat} {d : Nat} {V W : Nat → Nat → Prop} {t : List Nat} {a b c : Nat} (h : Best g d V t) (ha : a ≤ ix g 1) (hb : b ≤ ix g 3) (hc : c ≤ ix g 5)
    (hu : ∀ z, z ≤ ix g 5 → count3 g a b z = d → z = c) (hW : ∀ x y, W x y ↔ V x y ∨ (x = a ∧ y = b)) (hl : ∀ x y, V x y → a < x ∨ (a = x ∧ b < y)) :
    Best g d W (if count3 g a b c = d ∧ (t = [] ∨ a + b + c < total t) then [a, b, c] else t) := by
  have hWV : ∀ x y, V x y → W x y := fun x y h => (hW x y).mpr (.inl h)
  by_cases e : count3 g a b c = d
  · rcases h with ⟨h1, h2⟩ | ⟨x, y, z, h1, hx, hy, hz, hcn, hv, hbst⟩
    · rw [if_pos ⟨e, .inl h1⟩]
      refine .inr ⟨a, b, c, rfl, ha, hb, hc, e, (hW a b).mpr (.inr ⟨rfl, rfl⟩), fun x y z hx hy hz hd hw => ?_⟩
      rcases (hW x y).mp hw with hv | ⟨rfl, rfl⟩
      · exact absurd hv (h2 x y z hx hy hz hd)
      · obtain rfl := hu z hz hd
        exact nicer_self _
    · subst h1
      rw [total_three]
      by_cases lt : a + b + c < x + y + z
      · rw [if_pos ⟨e, .inr lt⟩]
        refine .inr ⟨a, b, c, rfl, ha, hb, hc, e, (hW a b).mpr (.inr ⟨rfl, rfl⟩), fun x' y' z' hx' hy' hz' hd' hw => ?_⟩
        rcases (hW x' y').mp hw with hv' | ⟨rfl, rfl⟩
        · have := nicer_three.mp (hbst x' y' z' hx' hy' hz' hd' hv')
          rw [nicer_three]
          omega
        · obtain rfl := hu z' hz' hd'
          exact nicer_self _
      · rw [if_neg (by rintro ⟨_, h | h⟩; cases h; exact lt h)]
        refine .inr ⟨x, y, z, rfl, hx, hy, hz, hcn, hWV x y hv, fun x' y' z' hx' hy' hz' hd' hw => ?_⟩
        rcases (hW x' y').mp hw with hv' | ⟨rfl, rfl⟩
        · exact hbst x' y' z' hx' hy' hz' hd' hv'
        · obtain rfl := hu z' hz' hd'
          have := hl x y hv
          rw [nicer_three]
          omega
  · rw [if_neg fun z => e z.1]
    refine h.to fun x y z hx hy hz hd => ⟨hWV x y, fun hw => ?_⟩
    rcases (hW x y).mp hw with hv | ⟨rfl, rfl⟩
    · exact hv
    · obtain rfl := hu z hz hd
      exact absurd hd e
theorem Best.form {g : List Nat} {d : Nat} {V : Nat → Nat → Prop} {t : List Nat} (h : Best g d V t) (hg : broken g = 0) (hd : d < ix g 0) (hV : ∀ a b, V a b) : t = form3 g d := by
  obtain ⟨hs, _, hp⟩ := broken_sound hg
  obtain ⟨m1, m2, _⟩ := form3_some hs hp hd
  rcases h with ⟨h1, h2⟩ | ⟨x, y, z, h1, hx, hy, hz, hc, hv, hb⟩
  · obtain ⟨a, b, c, ha, hb, hc, e⟩ := mem_p3.mp m1
    rw [e, worth_three] at m2
    exact absurd (hV a b) (h2 a b c ha hb hc m2)
  · subst h1
    refine (form3_is hs (mem_p3.mpr ⟨x, y, z, hx, hy, hz, rfl⟩) (by rw [worth_three]; exact hc) fun q hq hw => ?_).symm
    obtain ⟨a, b, c, ha, hb2, hc2, rfl⟩ := mem_p3.mp hq
    rw [worth_three] at hw
    exact hb a b c ha hb2 hc2 hw (hV a b)
theorem form3_len {g : List Nat} {d : Nat} (hg : broken g = 0) (hd : d < ix g 0) : (form3 g d).length = 3 := by
  obtain ⟨hs, _, hp⟩ := broken_sound hg
  obtain ⟨a, b, c, _, _, _, e⟩ := mem_p3.mp (form3_some hs hp hd).1
  rw [e]
  rfl
theorem shown3_len : ∀ (gs : List (List Nat)) (u : Nat), AllFit gs → (shown3 gs u).length = 3 * gs.length
  | [], _, _ => rfl
  | g :: gs, u, h => by
    show (form3 g (u % ix g 0) ++ shown3 gs (u / ix g 0)).length = 3 * (gs.length + 1)
    have hg := h g (List.mem_cons_self ..)
    rw [List.length_append, form3_len hg (Nat.mod_lt u (ratio_pos hg)), shown3_len gs _ fun x hx => h x (List.mem_cons_of_mem _ hx)]
    omega
theorem count3_lt {g : List Nat} {a b c : Nat} (h7 : g.length = 7) (hb : ∀ x ∈ g, x < 4294967296) (h1 : a < 4294967296) (h2 : b < 4294967296) (h3 : c < 4294967296) : count3 g a b c < 2 ^ 66 := by
  have m : ∀ x j : Nat, x < 4294967296 → x * ix g j < 4294967296 * 4294967296 := fun x j hx => Nat.lt_of_le_of_lt (Nat.mul_le_mul_right _ (Nat.le_of_lt hx)) (Nat.mul_lt_mul_of_pos_left (worthT_le h7 hb j) (by decide))
  have m1 := m a 2 h1
  have m2 := m b 4 h2
  have m3 := m c 6 h3
  unfold count3
  omega
theorem stand_ok {l st : List Nat} (hm : mfault l = []) (hs : sfault (cuts l) st = []) : st.length = 3 * (cuts l).length ∧ ∀ j, st.getD j 0 < 4294967296 := by
  obtain ⟨_, h2, h3⟩ := standing_ok (good_of hm) hs
  refine ⟨h2, fun j => ?_⟩
  by_cases hj : j < st.length
  · have hov := h3 j hj
    have jg : j / 3 < (cuts l).length := by omega
    have gm : (cuts l).getD (j / 3) [] ∈ cuts l := by
      rw [List.getD_eq_getElem?_getD, List.getElem?_eq_getElem jg]
      exact List.getElem_mem jg
    have sd := (nums_facts (good_of hm _ gm)).2.2.1
    have key : ∀ k, k < 3 → ix ((cuts l).getD (j / 3) []) (1 + 2 * k) ≤ 15 := fun k hk => by
      match k, hk with
      | 0, _ => exact (sound_le (sd (ix ((cuts l).getD (j / 3) []) 1, ix ((cuts l).getD (j / 3) []) 2) (List.mem_cons_self ..))).1
      | 1, _ => exact (sound_le (sd (ix ((cuts l).getD (j / 3) []) 3, ix ((cuts l).getD (j / 3) []) 4) (List.mem_cons_of_mem _ (List.mem_cons_self ..)))).1
      | 2, _ => exact (sound_le (sd (ix ((cuts l).getD (j / 3) []) 5, ix ((cuts l).getD (j / 3) []) 6) (List.mem_cons_of_mem _ (List.mem_cons_of_mem _ (List.mem_cons_self ..))))).1
    unfold over at hov
    have := of_decide_eq_false hov
    have := key (j % 3) (by omega)
    omega
  · rw [List.getD_eq_getElem?_getD, List.getElem?_eq_none_iff.mpr (by omega)]
    decide
end Bf
namespace Bf
open PySem PySem.Spec PyProof.Rows L2
open Evl

/-! ### a def as callers see it -/
structure Def (P : Program) (w : World) (K : PySem.W.Frag) (mg : Str → Option Value) (base : Heap) (name : Str) (k : Nat) (ps : List Str) (sp : Sp) : Prop where
  ex : ∃ (f : Addr) (fd : FuncData), mg name = some (.ref f) ∧ PySem.W.keepIn K (.ref f) = true ∧ Binds K fd ps [] ∧ FnOk P w K mg base CX0 k f fd ps sp
section
variable {X : Cx}
theorem pe_callD {name : Str} {j k : Nat} {ps : List Str} {sp : Sp} {p pos : Pos} {e : Expr} {es : List Expr} {t : TA} (D : Def X.prog X.w X.K X.mg X.base name k ps sp) (hr : Room j X.A) (hk : k ≤ j) (ha : PA X (e :: es) t) (hg : Gl X name := by rfl)
    (hdb : (name == ("__debug__" : Str)) = false := by decide) (he : starEach (e :: es) X.env = (false, eval e X.env) :: starEach es X.env := by rfl) (hpl : (backTo pos (starEach es X.env)).any (·.1) = false := by rfl) :
    PE X (.Call (.Name name p) (e :: es) [] pos) (tCall sp [] E0 t) := by
  obtain ⟨f, fd, h1, h2, h3, h4⟩ := D.ex
  exact pe_call (hdb := hdb) h4 (hr.mono hk) hg h1 h2 h3 .nil pass0 ha (he := he) (hpl := hpl)
theorem pe_gint {x : Str} {i : Int} {pos : Pos} (h : ∃ t, X.mg x = some (.int i t)) (hg : Gl X x := by rfl) (hdb : (x == ("__debug__" : Str)) = false := by decide) : PE X (.Name x pos) (tC (.int i)) := by
  obtain ⟨t, h⟩ := h
  exact pe_glob hg h ⟨_, rfl⟩ hdb
end

/-! ### what a value stands for -/
structure Rep (α : Type) where
  at_ : Hp → V → α → Prop
  mono : ∀ {H H' : Hp} {v : V} {a : α}, Ex H H' → at_ H v a → at_ H' v a
abbrev natV (n : Nat) : V := .int (n : Int)
def natR : Rep Nat := ⟨fun _ v n => v = natV n, fun _ h => h⟩
def pairR {α β : Type} (A : Rep α) (B : Rep β) : Rep (α × β) := ⟨fun H v a => ∃ t x y, v = .ref t ∧ H t = some (.tup [x, y]) ∧ A.at_ H x a.1 ∧ B.at_ H y a.2,
  fun e ⟨t, x, y, h1, h2, h3, h4⟩ => ⟨t, x, y, h1, e _ _ h2, A.mono e h3, B.mono e h4⟩⟩
def Items {α : Type} (A : Rep α) (H : Hp) (xs : List V) (l : List α) : Prop := xs.length = l.length ∧ ∀ (i : Nat) (a : α), l[i]? = some a → ∃ x, xs[i]? = some x ∧ A.at_ H x a
theorem Items.mono {α : Type} {A : Rep α} {H H' : Hp} {xs : List V} {l : List α} (e : Ex H H') (h : Items A H xs l) : Items A H' xs l :=
  ⟨h.1, fun i a hi => let ⟨x, h1, h2⟩ := h.2 i a hi; ⟨x, h1, A.mono e h2⟩⟩
theorem Items.nil {α : Type} {A : Rep α} {H : Hp} : Items A H [] [] := ⟨rfl, fun i a h => by simp at h⟩
theorem Items.cons {α : Type} {A : Rep α} {H : Hp} {x : V} {a : α} {xs : List V} {l : List α} (h1 : A.at_ H x a) (h : Items A H xs l) : Items A H (x :: xs) (a :: l) :=
  ⟨congrArg (· + 1) h.1, fun i b hi => match i, hi with
    | 0, hi => ⟨x, rfl, (Option.some.inj hi) ▸ h1⟩
    | i + 1, hi => h.2 i b hi⟩
theorem Items.snoc {α : Type} {A : Rep α} {H : Hp} {x : V} {a : α} {xs : List V} {l : List α} (h : Items A H xs l) (h1 : A.at_ H x a) : Items A H (xs ++ [x]) (l ++ [a]) := by
  refine ⟨by simp [h.1], fun i b hi => ?_⟩
  by_cases hl : i < l.length
  · rw [List.getElem?_append_left hl] at hi
    obtain ⟨y, h2, h3⟩ := h.2 i b hi
    exact ⟨y, by rw [List.getElem?_append_left (by rw [h.1]; exact hl)]; exact h2, h3⟩
  · rw [List.getElem?_append_right (by omega)] at hi
    have e : i - l.length = 0 := by
      have := (List.getElem?_eq_some_iff.mp hi).1
      simp at this
      omega
    rw [e] at hi
    have eb : a = b := Option.some.inj hi
    subst eb
    refine ⟨x, ?_, h1⟩
    rw [List.getElem?_append_right (by rw [h.1]; omega), h.1, e]
    rfl
theorem items_nat {H : Hp} {xs : List V} {l : List Nat} (h : Items natR H xs l) : xs = l.map natV := by
  apply List.ext_getElem?
  intro i
  rw [List.getElem?_map]
  cases e : l[i]? with
  | none =>
    rw [List.getElem?_eq_none_iff] at e
    rw [List.getElem?_eq_none_iff.mpr (by rw [h.1]; exact e)]
    rfl
  | some a =>
    obtain ⟨x, h1, h2⟩ := h.2 i a e
    rw [h1]
    exact congrArg some h2
theorem nat_items {H : Hp} (l : List Nat) : Items natR H (l.map natV) l :=
  ⟨List.length_map _, fun i a h => ⟨natV a, by rw [List.getElem?_map, h]; rfl, rfl⟩⟩
/-- a list that can be read -/
def seqR {α : Type} (K : PySem.W.Frag) (A : Rep α) : Rep (List α) := ⟨fun H v l => ∃ p xs, v = .ref p ∧ SqL K H p xs ∧ Items A H xs l,
  fun e ⟨p, xs, h1, h2, h3⟩ => ⟨p, xs, h1, ex_l e h2, h3.mono e⟩⟩
/-- a list that the program made -/
def lstR {α : Type} (A : Rep α) : Rep (List α) := ⟨fun H v l => ∃ p xs, v = .ref p ∧ H p = some (.lst xs) ∧ Items A H xs l,
  fun e ⟨p, xs, h1, h2, h3⟩ => ⟨p, xs, h1, e _ _ h2, h3.mono e⟩⟩
theorem lst_seq {α : Type} {K : PySem.W.Frag} {A : Rep α} {H : Hp} {v : V} {l : List α} (h : (lstR A).at_ H v l) : (seqR K A).at_ H v l :=
  let ⟨p, xs, h1, h2, h3⟩ := h
  ⟨p, xs, h1, sq_of h2, h3⟩
theorem nats_at {K : PySem.W.Frag} {H : Hp} {v : V} {l : List Nat} : (seqR K natR).at_ H v l ↔ ∃ p, v = .ref p ∧ SqL K H p (l.map natV) := by
  constructor
  · rintro ⟨p, xs, h1, h2, h3⟩
    rw [items_nat h3] at h2
    exact ⟨p, h1, h2⟩
  · rintro ⟨p, h1, h2⟩
    exact ⟨p, _, h1, h2, nat_items l⟩

def EvR {α : Type} (R : Rep α) (te : TE) (σ : L2.St) (H : Hp) (a : α) : Prop := ∀ H1, Ex H H1 → ∀ Q : VK, (∀ v H2, Ex H1 H2 → R.at_ H2 v a → Q v H2) → te σ H1 Q
def RetR {α : Type} (R : Rep α) (a : α) (H : Hp) (Q : VK) : Prop := ∀ v H2, Ex H H2 → R.at_ H2 v a → Q v H2
section
variable {K : PySem.W.Frag} {σ : L2.St} {H H' : Hp} {ta tb te tl : TE} {t u : TT} {x y z v : V} {α β : Type} {R : Rep α} {D : Ends} {tu tw tz : TS} {g : TG}
theorem EvR.mono {a : α} (e : Ex H H') (h : EvR R te σ H a) : EvR R te σ H' a := fun H1 a Q q => h H1 (e.trans a) Q q
theorem er_ev {a : α} (h : Ev te σ H v) (ha : R.at_ H v a) : EvR R te σ H a := fun H1 e Q q => h H1 e _ fun H2 e2 => q v H2 e2 (R.mono (e.trans e2) ha)
theorem er_nat {n : Nat} (h : Ev te σ H (natV n)) : EvR natR te σ H n := er_ev h rfl
theorem ev_nat {n : Nat} (h : EvR natR te σ H n) : Ev te σ H (natV n) := fun H1 e Q q => h H1 e _ fun v H2 e2 hv => by
  obtain rfl : v = natV n := hv
  exact q H2 e2
theorem er_nats {a : Addr} {l : List Nat} (h : Ev te σ H (.ref a)) (hs : SqL K H a (l.map natV)) : EvR (seqR K natR) te σ H l := er_ev h (nats_at.mpr ⟨a, rfl, hs⟩)
theorem er_tup {S : Rep β} {a : α} {b : β} (ha : EvR R ta σ H a) (hb : EvR S tb σ H b) : EvR (pairR R S) (tTup (tCons ta (tCons tb tNil))) σ H (a, b) := fun H1 e Q q =>
  ha H1 e _ fun x H2 e2 hx => hb H2 (e.trans e2) _ fun y H3 e3 hy => ⟨sz_of (by show 2 ≤ 100000; decide), fun p hp =>
    q _ _ ((e2.trans e3).trans (Ex.new hp)) ⟨p, x, y, rfl, upd_same, R.mono (e3.trans (Ex.new hp)) hx, S.mono (Ex.new hp) hy⟩⟩
/-- the items of a written list -/
def EvI (R : Rep α) (ta : TA) (σ : L2.St) (H : Hp) (l : List α) : Prop := ∀ H1, Ex H H1 → ∀ Q : List V → Hp → Prop, (∀ xs H2, Ex H1 H2 → Items R H2 xs l → Q xs H2) → ta σ H1 Q
theorem ei_nil : EvI R tNil σ H [] := fun H1 _ _ q => q [] H1 (Ex.refl H1) Items.nil
theorem ei_cons {a : α} {l : List α} {tr : TA} (h : EvR R ta σ H a) (hr : EvI R tr σ H l) : EvI R (tCons ta tr) σ H (a :: l) := fun H1 e _ q =>
  h H1 e _ fun x H2 e2 hx => hr H2 (e.trans e2) _ fun xs H3 e3 hxs => q _ H3 (e2.trans e3) (hxs.cons (R.mono e3 hx))
theorem er_lst {l : List α} {ta : TA} (h : EvI R ta σ H l) (hl : l.length ≤ 100000) : EvR (lstR R) (tLst ta) σ H l := fun H1 e _ q =>
  h H1 e _ fun xs H2 e2 hx => ⟨sz_of (by rw [hx.1]; exact hl), fun p hp => q _ _ (e2.trans (Ex.new hp)) ⟨p, xs, rfl, upd_same, hx.mono (Ex.new hp)⟩⟩
/-- the arguments of a call, one by one -/
def EvC (ta : TA) (σ : L2.St) (H : Hp) (P : List V → Hp → Prop) : Prop := ∀ H1, Ex H H1 → ∀ Q : List V → Hp → Prop, (∀ vs H2, Ex H1 H2 → P vs H2 → Q vs H2) → ta σ H1 Q
theorem ec_nil : EvC tNil σ H fun vs _ => vs = [] := fun H1 _ _ q => q [] H1 (Ex.refl H1) rfl
theorem ec_cons {a : α} {tr : TA} {P : List V → Hp → Prop} (h : EvR R ta σ H a) (hr : EvC tr σ H P) : EvC (tCons ta tr) σ H fun vs H2 => ∃ x r, vs = x :: r ∧ R.at_ H2 x a ∧ P r H2 := fun H1 e _ q =>
  h H1 e _ fun x H2 e2 hx => hr H2 (e.trans e2) _ fun r H3 e3 hr3 => q _ H3 (e2.trans e3) ⟨x, r, rfl, R.mono e3 hx, hr3⟩
theorem er_call {a : α} {sp : Sp} {E : XK} {ta : TA} {P : List V → Hp → Prop} (h : EvC ta σ H P) (hs : ∀ vs H1, Ex H H1 → P vs H1 → ∀ Q : VK, RetR R a H1 Q → ∀ E, sp vs H1 Q E) : EvR R (tCall sp [] E ta) σ H a := fun H1 e Q q =>
  h H1 e _ fun vs H2 e2 hp => by
    show sp (vs ++ []) H2 Q E
    rw [List.append_nil]
    exact hs vs H2 (e.trans e2) hp Q (fun v H3 e3 hv => q v H3 (e2.trans e3) hv) E
theorem ev_call1 {sp : Sp} {E : XK} {ta : TA} {P : List V → Hp → Prop} (h : EvC ta σ H P) (hs : ∀ vs H1, Ex H H1 → P vs H1 → ∀ Q : VK, RetV v H1 Q → ∀ E, sp vs H1 Q E) : Ev (tCall sp [] E ta) σ H v := fun H1 e Q q =>
  h H1 e _ fun vs H2 e2 hp => by
    show sp (vs ++ []) H2 Q E
    rw [List.append_nil]
    exact hs vs H2 (e.trans e2) hp Q (fun H3 e3 => q H3 (e2.trans e3)) E
theorem el_call1 {sp : Sp} {E : XK} {ta : TA} {xs : List V} {P : List V → Hp → Prop} (h : EvC ta σ H P) (hs : ∀ vs H1, Ex H H1 → P vs H1 → ∀ Q : VK, RetL xs H1 Q → ∀ E, sp vs H1 Q E) : EvL (tCall sp [] E ta) σ H xs := fun H1 e Q q =>
  h H1 e _ fun vs H2 e2 hp => by
    show sp (vs ++ []) H2 Q E
    rw [List.append_nil]
    exact hs vs H2 (e.trans e2) hp Q (fun p H3 hp e3 h3 => q p H3 (fresh_back e2 hp) (e2.trans e3) h3) E
/-! statements -/
theorem s_asgR {i : Nat} {a : α} (h : EvR R te σ H a) (k : ∀ v H1, Ex H H1 → R.at_ H1 v a → D.nx (σ.set i (some v)) H1) : tAsg te (gName i) D σ H := h H (Ex.refl H) _ fun v H1 e hv => k v H1 e hv
theorem q_asgR {i : Nat} {a : α} (h : EvR R te σ H a) (k : ∀ v H1, Ex H H1 → R.at_ H1 v a → tz D (σ.set i (some v)) H1) : tSeq (tAsg te (gName i)) tz D σ H := s_asgR (D := { D with nx := tz D }) h k
theorem s_retR {a : α} (h : EvR R te σ H a) (k : RetR R a H D.rt) : tRet te D σ H := h H (Ex.refl H) _ k
theorem RetR.go {a : α} {Q : VK} (k : RetR R a H Q) (e : Ex H H') : RetR R a H' Q := fun v H2 e2 hv => k v H2 (e.trans e2) hv
/-- a loop over a list that is read -/
theorem s_forR {l : List α} (h : EvR (seqR K R) tl σ H l) (Pv : Nat → L2.St → Hp → Prop) (h0 : ∀ H1, Ex H H1 → Pv 0 σ H1)
    (hs : ∀ B i a v σ' H', Ex H B → Ex B H' → l[i]? = some a → R.at_ H' v a → Pv i σ' H' → g v σ' H' fun σ2 H2 => tu { D with nx := fun σ3 H3 => Ex B H3 ∧ Pv (i + 1) σ3 H3, ct := fun σ3 H3 => Ex B H3 ∧ Pv (i + 1) σ3 H3, bk := D.nx } σ2 H2)
    (hd : ∀ σ' H', Ex H H' → Pv l.length σ' H' → D.nx σ' H') : tFor (iList K tl) g tu D σ H := by
  refine h H (Ex.refl H) _ fun w H1 e1 hw => ?_
  obtain ⟨p, xs, rfl, hp, hx⟩ := hw
  refine ⟨p, rfl, ⟨xs, hp⟩, for_list (xs := xs) (fun i σ' H' => Ex H1 H' ∧ Pv i σ' H') ⟨Ex.refl H1, h0 H1 e1⟩ (fun i σ' H' _ q => ex_l q.1 hp) (fun i x σ' H' hi q => ?_) (fun σ' H' q => hd σ' H' (e1.trans q.1) (by rw [← hx.1]; exact q.2))⟩
  have hil : i < l.length := by
    rw [← hx.1]
    exact (List.getElem?_eq_some_iff.mp hi).1
  obtain ⟨x', h1, h2⟩ := hx.2 i _ (List.getElem?_eq_getElem hil)
  have ex : x = x' := Option.some.inj (hi.symm.trans h1)
  subst ex
  exact hs H1 i _ x σ' H' e1 q.1 (List.getElem?_eq_getElem hil) (R.mono q.1 h2) q.2
theorem q_forR {l : List α} (h : EvR (seqR K R) tl σ H l) (Pv : Nat → L2.St → Hp → Prop) (h0 : ∀ H1, Ex H H1 → Pv 0 σ H1)
    (hs : ∀ B i a v σ' H', Ex H B → Ex B H' → l[i]? = some a → R.at_ H' v a → Pv i σ' H' → g v σ' H' fun σ2 H2 => tu { D with nx := fun σ3 H3 => Ex B H3 ∧ Pv (i + 1) σ3 H3, ct := fun σ3 H3 => Ex B H3 ∧ Pv (i + 1) σ3 H3, bk := tz D } σ2 H2)
    (hd : ∀ σ' H', Ex H H' → Pv l.length σ' H' → tz D σ' H') : tSeq (tFor (iList K tl) g tu) tz D σ H := s_forR (D := { D with nx := tz D }) h Pv h0 hs hd
/-- for x, y in ..: a list of pairs -/
theorem q_forP {S : Rep β} {l : List (α × β)} {i1 i2 : Nat} (h : EvR (seqR K (pairR R S)) tl σ H l) (Pv : Nat → L2.St → Hp → Prop) (h0 : ∀ H1, Ex H H1 → Pv 0 σ H1)
    (hs : ∀ B i a b v w σ' H', Ex H B → Ex B H' → l[i]? = some (a, b) → R.at_ H' v a → S.at_ H' w b → Pv i σ' H' → tu { D with nx := fun σ3 H3 => Ex B H3 ∧ Pv (i + 1) σ3 H3, ct := fun σ3 H3 => Ex B H3 ∧ Pv (i + 1) σ3 H3, bk := tz D } ((σ'.set i1 (some v)).set i2 (some w)) H')
    (hd : ∀ σ' H', Ex H H' → Pv l.length σ' H' → tz D σ' H') : tSeq (tFor (iList K tl) (gTup K 2 (gCons (gName i1) (gCons (gName i2) gNil))) tu) tz D σ H :=
  q_forR h Pv h0 (fun B i a v σ' H' e1 e2 hi hv p => by
    obtain ⟨t, x, y, rfl, h1, h2, h3⟩ := hv
    exact ⟨t, [x, y], rfl, st_of h1, rfl, x, [y], rfl, y, [], rfl, rfl, hs B i a.1 a.2 x y σ' H' e1 e2 hi h2 h3 p⟩) hd
/-- for i, x in enumerate(..): the pair is a new tuple, taken apart at once -/
theorem q_forEnum {l : List α} {ta : TA} {a b : Nat} (h : EvC ta σ H fun vs H2 => ∃ x, vs = [x] ∧ (seqR K R).at_ H2 x l) (Pv : Nat → L2.St → Hp → Prop) (h0 : ∀ H1, Ex H H1 → Pv 0 σ H1)
    (hs : ∀ B i y v σ' H', Ex H B → Ex B H' → l[i]? = some y → R.at_ H' v y → Pv i σ' H' → tu { D with nx := fun σ3 H3 => Ex B H3 ∧ Pv (i + 1) σ3 H3, ct := fun σ3 H3 => Ex B H3 ∧ Pv (i + 1) σ3 H3, bk := tz D } ((σ'.set a (some (natV i))).set b (some v)) H')
    (hP : ∀ i σ' H' H'', Ex H' H'' → Pv i σ' H' → Pv i σ' H'')
    (hd : ∀ σ' H', Ex H H' → Pv l.length σ' H' → tz D σ' H') : tSeq (tFor (iEnum K ta) (gTup K 2 (gCons (gName a) (gCons (gName b) gNil))) tu) tz D σ H := by
  refine h H (Ex.refl H) _ fun vs H1 e1 hv => ?_
  obtain ⟨w, rfl, p, xs, rfl, hp, hx⟩ := hv
  refine ⟨p, xs, rfl, hp, fun i m σ' H' => m = xs.length - i ∧ i ≤ xs.length ∧ Ex H1 H' ∧ Pv i σ' H', ⟨xs.length, by simp, Nat.zero_le _, Ex.refl H1, h0 H1 e1⟩, ?_⟩
  rintro i m σ' H' ⟨rfl, hi, q1, q2⟩
  have hp' := ex_l q1 hp
  by_cases hlt : i < xs.length
  · have hil : i < l.length := by rw [← hx.1]; exact hlt
    obtain ⟨x, h1, h2⟩ := hx.2 i _ (List.getElem?_eq_getElem hil)
    refine .inr ⟨⟨xs, x, hp', h1⟩, fun σ3 H3 => Ex H1 H3 ∧ Pv (i + 1) σ3 H3, fun σ3 H3 n => ⟨xs.length - (i + 1), by omega, rfl, hlt, n.1, n.2⟩, ?_⟩
    rintro v H'' ⟨T, y, rfl, nT, rfl, f⟩
    have ey : y = x := Option.some.inj ((f xs hp').symm.trans h1)
    subst ey
    have e2 : Ex H' (upd H' T (.tup [.int (i : Nat), y])) := Ex.new nT
    refine ⟨T, [.int (i : Nat), y], rfl, st_of upd_same, rfl, natV i, [y], rfl, y, [], rfl, rfl, ?_⟩
    have := hs H1 i _ y σ' (upd H' T (.tup [.int (i : Nat), y])) e1 (q1.trans e2) (List.getElem?_eq_getElem hil) (R.mono (q1.trans e2) h2) (hP i σ' _ _ e2 q2)
    exact this
  · have e : i = xs.length := by omega
    exact .inl ⟨⟨xs, hp', by omega⟩, hd σ' H' (e1.trans q1) (by rw [← hx.1, ← e]; exact q2)⟩
theorem er_seq {l : List α} (h : EvR (lstR R) te σ H l) : EvR (seqR K R) te σ H l := fun H1 e Q q => h H1 e _ fun v H2 e2 hv => q v H2 e2 (lst_seq hv)
/-- a call of one argument, of two -/
theorem er_c1 {S : Rep β} {b : β} {a : α} {sp : Sp} {E : XK} (h : EvR S ta σ H b) (hs : ∀ x H1, Ex H H1 → S.at_ H1 x b → ∀ Q : VK, RetR R a H1 Q → ∀ E, sp [x] H1 Q E) : EvR R (tCall sp [] E (tCons ta tNil)) σ H a :=
  er_call (ec_cons h ec_nil) fun vs H1 e ⟨x, r, h1, h2, h3⟩ Q q E => by
    subst h1 h3
    exact hs x H1 e h2 Q q E
theorem ev_c1 {S : Rep β} {b : β} {sp : Sp} {E : XK} (h : EvR S ta σ H b) (hs : ∀ x H1, Ex H H1 → S.at_ H1 x b → ∀ Q : VK, RetV v H1 Q → ∀ E, sp [x] H1 Q E) : Ev (tCall sp [] E (tCons ta tNil)) σ H v :=
  ev_call1 (ec_cons h ec_nil) fun vs H1 e ⟨x, r, h1, h2, h3⟩ Q q E => by
    subst h1 h3
    exact hs x H1 e h2 Q q E
theorem el_c1 {S : Rep β} {b : β} {xs : List V} {sp : Sp} {E : XK} (h : EvR S ta σ H b) (hs : ∀ x H1, Ex H H1 → S.at_ H1 x b → ∀ Q : VK, RetL xs H1 Q → ∀ E, sp [x] H1 Q E) : EvL (tCall sp [] E (tCons ta tNil)) σ H xs :=
  el_call1 (ec_cons h ec_nil) fun vs H1 e ⟨x, r, h1, h2, h3⟩ Q q E => by
    subst h1 h3
    exact hs x H1 e h2 Q q E
theorem ev_c2 {γ : Type} {S : Rep β} {T : Rep γ} {b : β} {c : γ} {sp : Sp} {E : XK} (h : EvR S ta σ H b) (h' : EvR T tb σ H c) (hs : ∀ x y H1, Ex H H1 → S.at_ H1 x b → T.at_ H1 y c → ∀ Q : VK, RetV v H1 Q → ∀ E, sp [x, y] H1 Q E) : Ev (tCall sp [] E (tCons ta (tCons tb tNil))) σ H v :=
  ev_call1 (ec_cons h (ec_cons h' ec_nil)) fun vs H1 e ⟨x, r, h1, h2, y, r', h3, h4, h5⟩ Q q E => by
    subst h1 h3 h5
    exact hs x y H1 e h2 h4 Q q E
theorem er_c2 {γ : Type} {S : Rep β} {T : Rep γ} {a : α} {b : β} {c : γ} {sp : Sp} {E : XK} (h : EvR S ta σ H b) (h' : EvR T tb σ H c) (hs : ∀ x y H1, Ex H H1 → S.at_ H1 x b → T.at_ H1 y c → ∀ Q : VK, RetR R a H1 Q → ∀ E, sp [x, y] H1 Q E) : EvR R (tCall sp [] E (tCons ta (tCons tb tNil))) σ H a :=
  er_call (ec_cons h (ec_cons h' ec_nil)) fun vs H1 e ⟨x, r, h1, h2, y, r', h3, h4, h5⟩ Q q E => by
    subst h1 h3 h5
    exact hs x y H1 e h2 h4 Q q E
theorem el_c2 {γ : Type} {S : Rep β} {T : Rep γ} {xs : List V} {b : β} {c : γ} {sp : Sp} {E : XK} (h : EvR S ta σ H b) (h' : EvR T tb σ H c) (hs : ∀ x y H1, Ex H H1 → S.at_ H1 x b → T.at_ H1 y c → ∀ Q : VK, RetL xs H1 Q → ∀ E, sp [x, y] H1 Q E) : EvL (tCall sp [] E (tCons ta (tCons tb tNil))) σ H xs :=
  el_call1 (ec_cons h (ec_cons h' ec_nil)) fun vs H1 e ⟨x, r, h1, h2, y, r', h3, h4, h5⟩ Q q E => by
    subst h1 h3 h5
    exact hs x y H1 e h2 h4 Q q E
theorem RetV.to {w : V} {Q : VK} (q : RetV v H Q) (e : Ex H H') (h : w = v) : Q w H' := h ▸ q H' e
/-- an item of a list that is read -/
theorem er_ix {l : List α} {a : α} {j : Nat} (h : EvR (seqR K R) te σ H l) (hj : l[j]? = some a) : EvR R (tOp (rIxL K) te (tC (.int (j : Int)))) σ H a := fun H1 e Q q =>
  h H1 e _ fun v H2 e2 ⟨p, xs, h1, h2, h3⟩ => by
    obtain ⟨x, hx, ha⟩ := h3.2 j a hj
    exact ⟨p, xs, (j : Int), x, h1, rfl, h2, atI_nat hx, q x H2 e2 ha⟩
theorem er_ixv {ti : TE} {l : List α} {a : α} {j : Nat} (h : EvR (seqR K R) te σ H l) (hi : ∀ H1, Ex H H1 → Ev ti σ H1 (natV j)) (hj : l[j]? = some a) : EvR R (tOp (rIxL K) te ti) σ H a := fun H1 e Q q =>
  h H1 e _ fun v H2 e2 hv => hi H2 (e.trans e2) H2 (Ex.refl _) _ fun H3 e3 => by
    obtain ⟨p, xs, h1, h2, h3⟩ := (seqR K R).mono e3 hv
    obtain ⟨x, hx, ha⟩ := h3.2 j a hj
    exact ⟨p, xs, (j : Int), x, h1, rfl, h2, atI_nat hx, q x H3 (e2.trans e3) ha⟩
/-- of a pair that is read -/
theorem er_fst {S : Rep β} {a : α} {b : β} (h : EvR (pairR R S) te σ H (a, b)) : EvR R (tOp (rIxT K) te (tC (.int 0))) σ H a := fun H1 e Q q =>
  h H1 e _ fun v H2 e2 ⟨t, x, y, h1, h2, h3, h4⟩ => ⟨t, [x, y], 0, x, h1, rfl, st_of h2, atI_nat (j := 0) rfl, q x H2 e2 h3⟩
theorem er_snd {S : Rep β} {a : α} {b : β} (h : EvR (pairR R S) te σ H (a, b)) : EvR S (tOp (rIxT K) te (tC (.int 1))) σ H b := fun H1 e Q q =>
  h H1 e _ fun v H2 e2 ⟨t, x, y, h1, h2, h3, h4⟩ => ⟨t, [x, y], 1, y, h1, rfl, st_of h2, atI_nat (j := 1) rfl, q y H2 e2 h4⟩
/-- len -/
theorem er_len {l : List α} (h : EvR (seqR K R) te σ H l) : Ev (tCB (fun xs H Q => ∃ p ys, xs = [.ref p] ∧ (SqL K H p ys ∨ SqT K H p ys) ∧ Q (.int ys.length) H) (tCons te tNil)) σ H (natV l.length) := fun H1 e Q q =>
  h H1 e _ fun v H2 e2 ⟨p, xs, h1, h2, h3⟩ => by
    subst h1
    exact ⟨p, xs, rfl, Or.inl h2, by rw [h3.1]; exact q H2 e2⟩
/-- new flat lists -/
def flatR : Rep (List V) := ⟨fun H v xs => ∃ p, v = .ref p ∧ H p = some (.lst xs), fun e ⟨p, h1, h2⟩ => ⟨p, h1, e _ _ h2⟩⟩
/-- [new list for i in range(0, n', c)] -/
theorem er_lcR3L {ta : TA} {j : Nat} {vs : List Nat} {n' c : Int} {n : Nat} (f : Nat → List V) (h : EvA ta σ H [.int 0, .int n', .int c]) (hr : RgC 0 n' c n) (hn : n ≤ 40000) (hw : ∀ x, wipe ((wipe σ vs).set j (some x)) vs = wipe σ vs)
    (he : ∀ (i : Nat) H1, Ex H H1 → i < n → EvL te ((wipe σ vs).set j (some (.int ((0 : Int) + (i : Nat) * c)))) H1 (f i)) : EvR (lstR flatR) (tLc (iRng3 ta) (gName j) tYes te vs) σ H ((List.range n).map f) := fun H0 e0 Q q =>
  h H0 e0 _ fun H1 e1 => ⟨0, n', c, n, rfl, hr, fun Dl hD => by
    refine ⟨fun i m H' => m = n - i ∧ i ≤ n ∧ Ex H1 H' ∧ ∃ xs, H' Dl = some (.lst xs) ∧ xs.length = i ∧ ∀ k, k < i → ∃ p, xs[k]? = some (.ref p) ∧ p ≠ Dl ∧ H' p = some (.lst (f k)), ⟨n, by omega, Nat.zero_le _, Ex.new hD, [], upd_same, rfl, fun k hk => absurd hk (Nat.not_lt_zero _)⟩, ?_⟩
    rintro i m H' ⟨rfl, hi, e2, xs, hx, hl, hp⟩
    by_cases hlt : i < n
    · refine .inr ⟨hlt, fun H2 => i + 1 ≤ n ∧ Ex H1 H2 ∧ ∃ xs, H2 Dl = some (.lst xs) ∧ xs.length = i + 1 ∧ ∀ k, k < i + 1 → ∃ p, xs[k]? = some (.ref p) ∧ p ≠ Dl ∧ H2 p = some (.lst (f k)), fun H2 p2 => ⟨n - (i + 1), by omega, rfl, p2⟩, ?_⟩
      rintro x H'' ⟨rfl, rfl⟩
      refine ⟨hw _, he i H'' ((e0.trans e1).trans e2) hlt H'' (Ex.refl _) _ fun p H3 hp0 e3 hp3 => ⟨xs, e3 _ _ hx, sz_lt (by omega), hlt, Ex.mut (e2.trans e3) hD, xs ++ [.ref p], upd_same, by simp [hl], fun k hk => ?_⟩⟩
      have hne : ∀ {z : Addr} {o : HO}, H'' z = some o → z ≠ p := fun hz => ne_of_none hz hp0
      by_cases hki : k < i
      · obtain ⟨z, h1, h2, h3⟩ := hp k hki
        refine ⟨z, by rw [List.getElem?_append_left (by omega)]; exact h1, h2, ?_⟩
        rw [upd_ne h2]
        exact e3 _ _ h3
      · have : k = i := by omega
        subst this
        refine ⟨p, by rw [List.getElem?_append_right (by omega), hl]; simp, (hne hx).symm, ?_⟩
        rw [upd_ne (hne hx).symm]
        exact hp3
    · have : i = n := by omega
      subst this
      refine .inl ⟨Nat.le_refl _, q _ _ (e1.trans e2) ⟨Dl, xs, rfl, hx, by simp [hl], fun k a hk => ?_⟩⟩
      rw [List.getElem?_map] at hk
      have hki : k < i := by
        by_cases hki : k < i
        · exact hki
        · rw [List.getElem?_eq_none_iff.mpr (by rw [List.length_range]; omega)] at hk
          cases hk
      rw [List.getElem?_range hki] at hk
      obtain rfl := Option.some.inj hk
      obtain ⟨p, h1, h2, h3⟩ := hp k hki
      exact ⟨_, h1, p, rfl, h3⟩⟩
theorem flat_nats {l : List (List V)} {m : List (List Nat)} (hm : l = m.map (List.map natV)) (h : EvR (lstR flatR) te σ H l) : EvR (lstR (seqR K natR)) te σ H m := fun H1 e Q q =>
  h H1 e _ fun v H2 e2 ⟨p, xs, h1, h2, h3, h4⟩ => q v H2 e2 ⟨p, xs, h1, h2, by rw [h3, hm, List.length_map], fun i a hi => by
    obtain ⟨x, hx, z, hz, hz2⟩ := h4 i (a.map natV) (by rw [hm, List.getElem?_map, hi]; rfl)
    exact ⟨x, hx, nats_at.mpr ⟨z, hz, sq_of hz2⟩⟩⟩
theorem take_fold {γ δ : Type} {f : δ → γ → δ} {d : δ} {l : List γ} {i : Nat} {x : γ} (h : l[i]? = some x) : (l.take (i + 1)).foldl f d = f ((l.take i).foldl f d) x := by
  rw [List.take_add_one, h, List.foldl_append]
  rfl
theorem congr2B {a b c d : Bool} (h1 : a = c) (h2 : b = d) : (a && b) = (c && d) := by rw [h1, h2]
theorem congr2O {a b c d : Bool} (h1 : a = c) (h2 : b = d) : (a || b) = (c || d) := by rw [h1, h2]
theorem ec_one {S : Rep β} {b : β} {ta : TA} (h : EvC ta σ H fun vs H2 => ∃ x r, vs = x :: r ∧ S.at_ H2 x b ∧ r = []) : EvC ta σ H fun vs H2 => ∃ x, vs = [x] ∧ S.at_ H2 x b := fun H1 e Q q =>
  h H1 e Q fun vs H2 e2 ⟨x, r, h1, h2, h3⟩ => q vs H2 e2 ⟨x, by rw [h1, h3], h2⟩
theorem ret_to {w : V} {Q : VK} (q : ∀ H2, Ex H H2 → Q v H2) (e : Ex H H') (h : w = v) : Q w H' := h ▸ q H' e
theorem ret_goL {xs ys : List V} {Q : VK} (k : ∀ p H2, H p = none → Ex H H2 → H2 p = some (.lst xs) → Q (.ref p) H2) (e : Ex H H') {p : Addr} {H2 : Hp} (hp : H' p = none) (e2 : Ex H' H2) (h : H2 p = some (.lst ys)) (hy : ys = xs) : Q (.ref p) H2 :=
  k p H2 (fresh_back e hp) (e.trans e2) (hy ▸ h)
end
theorem rgc_seven {n : Nat} (h7 : n % 7 = 0) (h : n ≤ 700) : RgC 0 (n : Int) 7 (n / 7) := by
  have e : Builtin.Range.rangeSize 0 (n : Int) 7 = ((n / 7 : Nat) : Int) := by
    unfold Builtin.Range.rangeSize
    rw [if_pos (by decide)]
    split <;> omega
  refine ⟨by decide, by decide, ?_, e⟩
  have fits : ∀ z : Int, 0 ≤ z → z ≤ 10000 → Builtin.Range.rangeFitsLong z = true := fun z h1 h2 => by
    show (decide (-(2 ^ 63) ≤ z) && decide (z < 2 ^ 63)) = true
    rw [decide_eq_true (by omega), decide_eq_true (by omega)] <;> rfl
  unfold Builtin.Range.small
  rw [e, fits 0 (by decide) (by decide), fits n (by omega) (by omega), fits 7 (by decide) (by decide), fits ((n / 7 : Nat) : Int) (by omega) (by omega), if_pos (by decide), fits ((n : Int) + (7 - 1)) (by omega) (by omega), Bool.or_true] <;> rfl
theorem cutV_seven {l : List Nat} {i : Nat} (h : 7 * i + 7 ≤ l.length) : cutV (l.map natV) (some ((0 : Int) + (i : Nat) * 7)) (some ((0 : Int) + (i : Nat) * 7 + 7)) = ((l.drop (7 * i)).take 7).map natV := by
  unfold cutV
  rw [show ((0 : Int) + (i : Nat) * 7) = ((7 * i : Nat) : Int) by omega, show (((7 * i : Nat) : Int) + 7) = ((7 * i + 7 : Nat) : Int) by omega, HT.sIx_nat, HT.sIx_nat, List.length_map, Nat.min_eq_left (by omega), Nat.min_eq_left (by omega), Nat.add_sub_cancel_left, List.map_take, List.map_drop]
section
variable {K : PySem.W.Frag} {σ : L2.St} {H H' : Hp} {ta tb te tl : TE}
/-- a new list, and behind it one that the program made -/
theorem el_cat {xs zs : List V} {b : Addr} (ha : EvL ta σ H xs) (hb : ∀ H1, Ex H H1 → Ev tb σ H1 (.ref b)) (h : H b = some (.lst zs)) (hz : xs.length + zs.length ≤ 100000) : EvL (tOp rCat ta tb) σ H (xs ++ zs) := fun H1 e Q q =>
  ha H1 e _ fun p H2 hp e2 h2 => hb H2 (e.trans e2) H2 (Ex.refl _) _ fun H3 e3 => ⟨p, b, xs, zs, rfl, rfl, e3 _ _ h2, e3 _ _ (e2 _ _ (e _ _ h)), sz_of hz, fun r hr => q r _ (fresh_back (e2.trans e3) hr) ((e2.trans e3).trans (Ex.new hr)) upd_same⟩
end
section
variable {X : Cx} {K : PySem.W.Frag}
theorem ixL (h : X.K = K := by rfl) : IxR X (rIxL K) := h ▸ ix_list
theorem ixT (h : X.K = K := by rfl) : IxR X (rIxT K) := h ▸ ix_tup
theorem slL (h : X.K = K := by rfl) : SlR X (rSlL K) := h ▸ sl_list
theorem lenS (h : X.K = K := by rfl) : CallR X (.builtin "len") (fun xs H Q => ∃ p ys, xs = [.ref p] ∧ (SqL K H p ys ∨ SqT K H p ys) ∧ Q (.int ys.length) H) := h ▸ call_len_seq
end
end Bf
namespace Bf
open PySem PySem.Spec PyProof.Rows L2
open Evl
/-! ### what is new stays: of what B has and A had not, all is still so -/
def Kept (A B H : Hp) : Prop := ∀ a x, A a = none → B a = some x → H a = some x
theorem Kept.of {A B H : Hp} (e : Ex B H) : Kept A B H := fun a x _ h => e a x h
theorem Kept.self {A B : Hp} : Kept A B B := fun _ _ _ h => h
theorem Kept.ex {A B H H' : Hp} (k : Kept A B H) (e : Ex H H') : Kept A B H' := fun a x h1 h2 => e a x (k a x h1 h2)
theorem Kept.old {A B H : Hp} {o : Addr} {x : HO} (k : Kept A B H) (h : A o ≠ none) : Kept A B (upd H o x) := fun a y h1 h2 => by
  have hne : a ≠ o := fun e => h (by rw [← e]; exact h1)
  rw [upd_ne hne]
  exact k a y h1 h2
theorem Kept.later {A B H : Hp} {o : Addr} {x : HO} (k : Kept A B H) (h : B o = none) : Kept A B (upd H o x) := fun a y h1 h2 => by
  have hne : a ≠ o := fun e => by
    rw [e, h] at h2
    cases h2
  rw [upd_ne hne]
  exact k a y h1 h2
theorem Kept.less {A B C H : Hp} (k : Kept A C H) (e : Ex B C) : Kept A B H := fun a x h1 h2 => k a x h1 (e a x h2)
theorem Kept.since {A B C H : Hp} (k : Kept A C H) (e : Ex A B) : Kept B C H := fun a x h1 h2 => k a x (fresh_back e h1) h2
def Stay {α : Type} (R : Rep α) (A B : Hp) (v : V) (a : α) : Prop := ∀ H, Kept A B H → R.at_ H v a
theorem Stay.now {α : Type} {R : Rep α} {A B : Hp} {v : V} {a : α} (h : Stay R A B v a) : R.at_ B v a := h B Kept.self
theorem Stay.on {α : Type} {R : Rep α} {A B C : Hp} {v : V} {a : α} (h : Stay R A B v a) (e : Ex B C) : Stay R A C v a := fun H k => h H (k.less e)
theorem Stay.from_ {α : Type} {R : Rep α} {A B C : Hp} {v : V} {a : α} (h : Stay R B C v a) (e : Ex A B) : Stay R A C v a := fun H k => h H (k.since e)
/-- a new list, of what stays -/
def NewL {α : Type} (R : Rep α) (A B : Hp) (w : V) (l : List α) : Prop := ∃ p xs, w = .ref p ∧ A p = none ∧ B p = some (.lst xs) ∧ xs.length = l.length ∧ ∀ (i : Nat) (a : α), l[i]? = some a → ∃ x, xs[i]? = some x ∧ Stay R A B x a
theorem NewL.stay {α : Type} {R : Rep α} {A B : Hp} {w : V} {l : List α} (h : NewL R A B w l) : Stay (lstR R) A B w l := fun H k => by
  obtain ⟨p, xs, h1, h2, h3, h4, h5⟩ := h
  exact ⟨p, xs, h1, k p _ h2 h3, h4, fun i a hi => let ⟨x, g1, g2⟩ := h5 i a hi; ⟨x, g1, g2 H k⟩⟩
theorem NewL.on {α : Type} {R : Rep α} {A B C : Hp} {w : V} {l : List α} (h : NewL R A B w l) (e : Ex B C) : NewL R A C w l := by
  obtain ⟨p, xs, h1, h2, h3, h4, h5⟩ := h
  exact ⟨p, xs, h1, h2, e _ _ h3, h4, fun i a hi => let ⟨x, g1, g2⟩ := h5 i a hi; ⟨x, g1, g2.on e⟩⟩
theorem NewL.from_ {α : Type} {R : Rep α} {A B C : Hp} {w : V} {l : List α} (h : NewL R B C w l) (e : Ex A B) : NewL R A C w l := by
  obtain ⟨p, xs, h1, h2, h3, h4, h5⟩ := h
  exact ⟨p, xs, h1, fresh_back e h2, h3, h4, fun i a hi => let ⟨x, g1, g2⟩ := h5 i a hi; ⟨x, g1, g2.from_ e⟩⟩
def EvN {α : Type} (R : Rep α) (te : TE) (σ : L2.St) (H : Hp) (a : α) : Prop := ∀ H1, Ex H H1 → ∀ Q : VK, (∀ v H2, Ex H1 H2 → Stay R H1 H2 v a → Q v H2) → te σ H1 Q
def EvNL {α : Type} (R : Rep α) (te : TE) (σ : L2.St) (H : Hp) (l : List α) : Prop := ∀ H1, Ex H H1 → ∀ Q : VK, (∀ v H2, Ex H1 H2 → NewL R H1 H2 v l → Q v H2) → te σ H1 Q
def RetNL {α : Type} (R : Rep α) (l : List α) (H : Hp) (Q : VK) : Prop := ∀ v H2, Ex H H2 → NewL R H H2 v l → Q v H2
section
variable {K : PySem.W.Frag} {σ : L2.St} {H H' : Hp} {ta tb te tl : TE} {t u : TT} {x y z v : V} {α β : Type} {R : Rep α} {D : Ends} {tu tw tz : TS} {g : TG}
theorem en_nat {n : Nat} (h : Ev te σ H (natV n)) : EvN natR te σ H n := fun H1 e Q q => h H1 e _ fun H2 e2 => q _ H2 e2 fun _ _ => rfl
theorem er_n {a : α} (h : EvN R te σ H a) : EvR R te σ H a := fun H1 e Q q => h H1 e _ fun v H2 e2 s => q v H2 e2 s.now
theorem en_l {l : List α} (h : EvNL R te σ H l) : EvN (lstR R) te σ H l := fun H1 e Q q => h H1 e _ fun v H2 e2 s => q v H2 e2 s.stay
theorem er_nl {l : List α} (h : EvNL R te σ H l) : EvR (seqR K R) te σ H l := er_seq (er_n (en_l h))
theorem en_tup {S : Rep β} {a : α} {b : β} (ha : EvN R ta σ H a) (hb : EvN S tb σ H b) : EvN (pairR R S) (tTup (tCons ta (tCons tb tNil))) σ H (a, b) := fun H1 e Q q =>
  ha H1 e _ fun x H2 e2 hx => hb H2 (e.trans e2) _ fun y H3 e3 hy => ⟨sz_of (by show 2 ≤ 100000; decide), fun p hp =>
    q _ _ ((e2.trans e3).trans (Ex.new hp)) fun H' k => ⟨p, x, y, rfl, k p _ (fresh_back (e2.trans e3) hp) upd_same, (hx.on (e3.trans (Ex.new hp))) H' k, ((hy.on (Ex.new hp)).from_ e2) H' k⟩⟩
def EvIN (R : Rep α) (ta : TA) (σ : L2.St) (H : Hp) (l : List α) : Prop := ∀ H1, Ex H H1 → ∀ Q : List V → Hp → Prop, (∀ xs H2, Ex H1 H2 → xs.length = l.length → (∀ (i : Nat) (a : α), l[i]? = some a → ∃ x, xs[i]? = some x ∧ Stay R H1 H2 x a) → Q xs H2) → ta σ H1 Q
theorem ein_nil : EvIN R tNil σ H [] := fun H1 _ _ q => q [] H1 (Ex.refl H1) rfl fun i a h => by simp at h
theorem ein_cons {a : α} {l : List α} {tr : TA} (h : EvN R ta σ H a) (hr : EvIN R tr σ H l) : EvIN R (tCons ta tr) σ H (a :: l) := fun H1 e _ q =>
  h H1 e _ fun x H2 e2 hx => hr H2 (e.trans e2) _ fun xs H3 e3 hl hxs => q _ H3 (e2.trans e3) (congrArg (· + 1) hl) fun i b hi => match i, hi with
    | 0, hi => ⟨x, rfl, (Option.some.inj hi) ▸ hx.on e3⟩
    | i + 1, hi => let ⟨y, g1, g2⟩ := hxs i b hi; ⟨y, g1, g2.from_ e2⟩
theorem en_lst {l : List α} {ta : TA} (h : EvIN R ta σ H l) (hl : l.length ≤ 100000) : EvNL R (tLst ta) σ H l := fun H1 e _ q =>
  h H1 e _ fun xs H2 e2 hx hs => ⟨sz_of (by rw [hx]; exact hl), fun p hp => q _ _ (e2.trans (Ex.new hp)) ⟨p, xs, rfl, fresh_back e2 hp, upd_same, hx, fun i a hi => let ⟨y, g1, g2⟩ := hs i a hi; ⟨y, g1, g2.on (Ex.new hp)⟩⟩⟩
theorem en_call {l : List α} {sp : Sp} {E : XK} {ta : TA} {P : List V → Hp → Prop} (h : EvC ta σ H P) (hs : ∀ vs H1, Ex H H1 → P vs H1 → ∀ Q : VK, RetNL R l H1 Q → ∀ E, sp vs H1 Q E) : EvNL R (tCall sp [] E ta) σ H l := fun H1 e Q q =>
  h H1 e _ fun vs H2 e2 hp => by
    show sp (vs ++ []) H2 Q E
    rw [List.append_nil]
    exact hs vs H2 (e.trans e2) hp Q (fun v H3 e3 hv => q v H3 (e2.trans e3) (hv.from_ e2)) E
theorem en_c1 {S : Rep β} {b : β} {l : List α} {sp : Sp} {E : XK} (h : EvR S ta σ H b) (hs : ∀ x H1, Ex H H1 → S.at_ H1 x b → ∀ Q : VK, RetNL R l H1 Q → ∀ E, sp [x] H1 Q E) : EvNL R (tCall sp [] E (tCons ta tNil)) σ H l :=
  en_call (ec_cons h ec_nil) fun vs H1 e ⟨x, r, h1, h2, h3⟩ Q q E => by
    subst h1 h3
    exact hs x H1 e h2 Q q E
theorem en_c2 {γ : Type} {S : Rep β} {T : Rep γ} {l : List α} {b : β} {c : γ} {sp : Sp} {E : XK} (h : EvR S ta σ H b) (h' : EvR T tb σ H c) (hs : ∀ x y H1, Ex H H1 → S.at_ H1 x b → T.at_ H1 y c → ∀ Q : VK, RetNL R l H1 Q → ∀ E, sp [x, y] H1 Q E) : EvNL R (tCall sp [] E (tCons ta (tCons tb tNil))) σ H l :=
  en_call (ec_cons h (ec_cons h' ec_nil)) fun vs H1 e ⟨x, r, h1, h2, y, r', h3, h4, h5⟩ Q q E => by
    subst h1 h3 h5
    exact hs x y H1 e h2 h4 Q q E
theorem s_retN {l : List α} (h : EvNL R te σ H l) (k : RetNL R l H D.rt) : tRet te D σ H := h H (Ex.refl H) _ k
theorem q_asgN {i : Nat} {l : List α} (h : EvNL R te σ H l) (k : ∀ v H1, Ex H H1 → NewL R H H1 v l → tz D (σ.set i (some v)) H1) : tSeq (tAsg te (gName i)) tz D σ H := h H (Ex.refl H) _ k
/-- a new flat list of ints stands for it -/
theorem en_flat {l : List Nat} (h : EvL te σ H (l.map natV)) : EvNL natR te σ H l := fun H1 e Q q => h H1 e _ fun p H2 hp e2 h2 =>
  q _ H2 e2 ⟨p, _, rfl, hp, h2, List.length_map _, fun i a hi => ⟨natV a, by rw [List.getElem?_map, hi]; rfl, fun _ _ => rfl⟩⟩
theorem el_flat {l : List Nat} (h : EvNL natR te σ H l) : EvL te σ H (l.map natV) := fun H1 e Q q => h H1 e _ fun v H2 e2 ⟨p, xs, h1, h2, h3, h4, h5⟩ => by
  subst h1
  have ex : xs = l.map natV := items_nat (H := H2) ⟨h4, fun i a hi => let ⟨x, g1, g2⟩ := h5 i a hi; ⟨x, g1, g2.now⟩⟩
  subst ex
  exact q p H2 h2 e2 h3
/-- a comprehension over range(0, n', c) that makes a new list each turn -/
theorem en_lcR3L {ta : TA} {j : Nat} {vs : List Nat} {n' c : Int} {n : Nat} (f : Nat → List Nat) (h : EvA ta σ H [.int 0, .int n', .int c]) (hr : RgC 0 n' c n) (hn : n ≤ 40000) (hw : ∀ x, wipe ((wipe σ vs).set j (some x)) vs = wipe σ vs)
    (he : ∀ (i : Nat) H1, Ex H H1 → i < n → EvL te ((wipe σ vs).set j (some (.int ((0 : Int) + (i : Nat) * c)))) H1 ((f i).map natV)) : EvNL (seqR K natR) (tLc (iRng3 ta) (gName j) tYes te vs) σ H ((List.range n).map f) := fun H0 e0 Q q =>
  h H0 e0 _ fun H1 e1 => ⟨0, n', c, n, rfl, hr, fun Dl hD => by
    refine ⟨fun i m H' => m = n - i ∧ i ≤ n ∧ Ex H1 H' ∧ ∃ xs, H' Dl = some (.lst xs) ∧ xs.length = i ∧ ∀ k, k < i → ∃ p, xs[k]? = some (.ref p) ∧ p ≠ Dl ∧ H1 p = none ∧ H' p = some (.lst ((f k).map natV)), ⟨n, by omega, Nat.zero_le _, Ex.new hD, [], upd_same, rfl, fun k hk => absurd hk (Nat.not_lt_zero _)⟩, ?_⟩
    rintro i m H' ⟨rfl, hi, e2, xs, hx, hl, hp⟩
    by_cases hlt : i < n
    · refine .inr ⟨hlt, fun H2 => i + 1 ≤ n ∧ Ex H1 H2 ∧ ∃ xs, H2 Dl = some (.lst xs) ∧ xs.length = i + 1 ∧ ∀ k, k < i + 1 → ∃ p, xs[k]? = some (.ref p) ∧ p ≠ Dl ∧ H1 p = none ∧ H2 p = some (.lst ((f k).map natV)), fun H2 p2 => ⟨n - (i + 1), by omega, rfl, p2⟩, ?_⟩
      rintro x H'' ⟨rfl, rfl⟩
      refine ⟨hw _, he i H'' ((e0.trans e1).trans e2) hlt H'' (Ex.refl _) _ fun p H3 hp0 e3 hp3 => ⟨xs, e3 _ _ hx, sz_lt (by omega), hlt, Ex.mut (e2.trans e3) hD, xs ++ [.ref p], upd_same, by simp [hl], fun k hk => ?_⟩⟩
      have hne : ∀ {z : Addr} {o : HO}, H'' z = some o → z ≠ p := fun hz => ne_of_none hz hp0
      by_cases hki : k < i
      · obtain ⟨z, h1, h2, h2', h3⟩ := hp k hki
        refine ⟨z, by rw [List.getElem?_append_left (by omega)]; exact h1, h2, h2', ?_⟩
        rw [upd_ne h2]
        exact e3 _ _ h3
      · have : k = i := by omega
        subst this
        refine ⟨p, by rw [List.getElem?_append_right (by omega), hl]; simp, (hne hx).symm, fresh_back e2 hp0, ?_⟩
        rw [upd_ne (hne hx).symm]
        exact hp3
    · have : i = n := by omega
      subst this
      refine .inl ⟨Nat.le_refl _, q _ _ (e1.trans e2) ⟨Dl, xs, rfl, fresh_back e1 hD, hx, by simp [hl], fun k a hk => ?_⟩⟩
      rw [List.getElem?_map] at hk
      have hki : k < i := by
        by_cases hki : k < i
        · exact hki
        · rw [List.getElem?_eq_none_iff.mpr (by rw [List.length_range]; omega)] at hk
          cases hk
      rw [List.getElem?_range hki] at hk
      obtain rfl := Option.some.inj hk
      obtain ⟨p, h1, h2, h2', h3⟩ := hp k hki
      exact ⟨_, h1, fun H2 kp => nats_at.mpr ⟨p, rfl, sq_of (kp p _ (fresh_back e1 h2') h3)⟩⟩⟩
/-! ### loops whose body may change what the def made: what was new in the list stays -/
theorem s_forN {l : List α} (h : EvNL R tl σ H l) (Pv : Nat → L2.St → Hp → Prop) (h0 : ∀ H1, Ex H H1 → Pv 0 σ H1)
    (hs : ∀ B i a v σ' H', Ex H B → Kept H B H' → l[i]? = some a → Stay R H B v a → Pv i σ' H' → g v σ' H' fun σ2 H2 => tu { D with nx := fun σ3 H3 => Kept H B H3 ∧ Pv (i + 1) σ3 H3, ct := fun σ3 H3 => Kept H B H3 ∧ Pv (i + 1) σ3 H3, bk := D.nx } σ2 H2)
    (hd : ∀ σ' H', Pv l.length σ' H' → D.nx σ' H') : tFor (iList K tl) g tu D σ H := by
  refine h H (Ex.refl H) _ fun w B e1 hw => ?_
  obtain ⟨p, xs, rfl, hp0, hp, hl, hx⟩ := hw
  refine ⟨p, rfl, ⟨xs, sq_of hp⟩, for_list (xs := xs) (fun i σ' H' => Kept H B H' ∧ Pv i σ' H') ⟨Kept.self, h0 B e1⟩ (fun i σ' H' _ q => sq_of (q.1 p _ hp0 hp)) (fun i x σ' H' hi q => ?_) (fun σ' H' q => hd σ' H' (by rw [← hl]; exact q.2))⟩
  have hil : i < l.length := by
    rw [← hl]
    exact (List.getElem?_eq_some_iff.mp hi).1
  obtain ⟨x', h1, h2⟩ := hx i _ (List.getElem?_eq_getElem hil)
  have ex : x = x' := Option.some.inj (hi.symm.trans h1)
  subst ex
  exact hs B i _ x σ' H' e1 q.1 (List.getElem?_eq_getElem hil) h2 q.2
theorem q_forN {l : List α} (h : EvNL R tl σ H l) (Pv : Nat → L2.St → Hp → Prop) (h0 : ∀ H1, Ex H H1 → Pv 0 σ H1)
    (hs : ∀ B i a v σ' H', Ex H B → Kept H B H' → l[i]? = some a → Stay R H B v a → Pv i σ' H' → g v σ' H' fun σ2 H2 => tu { D with nx := fun σ3 H3 => Kept H B H3 ∧ Pv (i + 1) σ3 H3, ct := fun σ3 H3 => Kept H B H3 ∧ Pv (i + 1) σ3 H3, bk := tz D } σ2 H2)
    (hd : ∀ σ' H', Pv l.length σ' H' → tz D σ' H') : tSeq (tFor (iList K tl) g tu) tz D σ H := s_forN (D := { D with nx := tz D }) h Pv h0 hs hd
/-- for i, x in enumerate(new list) -/
theorem q_forEnumN {l : List α} {a b : Nat} (h : EvNL R tl σ H l) (Pv : Nat → L2.St → Hp → Prop) (h0 : ∀ H1, Ex H H1 → Pv 0 σ H1)
    (hs : ∀ B i y v σ' H', Ex H B → Kept H B H' → l[i]? = some y → Stay R H B v y → Pv i σ' H' → tu { D with nx := fun σ3 H3 => Kept H B H3 ∧ Pv (i + 1) σ3 H3, ct := fun σ3 H3 => Kept H B H3 ∧ Pv (i + 1) σ3 H3, bk := tz D } ((σ'.set a (some (natV i))).set b (some v)) H')
    (hP : ∀ i σ' H' H'', Ex H' H'' → Pv i σ' H' → Pv i σ' H'')
    (hd : ∀ σ' H', Pv l.length σ' H' → tz D σ' H') : tSeq (tFor (iEnum K (tCons tl tNil)) (gTup K 2 (gCons (gName a) (gCons (gName b) gNil))) tu) tz D σ H := by
  refine h H (Ex.refl H) _ fun w B e1 hw => ?_
  obtain ⟨p, xs, rfl, hp0, hp, hl, hx⟩ := hw
  refine ⟨p, xs, rfl, sq_of hp, fun i m σ' H' => m = xs.length - i ∧ i ≤ xs.length ∧ Kept H B H' ∧ Pv i σ' H', ⟨xs.length, by simp, Nat.zero_le _, Kept.self, h0 B e1⟩, ?_⟩
  rintro i m σ' H' ⟨rfl, hi, q1, q2⟩
  have hp' : SqL K H' p xs := sq_of (q1 p _ hp0 hp)
  by_cases hlt : i < xs.length
  · have hil : i < l.length := by rw [← hl]; exact hlt
    obtain ⟨x, h1, h2⟩ := hx i _ (List.getElem?_eq_getElem hil)
    refine .inr ⟨⟨xs, x, hp', h1⟩, fun σ3 H3 => Kept H B H3 ∧ Pv (i + 1) σ3 H3, fun σ3 H3 n => ⟨xs.length - (i + 1), by omega, rfl, hlt, n.1, n.2⟩, ?_⟩
    rintro v H'' ⟨T, y, rfl, nT, rfl, f⟩
    have ey : y = x := Option.some.inj ((f xs hp').symm.trans h1)
    subst ey
    have e2 : Ex H' (upd H' T (.tup [.int (i : Nat), y])) := Ex.new nT
    refine ⟨T, [.int (i : Nat), y], rfl, st_of upd_same, rfl, natV i, [y], rfl, y, [], rfl, rfl, ?_⟩
    have := hs B i _ y σ' (upd H' T (.tup [.int (i : Nat), y])) e1 (q1.ex e2) (List.getElem?_eq_getElem hil) h2 (hP i σ' _ _ e2 q2)
    exact this
  · have e : i = xs.length := by omega
    exact .inl ⟨⟨xs, hp', by omega⟩, hd σ' H' (by rw [← hl, ← e]; exact q2)⟩
end
section
variable {K : PySem.W.Frag} {σ : L2.St} {H H' : Hp} {ta tb te tl : TE} {D : Ends} {tu tz : TS}
/-- two new lists, one behind the other -/
theorem el_cat2 {xs zs : List V} (ha : EvL ta σ H xs) (hb : EvL tb σ H zs) (hz : xs.length + zs.length ≤ 100000) : EvL (tOp rCat ta tb) σ H (xs ++ zs) := fun H1 e Q q =>
  ha H1 e _ fun p H2 hp e2 h2 => hb H2 (e.trans e2) _ fun b H3 hb e3 h3 => ⟨p, b, xs, zs, rfl, rfl, e3 _ _ h2, h3, sz_of hz, fun r hr => q r _ (fresh_back (e2.trans e3) hr) ((e2.trans e3).trans (Ex.new hr)) upd_same⟩
/-! ### a list of new flat lists that grows -/
/-- of a list at p: its items are lists of whole numbers, new since A, none of them p -/
def Flats (A : Hp) (p : Addr) (H : Hp) (xs : List V) (l : List (List Nat)) : Prop := xs.length = l.length ∧ ∀ (i : Nat) (a : List Nat), l[i]? = some a → ∃ q, xs[i]? = some (.ref q) ∧ q ≠ p ∧ A q = none ∧ H q = some (.lst (a.map natV))
theorem Flats.nil {A H : Hp} {p : Addr} : Flats A p H [] [] := ⟨rfl, fun i a h => by simp at h⟩
theorem Flats.ex {A H H' : Hp} {p : Addr} {xs : List V} {l : List (List Nat)} (h : Flats A p H xs l) (e : Ex H H') : Flats A p H' xs l :=
  ⟨h.1, fun i a hi => let ⟨q, h1, h2, h3, h4⟩ := h.2 i a hi; ⟨q, h1, h2, h3, e _ _ h4⟩⟩
theorem Flats.upd {A H : Hp} {p : Addr} {xs : List V} {l : List (List Nat)} {o : HO} (h : Flats A p H xs l) : Flats A p (L2.upd H p o) xs l :=
  ⟨h.1, fun i a hi => let ⟨q, h1, h2, h3, h4⟩ := h.2 i a hi; ⟨q, h1, h2, h3, by rw [upd_ne h2]; exact h4⟩⟩
theorem Flats.snoc {A H H1 : Hp} {p q : Addr} {xs : List V} {l : List (List Nat)} {a : List Nat} (h : Flats A p H xs l) (e : Ex H H1) (eA : Ex A H ∨ A q = none) (hp : H p ≠ none) (hq : H q = none) (hq1 : H1 q = some (.lst (a.map natV))) : Flats A p H1 (xs ++ [.ref q]) (l ++ [a]) := by
  have h' := h.ex e
  refine ⟨by simp [h.1], fun i b hi => ?_⟩
  by_cases hl : i < l.length
  · rw [List.getElem?_append_left hl] at hi
    obtain ⟨r, h1, h2, h3, h4⟩ := h'.2 i b hi
    exact ⟨r, by rw [List.getElem?_append_left (by rw [h.1]; exact hl)]; exact h1, h2, h3, h4⟩
  · rw [List.getElem?_append_right (by omega)] at hi
    have e0 : i - l.length = 0 := by
      have := (List.getElem?_eq_some_iff.mp hi).1
      simp at this
      omega
    rw [e0] at hi
    have eb : a = b := Option.some.inj hi
    subst eb
    refine ⟨q, ?_, fun z => hp (z ▸ hq), ?_, hq1⟩
    · rw [List.getElem?_append_right (by rw [h.1]; omega), h.1, e0]
      rfl
    · rcases eA with z | z
      · exact fresh_back z hq
      · exact z
theorem Flats.newL {A H : Hp} {p : Addr} {xs : List V} {l : List (List Nat)} (h : Flats A p H xs l) (hA : A p = none) (hp : H p = some (.lst xs)) : NewL (seqR K natR) A H (.ref p) l :=
  ⟨p, xs, rfl, hA, hp, h.1, fun i a hi => let ⟨q, h1, _, h3, h4⟩ := h.2 i a hi; ⟨.ref q, h1, fun H2 k => nats_at.mpr ⟨q, rfl, sq_of (k q _ h3 h4)⟩⟩⟩
end
end Bf
namespace Bf
open PySem PySem.Spec PyProof.Rows L2
open Evl
section
variable {K : PySem.W.Frag} {σ : L2.St} {H H' : Hp} {ta tb te tl : TE} {tA : TA} {x y z v : V} {α β : Type} {R : Rep α} {S : Rep β} {D : Ends} {tu tz : TS}
/-- for x, y in zip(..), of two lists that are read -/
theorem s_forZip {l : List α} {m : List β} {i1 i2 : Nat} (hlm : l.length = m.length) (h : EvC tA σ H fun vs H2 => ∃ x r, vs = x :: r ∧ (seqR K R).at_ H2 x l ∧ ∃ y s, r = y :: s ∧ (seqR K S).at_ H2 y m ∧ s = []) (Pv : Nat → L2.St → Hp → Prop) (h0 : ∀ H1, Ex H H1 → Pv 0 σ H1)
    (hs : ∀ B i a b v w σ' H', Ex H B → Ex B H' → l[i]? = some a → m[i]? = some b → R.at_ H' v a → S.at_ H' w b → Pv i σ' H' → tu { D with nx := fun σ3 H3 => Ex B H3 ∧ Pv (i + 1) σ3 H3, ct := fun σ3 H3 => Ex B H3 ∧ Pv (i + 1) σ3 H3, bk := D.nx } ((σ'.set i1 (some v)).set i2 (some w)) H')
    (hP : ∀ i σ' H' H'', Ex H' H'' → Pv i σ' H' → Pv i σ' H'')
    (hd : ∀ σ' H', Ex H H' → Pv l.length σ' H' → D.nx σ' H') : tFor (iZip K tA) (gTup K 2 (gCons (gName i1) (gCons (gName i2) gNil))) tu D σ H := by
  refine h H (Ex.refl H) _ fun vs H1 e1 hv => ?_
  obtain ⟨_, _, rfl, ⟨a, xs, rfl, ha, hx⟩, _, _, rfl, ⟨b, ys, rfl, hb, hy⟩, rfl⟩ := hv
  refine ⟨a, b, xs, ys, rfl, ha, hb, RZ.for_zipL (by rw [hx.1, hy.1]; exact hlm) (fun i σ' H' => Ex H1 H' ∧ Pv i σ' H') ⟨Ex.refl H1, h0 H1 e1⟩ (fun i σ' H' q => ⟨ex_l q.1 ha, ex_l q.1 hb⟩) (fun i x y T σ' H' hi hj q nT => ?_) (fun σ' H' q => hd σ' H' (e1.trans q.1) (by rw [← hx.1]; exact q.2))⟩
  have hil : i < l.length := by
    rw [← hx.1]
    exact (List.getElem?_eq_some_iff.mp hi).1
  have him : i < m.length := by omega
  obtain ⟨x', h1, h2⟩ := hx.2 i _ (List.getElem?_eq_getElem hil)
  obtain ⟨y', h3, h4⟩ := hy.2 i _ (List.getElem?_eq_getElem him)
  have ex : x = x' := Option.some.inj (hi.symm.trans h1)
  have ey : y = y' := Option.some.inj (hj.symm.trans h3)
  subst ex ey
  have e2 : Ex H' (upd H' T (.tup [x, y])) := Ex.new nT
  refine ⟨T, [x, y], rfl, st_of upd_same, rfl, x, [y], rfl, y, [], rfl, rfl, ?_⟩
  exact hs H1 i _ _ x y σ' _ e1 (q.1.trans e2) (List.getElem?_eq_getElem hil) (List.getElem?_eq_getElem him) (R.mono (q.1.trans e2) h2) (S.mono (q.1.trans e2) h4) (hP i σ' _ _ e2 q.2)
theorem q_forZip {l : List α} {m : List β} {i1 i2 : Nat} (hlm : l.length = m.length) (h : EvC tA σ H fun vs H2 => ∃ x r, vs = x :: r ∧ (seqR K R).at_ H2 x l ∧ ∃ y s, r = y :: s ∧ (seqR K S).at_ H2 y m ∧ s = []) (Pv : Nat → L2.St → Hp → Prop) (h0 : ∀ H1, Ex H H1 → Pv 0 σ H1)
    (hs : ∀ B i a b v w σ' H', Ex H B → Ex B H' → l[i]? = some a → m[i]? = some b → R.at_ H' v a → S.at_ H' w b → Pv i σ' H' → tu { D with nx := fun σ3 H3 => Ex B H3 ∧ Pv (i + 1) σ3 H3, ct := fun σ3 H3 => Ex B H3 ∧ Pv (i + 1) σ3 H3, bk := tz D } ((σ'.set i1 (some v)).set i2 (some w)) H')
    (hP : ∀ i σ' H' H'', Ex H' H'' → Pv i σ' H' → Pv i σ' H'')
    (hd : ∀ σ' H', Ex H H' → Pv l.length σ' H' → tz D σ' H') : tSeq (tFor (iZip K tA) (gTup K 2 (gCons (gName i1) (gCons (gName i2) gNil))) tu) tz D σ H := s_forZip (D := { D with nx := tz D }) hlm h Pv h0 hs hP hd
/-- of two new lists, where the body may change what the def made -/
theorem s_forZipN {l : List α} {m : List β} {i1 i2 : Nat} (hlm : l.length = m.length) (ha : EvNL R ta σ H l) (hb : EvNL S tb σ H m) (Pv : Nat → L2.St → Hp → Prop) (h0 : ∀ H1, Ex H H1 → Pv 0 σ H1)
    (hs : ∀ B i a b v w σ' H', Ex H B → Kept H B H' → l[i]? = some a → m[i]? = some b → Stay R H B v a → Stay S H B w b → Pv i σ' H' → tu { D with nx := fun σ3 H3 => Kept H B H3 ∧ Pv (i + 1) σ3 H3, ct := fun σ3 H3 => Kept H B H3 ∧ Pv (i + 1) σ3 H3, bk := D.nx } ((σ'.set i1 (some v)).set i2 (some w)) H')
    (hP : ∀ i σ' H' H'', Ex H' H'' → Pv i σ' H' → Pv i σ' H'')
    (hd : ∀ σ' H', Pv l.length σ' H' → D.nx σ' H') : tFor (iZip K (tCons ta (tCons tb tNil))) (gTup K 2 (gCons (gName i1) (gCons (gName i2) gNil))) tu D σ H := by
  refine ha H (Ex.refl H) _ fun w1 H1 e1 hw1 => hb H1 e1 _ fun w2 B e2 hw2 => ?_
  have eB : Ex H B := e1.trans e2
  obtain ⟨p, xs, rfl, hp0, hp, hl, hx⟩ := hw1.on e2
  obtain ⟨r, ys, rfl, hr0, hr, hm, hy⟩ := hw2.from_ e1
  refine ⟨p, r, xs, ys, rfl, sq_of hp, sq_of hr, RZ.for_zipL (by rw [hl, hm]; exact hlm) (fun i σ' H' => Kept H B H' ∧ Pv i σ' H') ⟨Kept.self, h0 B eB⟩ (fun i σ' H' q => ⟨sq_of (q.1 p _ hp0 hp), sq_of (q.1 r _ hr0 hr)⟩) (fun i x y T σ' H' hi hj q nT => ?_) (fun σ' H' q => hd σ' H' (by rw [← hl]; exact q.2))⟩
  have hil : i < l.length := by
    rw [← hl]
    exact (List.getElem?_eq_some_iff.mp hi).1
  have him : i < m.length := by omega
  obtain ⟨x', h1, h2⟩ := hx i _ (List.getElem?_eq_getElem hil)
  obtain ⟨y', h3, h4⟩ := hy i _ (List.getElem?_eq_getElem him)
  have ex : x = x' := Option.some.inj (hi.symm.trans h1)
  have ey : y = y' := Option.some.inj (hj.symm.trans h3)
  subst ex ey
  have e3 : Ex H' (upd H' T (.tup [x, y])) := Ex.new nT
  refine ⟨T, [x, y], rfl, st_of upd_same, rfl, x, [y], rfl, y, [], rfl, rfl, ?_⟩
  exact hs B i _ _ x y σ' _ eB (q.1.ex e3) (List.getElem?_eq_getElem hil) (List.getElem?_eq_getElem him) h2 h4 (hP i σ' _ _ e3 q.2)
theorem q_forZipN {l : List α} {m : List β} {i1 i2 : Nat} (hlm : l.length = m.length) (ha : EvNL R ta σ H l) (hb : EvNL S tb σ H m) (Pv : Nat → L2.St → Hp → Prop) (h0 : ∀ H1, Ex H H1 → Pv 0 σ H1)
    (hs : ∀ B i a b v w σ' H', Ex H B → Kept H B H' → l[i]? = some a → m[i]? = some b → Stay R H B v a → Stay S H B w b → Pv i σ' H' → tu { D with nx := fun σ3 H3 => Kept H B H3 ∧ Pv (i + 1) σ3 H3, ct := fun σ3 H3 => Kept H B H3 ∧ Pv (i + 1) σ3 H3, bk := tz D } ((σ'.set i1 (some v)).set i2 (some w)) H')
    (hP : ∀ i σ' H' H'', Ex H' H'' → Pv i σ' H' → Pv i σ' H'')
    (hd : ∀ σ' H', Pv l.length σ' H' → tz D σ' H') : tSeq (tFor (iZip K (tCons ta (tCons tb tNil))) (gTup K 2 (gCons (gName i1) (gCons (gName i2) gNil))) tu) tz D σ H := s_forZipN (D := { D with nx := tz D }) hlm ha hb Pv h0 hs hP hd
/-- for i in range(n, -1, -1) -/
theorem s_forDown {j n : Nat} (h : EvA tA σ H [natV n, .int (-1), .int (-1)]) (hn : n ≤ 100000) (Pv : Nat → L2.St → Hp → Prop) (h0 : ∀ H1, Ex H H1 → Pv 0 σ H1)
    (hs : ∀ (i : Nat) σ' H', i ≤ n → Pv i σ' H' → tu { D with nx := Pv (i + 1), ct := Pv (i + 1), bk := D.nx } (σ'.set j (some (natV (n - i)))) H') (hd : ∀ σ' H', Pv (n + 1) σ' H' → D.nx σ' H') : tFor (iRng3 tA) (gName j) tu D σ H :=
  h H (Ex.refl H) _ fun H1 e => ⟨n, -1, -1, n + 1, rfl, by
    have := RgC.neg (i := (n : Int)) (j := -1) (by omega) (by omega) (by omega) (by omega)
    rw [show ((n : Int) - -1).toNat = n + 1 by omega] at this
    exact this, for_rangeC (lo := (n : Int)) (c := -1) (n := n + 1) Pv (h0 H1 e) (fun i σ' H' hi p => by
    have e0 : (n : Int) + (i : Nat) * (-1) = ((n - i : Nat) : Int) := by omega
    show tu { D with nx := Pv (i + 1), ct := Pv (i + 1), bk := D.nx } (σ'.set j (some (.int ((n : Int) + (i : Nat) * (-1))))) H'
    rw [e0]
    exact hs i σ' H' (by omega) p) hd⟩
theorem q_forDown {j n : Nat} (h : EvA tA σ H [natV n, .int (-1), .int (-1)]) (hn : n ≤ 100000) (Pv : Nat → L2.St → Hp → Prop) (h0 : ∀ H1, Ex H H1 → Pv 0 σ H1)
    (hs : ∀ (i : Nat) σ' H', i ≤ n → Pv i σ' H' → tu { D with nx := Pv (i + 1), ct := Pv (i + 1), bk := tz D } (σ'.set j (some (natV (n - i)))) H') (hd : ∀ σ' H', Pv (n + 1) σ' H' → tz D σ' H') : tSeq (tFor (iRng3 tA) (gName j) tu) tz D σ H := s_forDown (D := { D with nx := tz D }) h hn Pv h0 hs hd
/-- xs.extend(a new list) -/
theorem s_ext {l : Addr} {xs ys : List V} (hl : H l = some (.lst xs)) (ha : Ev ta σ H (.ref l)) (h : EvL te σ H ys) (hz : xs.length + ys.length ≤ 100000) (k : ∀ H1, Ex H H1 → D.nx σ (upd H1 l (.lst (xs ++ ys)))) :
    tDrop (tBM K "list" rExtend ta (tCons te tNil)) D σ H := ha H (Ex.refl H) _ fun H1 e1 =>
  ⟨Or.inl ⟨rfl, xs, sq_of (e1 l _ hl)⟩, h H1 e1 _ fun p H2 hp e2 h2 => ⟨l, p, xs, ys, rfl, rfl, e2 l _ (e1 l _ hl), h2, sz_of hz, k H2 (e1.trans e2)⟩⟩
/-- min, sum -/
def rMin2 : List V → Hp → VK → Prop := fun xs H Q => ∃ i j, xs = [.int i, .int j] ∧ Q (.int (if j < i then j else i)) H
theorem ev_min2 {a b : Nat} (ha : Ev ta σ H (natV a)) (hb : Ev tb σ H (natV b)) : Ev (tCB rMin2 (tCons ta (tCons tb tNil))) σ H (natV (min a b)) := fun H1 e Q q =>
  ha H1 e _ fun H2 e2 => hb H2 (e.trans e2) _ fun H3 e3 => ⟨a, b, rfl, by
    have e4 : (if (b : Int) < (a : Int) then (b : Int) else (a : Int)) = ((min a b : Nat) : Int) := by
      split <;> omega
    rw [e4]
    exact q H3 (e2.trans e3)⟩
theorem sum_cast : ∀ l : List Nat, (l.map (fun n : Nat => (n : Int))).sum = ((Na.total l : Nat) : Int)
  | [] => rfl
  | x :: l => by
    show (x : Int) + (l.map (fun n : Nat => (n : Int))).sum = ((x + Na.total l : Nat) : Int)
    rw [sum_cast l]
    omega
theorem ev_sum {p : Addr} {l : List Nat} (ha : Ev ta σ H (.ref p)) (h : SqL K H p (l.map natV)) : Ev (tCB (rSum K) (tCons ta tNil)) σ H (natV (Na.total l)) := fun H1 e Q q =>
  ha H1 e _ fun H2 e2 => ⟨p, l.map (fun n : Nat => (n : Int)), rfl, by
    rw [List.map_map]
    exact ex_l (e.trans e2) h, by
    rw [sum_cast]
    exact q H2 e2⟩
/-! ### lists of whole numbers, compared -/
def datN (l : List Nat) : List PyData := l.map fun n : Nat => .int (n : Int)
theorem dp_nats : ∀ l : List Nat, DpAll K H (l.map natV) (datN l)
  | [] => .nil
  | x :: l => .cons (.int _) (dp_nats l)
theorem dat_eqv : ∀ l m : List Nat, PyData.eqvAll (datN l) (datN m) = decide (l = m)
  | [], [] => rfl
  | [], _ :: _ => rfl
  | _ :: _, [] => rfl
  | x :: l, y :: m => by
    show (PyData.eqv (.int (x : Int)) (.int (y : Int)) && PyData.eqvAll (datN l) (datN m)) = _
    rw [dat_eqv l m]
    show (((x : Int) == (y : Int)) && decide (l = m)) = _
    rw [Bool.eq_iff_iff]
    simp
    exact fun _ => Int.ofNat_inj
theorem dat_lay : ∀ l : List Nat, PyData.canLayAll0 (datN l) = true
  | [] => rfl
  | x :: l => by
    show (PyData.canLay0 (.int (x : Int)) && PyData.canLayAll0 (datN l)) = true
    rw [dat_lay l]
    rfl
theorem dat_depth : ∀ l : List Nat, PyData.depthAll (datN l) = 0
  | [] => rfl
  | x :: l => by
    show max (PyData.depth (.int (x : Int))) (PyData.depthAll (datN l)) = 0
    rw [dat_depth l]
    rfl
theorem dat_shaped (l : List Nat) : SeqAt.shaped (.list (datN l)) = true := by
  show (PyData.canLayAll0 (datN l) && decide (PyData.depthAll (datN l) + 1 ≤ 64)) = true
  rw [dat_lay, dat_depth]
  rfl
theorem ev_neN {p : Addr} {l m : List Nat} (ha : Ev ta σ H (.ref p)) (hp : SqL K H p (l.map natV)) (hb : EvL tb σ H (m.map natV)) : Ev (tOp (rNeD K) ta tb) σ H (.bl (!decide (l = m))) := fun H1 e Q q =>
  ha H1 e _ fun H2 e2 => hb H2 (e.trans e2) _ fun b H3 hb0 e3 h3 => ⟨.list (datN l), .list (datN m), .lst (ex_l (e.trans (e2.trans e3)) hp) (dp_nats l), .lst (sq_of h3) (dp_nats m), dat_shaped l, dat_shaped m, by
    show Q (.bl (!PyData.eqvAll (datN l) (datN m))) H3
    rw [dat_eqv]
    exact q H3 (e2.trans e3)⟩
end
section
variable {X : Cx} {K : PySem.W.Frag}
theorem minS (hc : X.calm = true := by rfl) : CallR X (.builtin "min") rMin2 := call_min2 hc
theorem sumS (h : X.K = K := by rfl) (hc : X.calm = true := by rfl) : CallR X (.builtin "sum") (rSum K) := h ▸ cr_sum hc
theorem neS (hu : X.A.units + 64 < cLine) (h : X.K = K := by rfl) : OpR X (compareOp .NotEq) (rNeD K) := h ▸ op_neD hu
end
end Bf
namespace Bf
open PySem PySem.Spec PyProof.Rows L2
open Evl
/-! ### dicts from whole numbers to whole numbers -/
def encD (l : List (Nat × Nat)) : List (Key × V) := l.map fun x => ((Sum.inl (x.1 : Int) : Key), natV x.2)
def look (l : List (Nat × Nat)) (u : Nat) : Option Nat := (l.find? fun x => decide (x.1 = u)).map (·.2)
def put : List (Nat × Nat) → Nat → Nat → List (Nat × Nat)
  | [], u, c => [(u, c)]
  | x :: l, u, c => if x.1 = u then (u, c) :: l else x :: put l u c
theorem key_eq {a b : Nat} : ((Sum.inl (a : Int) : Key) = Sum.inl (b : Int)) ↔ a = b := ⟨fun h => Int.ofNat.inj (Sum.inl.inj h), fun h => by rw [h]⟩
theorem look_cons (x : Nat × Nat) (l : List (Nat × Nat)) (u : Nat) : look (x :: l) u = if x.1 = u then some x.2 else look l u := by
  unfold look
  rw [List.find?_cons]
  by_cases e : x.1 = u
  · rw [decide_eq_true e, if_pos e]
    rfl
  · rw [decide_eq_false e, if_neg e]
theorem valV_enc : ∀ (l : List (Nat × Nat)) (u : Nat), valV (encD l) (Sum.inl (u : Int) : Key) = (look l u).map natV
  | [], u => rfl
  | x :: l, u => by
    rw [look_cons]
    by_cases e : x.1 = u
    · rw [if_pos e]
      exact valV_pos (key_eq.mpr e)
    · rw [if_neg e, ← valV_enc l u]
      exact valV_neg (fun h => e (key_eq.mp h))
theorem look_none {l : List (Nat × Nat)} {u : Nat} : look l u = none ↔ u ∉ l.map (·.1) := by
  induction l with
  | nil => simp [look]
  | cons x l ih =>
    rw [look_cons]
    by_cases e : x.1 = u
    · rw [if_pos e]
      simp [e]
    · rw [if_neg e, ih]
      simp only [List.map_cons, List.mem_cons, not_or]
      exact ⟨fun h => ⟨fun z => e z.symm, h⟩, fun h => h.2⟩
theorem put_new : ∀ {l : List (Nat × Nat)} {u : Nat} (c : Nat), u ∉ l.map (·.1) → put l u c = l ++ [(u, c)]
  | [], u, c, _ => rfl
  | x :: l, u, c, h => by
    simp only [List.map_cons, List.mem_cons, not_or] at h
    show (if x.1 = u then (u, c) :: l else x :: put l u c) = _
    rw [if_neg (fun e => h.1 e.symm), put_new c h.2]
    rfl
theorem map_same {l : List (Nat × Nat)} {u c : Nat} (h : u ∉ l.map (·.1)) : (encD l).map (fun (kv : Key × V) => if kv.1 = Sum.inl (u : Int) then (kv.1, natV c) else kv) = encD l := by
  unfold encD
  rw [List.map_map]
  refine List.map_congr_left fun x hx => ?_
  show (if (Sum.inl (x.1 : Int) : Key) = Sum.inl (u : Int) then _ else _) = _
  rw [if_neg fun e => h (List.mem_map.mpr ⟨x, hx, key_eq.mp e⟩)]
theorem putK_enc : ∀ (l : List (Nat × Nat)) (u c : Nat), (l.map (·.1)).Nodup → putK (encD l) (Sum.inl (u : Int) : Key) (natV c) = encD (put l u c) := by
  intro l u c hn
  by_cases h : u ∈ l.map (·.1)
  · unfold putK
    have ha : ((encD l).any fun kv => decide (kv.1 = Sum.inl (u : Int))) = true := by
      obtain ⟨x, hx, e⟩ := List.mem_map.mp h
      exact List.any_eq_true.mpr ⟨_, List.mem_map.mpr ⟨x, hx, rfl⟩, decide_eq_true (key_eq.mpr e)⟩
    rw [if_pos ha]
    have key : ∀ l : List (Nat × Nat), (l.map (·.1)).Nodup → u ∈ l.map (·.1) → (encD l).map (fun (kv : Key × V) => if kv.1 = Sum.inl (u : Int) then (kv.1, natV c) else kv) = encD (put l u c) := by
      intro l
      induction l with
      | nil => intro _ h; cases h
      | cons x l ih =>
        intro hn h
        obtain ⟨h1, h2⟩ := List.nodup_cons.mp hn
        show (if (Sum.inl (x.1 : Int) : Key) = Sum.inl (u : Int) then ((Sum.inl (x.1 : Int) : Key), natV c) else ((Sum.inl (x.1 : Int) : Key), natV x.2)) :: (encD l).map _ = encD (if x.1 = u then (u, c) :: l else x :: put l u c)
        by_cases e : x.1 = u
        · rw [if_pos (key_eq.mpr e), if_pos e, map_same (by rw [← e]; exact h1), e]
          rfl
        · rw [if_neg fun z => e (key_eq.mp z), if_neg e, ih h2 (by
            rcases List.mem_cons.mp h with z | z
            · exact absurd z.symm e
            · exact z)]
          rfl
    exact key l hn h
  · rw [put_new c h]
    have hv : valV (encD l) (Sum.inl (u : Int) : Key) = none := by
      rw [valV_enc, look_none.mpr h]
      rfl
    rw [putK_new _ hv]
    unfold encD
    rw [List.map_append]
    rfl
theorem put_keysD : ∀ (l : List (Nat × Nat)) (u c : Nat), (put l u c).map (·.1) = if u ∈ l.map (·.1) then l.map (·.1) else l.map (·.1) ++ [u]
  | [], u, c => rfl
  | x :: l, u, c => by
    have ih := put_keysD l u c
    show (if x.1 = u then (u, c) :: l else x :: put l u c).map (·.1) = _
    by_cases e : x.1 = u
    · rw [if_pos e, if_pos (by simp [e])]
      show u :: l.map (·.1) = x.1 :: l.map (·.1)
      rw [e]
    · rw [if_neg e]
      show x.1 :: (put l u c).map (·.1) = _
      rw [ih]
      by_cases h : u ∈ l.map (·.1)
      · rw [if_pos h, List.map_cons, if_pos (List.mem_cons_of_mem _ h)]
      · rw [if_neg h, List.map_cons, if_neg (by simp only [List.mem_cons, not_or]; exact ⟨fun h => e h.symm, h⟩)]
        rfl
theorem put_nodupD {l : List (Nat × Nat)} {u c : Nat} (h : (l.map (·.1)).Nodup) : ((put l u c).map (·.1)).Nodup := by
  rw [put_keysD]
  split
  · exact h
  · rename_i hu
    exact nd_snoc h hu
theorem put_len (l : List (Nat × Nat)) (u c : Nat) : (put l u c).length ≤ l.length + 1 := by
  have e := congrArg List.length (put_keysD l u c)
  rw [List.length_map] at e
  rw [e]
  split <;> simp
/-- d[u] = d.get(u, z) with c put to it by f -/
theorem put_with (f : Nat → Nat → Nat) (g : Nat → Nat) (hg : ∀ c, g c = c) (z u c : Nat) : ∀ l : List (Nat × Nat), put l u (match look l u with
    | some a => f a c
    | none => c) = Na.putWith f u c l
  | [] => rfl
  | x :: l => by
    have ih := put_with f g hg z u c l
    rw [look_cons]
    show _ = if x.1 = u then (u, f x.2 c) :: l else x :: Na.putWith f u c l
    by_cases e : x.1 = u
    · rw [if_pos e, if_pos e]
      show (if x.1 = u then (u, f x.2 c) :: l else _) = _
      rw [if_pos e]
    · rw [if_neg e, if_neg e, ← ih]
      show (if x.1 = u then _ else x :: put l u _) = _
      rw [if_neg e]
theorem put_add (l : List (Nat × Nat)) (u c : Nat) : put l u ((look l u).getD 0 + c) = Na.putWith (fun a b => a + b) u c l := by
  rw [← put_with (fun a b => a + b) id (fun _ => rfl) 0 u c l]
  cases look l u with
  | none => exact congrArg (put l u) (Nat.zero_add c)
  | some a => rfl
section
variable {K : PySem.W.Frag} {σ : L2.St} {H H' : Hp} {ta tb te td ty tx tv : TE} {D : Ends} {tu tz : TS} {l : List (Nat × Nat)} {d : Addr} {u c z : Nat} {a b : Nat}
theorem ex_rdD {kvs : List (Key × V)} (e : Ex H H') (h : Rd H d (.dK kvs)) : Rd H' d (.dK kvs) := ex_rd e h
theorem ev_dget2 (hd : Rd H d (.dK (encD l))) (h1 : Ev td σ H (.ref d)) (h2 : Ev ty σ H (natV u)) (h3 : Ev tx σ H (natV z)) : Ev (tDGet2 td ty tx) σ H (natV ((look l u).getD z)) := fun H1 e Q q =>
  h1 H1 e _ fun H2 e2 => ⟨d, rfl, .inl ⟨_, ex_rd (e.trans e2) hd⟩, h2 H2 (e.trans e2) _ fun H3 e3 => h3 H3 ((e.trans e2).trans e3) _ fun H4 e4 => by
    refine ⟨_, .inl ⟨_, (Sum.inl (u : Int) : Key), ex_rd (((e.trans e2).trans e3).trans e4) hd, rfl, rfl⟩, ?_⟩
    rw [valV_enc]
    have : ((look l u).map natV).getD (natV z) = natV ((look l u).getD z) := by cases look l u <;> rfl
    rw [this]
    exact q H4 ((e2.trans e3).trans e4)⟩
theorem ev_dget (hd : Rd H d (.dK (encD l))) (h1 : Ev td σ H (.ref d)) (h2 : Ev ty σ H (natV u)) (hl : look l u = some c) : Ev (tDGet td ty) σ H (natV c) := fun H1 e Q q =>
  h1 H1 e _ fun H2 e2 => h2 H2 (e.trans e2) _ fun H3 e3 => ⟨d, natV c, rfl, .inl ⟨_, (Sum.inl (u : Int) : Key), ex_rd ((e.trans e2).trans e3) hd, rfl, by rw [valV_enc, hl]; rfl⟩, q H3 (e2.trans e3)⟩
theorem ev_din (hd : Rd H d (.dK (encD l))) (h1 : Ev td σ H (.ref d)) (h2 : Ev ty σ H (natV u)) : Ev (tDIn ty td) σ H (.bl (look l u).isSome) := fun H1 e Q q =>
  h2 H1 e _ fun H2 e2 => h1 H2 (e.trans e2) _ fun H3 e3 => ⟨d, _, rfl, .inl ⟨_, (Sum.inl (u : Int) : Key), ex_rd ((e.trans e2).trans e3) hd, rfl, rfl⟩, by
    rw [valV_enc, Option.isSome_map]
    exact q H3 (e2.trans e3)⟩
theorem ev_dnotin (hd : Rd H d (.dK (encD l))) (h1 : Ev td σ H (.ref d)) (h2 : Ev ty σ H (natV u)) : Ev (tDNotIn ty td) σ H (.bl (!(look l u).isSome)) := fun H1 e Q q =>
  h2 H1 e _ fun H2 e2 => h1 H2 (e.trans e2) _ fun H3 e3 => ⟨d, _, rfl, .inl ⟨_, (Sum.inl (u : Int) : Key), ex_rd ((e.trans e2).trans e3) hd, rfl, rfl⟩, by
    rw [valV_enc, Option.isSome_map]
    exact q H3 (e2.trans e3)⟩
/-- d[u] = c -/
theorem s_dput (hd : H d = some (.dK (encD l))) (hn : (l.map (·.1)).Nodup) (hz : l.length < 100000) (hv : Ev tv σ H (natV c)) (h1 : Ev td σ H (.ref d)) (h2 : Ev ty σ H (natV u)) (k : ∀ H1, Ex H H1 → D.nx σ (upd H1 d (.dK (encD (put l u c))))) : sDPut td ty tv D σ H :=
  hv H (Ex.refl H) _ fun H2 e2 => h1 H2 e2 _ fun H3 e3 => h2 H3 (e2.trans e3) _ fun H4 e4 => ⟨d, _, rfl, .inl ⟨_, (Sum.inl (u : Int) : Key), ((e2.trans e3).trans e4) _ _ hd, rfl, sz_lt (by
    unfold encD
    rw [List.length_map]
    exact hz), rfl⟩, by
    rw [putK_enc l u c hn]
    exact k H4 ((e2.trans e3).trans e4)⟩
theorem q_dput (hd : H d = some (.dK (encD l))) (hn : (l.map (·.1)).Nodup) (hz : l.length < 100000) (hv : Ev tv σ H (natV c)) (h1 : Ev td σ H (.ref d)) (h2 : Ev ty σ H (natV u)) (k : ∀ H1, Ex H H1 → tz D σ (upd H1 d (.dK (encD (put l u c))))) : tSeq (sDPut td ty tv) tz D σ H := s_dput (D := { D with nx := tz D }) hd hn hz hv h1 h2 k
/-- a new dict -/
theorem q_dnew {i : Nat} (k : ∀ p, H p = none → tz D (σ.set i (some (.ref p))) (upd H p (.dK (encD [])))) : tSeq (tAsg tDNewK (gName i)) tz D σ H := fun p hp => k p hp
/-- for u, c in d.items() -/
theorem s_forItems (hd : H d = some (.dK (encD l))) (he : ∀ od : Obj, Ev td σ (upd H d (.frz od (.dK (encD l)))) (.ref d)) (Pv : Obj → Nat → L2.St → Hp → Prop)
    (h0 : ∀ od H1, Ex (upd H d (.frz od (.dK (encD l)))) H1 → Pv od 0 σ H1) (hl : ∀ od i σ' H', Pv od i σ' H' → H' d = some (.frz od (.dK (encD l)))) (hP : ∀ od i σ' H' H'', Ex H' H'' → Pv od i σ' H' → Pv od i σ' H'')
    (hs : ∀ (od : Obj) (i : Nat) (u c : Nat) σ' H', l[i]? = some (u, c) → Pv od i σ' H' → tu ⟨Pv od (i + 1), fun v H3 => H3 d = some (.frz od (.dK (encD l))) ∧ D.rt v (upd H3 d (.dK (encD l))), fun σ3 H3 => H3 d = some (.frz od (.dK (encD l))) ∧ D.nx σ3 (upd H3 d (.dK (encD l))), Pv od (i + 1)⟩ ((σ'.set a (some (natV u))).set b (some (natV c))) H')
    (hz : ∀ od σ' H', Pv od l.length σ' H' → D.nx σ' (upd H' d (.dK (encD l)))) : tLock (tFor (iItems td) (gTup K 2 (gCons (gName a) (gCons (gName b) gNil))) tu) D σ H := by
  refine ⟨d, _, hd, trivial, fun od => ?_⟩
  refine he od _ (Ex.refl _) _ fun H1 e1 => ?_
  have hd1 : H1 d = some (.frz od (.dK (encD l))) := e1 _ _ upd_same
  have len : (encD l).length = l.length := by
    unfold encD
    rw [List.length_map]
  refine ⟨d, od, _, rfl, hd1, fun i m σ' H' => m = l.length - i ∧ i ≤ l.length ∧ Pv od i σ' H', ⟨l.length, by simp, Nat.zero_le _, h0 od H1 e1⟩, ?_⟩
  rintro i m σ' H' ⟨rfl, hi, p⟩
  by_cases hlt : i < l.length
  · refine .inr ⟨⟨hl od i σ' H' p, by rw [len]; exact hlt⟩, Pv od (i + 1), fun σ3 H3 n => ⟨l.length - (i + 1), by omega, rfl, hlt, n⟩, ?_⟩
    rintro x H'' ⟨T, k, v, hk, rfl, nT, rfl⟩
    have e2 : Ex H' (upd H' T (.tup [kV k, v])) := Ex.new nT
    obtain ⟨⟨u, c⟩, huc⟩ : ∃ y, l[i]? = some y := ⟨l[i], List.getElem?_eq_getElem hlt⟩
    unfold encD at hk
    rw [List.getElem?_map, huc] at hk
    have ek := Option.some.inj hk
    obtain ⟨rfl, rfl⟩ := Prod.mk.inj ek
    refine ⟨T, [kV (Sum.inl (u : Int)), natV c], rfl, st_of upd_same, rfl, natV u, [natV c], rfl, natV c, [], rfl, rfl, ?_⟩
    exact hs od i u c σ' _ huc (hP od i σ' _ _ e2 p)
  · have e : i = l.length := by omega
    subst e
    exact .inl ⟨⟨hl od _ σ' H' p, by rw [len]; exact Nat.le_refl _⟩, hl od _ σ' H' p, hz od σ' H' p⟩
theorem q_forItems (hd : H d = some (.dK (encD l))) (he : ∀ od : Obj, Ev td σ (upd H d (.frz od (.dK (encD l)))) (.ref d)) (Pv : Obj → Nat → L2.St → Hp → Prop)
    (h0 : ∀ od H1, Ex (upd H d (.frz od (.dK (encD l)))) H1 → Pv od 0 σ H1) (hl : ∀ od i σ' H', Pv od i σ' H' → H' d = some (.frz od (.dK (encD l)))) (hP : ∀ od i σ' H' H'', Ex H' H'' → Pv od i σ' H' → Pv od i σ' H'')
    (hs : ∀ (od : Obj) (i : Nat) (u c : Nat) σ' H', l[i]? = some (u, c) → Pv od i σ' H' → tu ⟨Pv od (i + 1), fun v H3 => H3 d = some (.frz od (.dK (encD l))) ∧ D.rt v (upd H3 d (.dK (encD l))), fun σ3 H3 => H3 d = some (.frz od (.dK (encD l))) ∧ tz D σ3 (upd H3 d (.dK (encD l))), Pv od (i + 1)⟩ ((σ'.set a (some (natV u))).set b (some (natV c))) H')
    (hz : ∀ od σ' H', Pv od l.length σ' H' → tz D σ' (upd H' d (.dK (encD l)))) : tSeq (tLock (tFor (iItems td) (gTup K 2 (gCons (gName a) (gCons (gName b) gNil))) tu)) tz D σ H := s_forItems (D := { D with nx := tz D }) hd he Pv h0 hl hP hs hz
/-! a new dict that is handed back -/
def RetD (T : List (Nat × Nat)) (H : Hp) (Q : VK) : Prop := ∀ d H2, Ex H H2 → H d = none → H2 d = some (.dK (encD T)) → Q (.ref d) H2
def EvD (te : TE) (σ : L2.St) (H : Hp) (T : List (Nat × Nat)) : Prop := ∀ H1, Ex H H1 → ∀ Q : VK, (∀ d H2, Ex H1 H2 → H1 d = none → H2 d = some (.dK (encD T)) → Q (.ref d) H2) → te σ H1 Q
theorem ed_call {T : List (Nat × Nat)} {sp : Sp} {E : XK} {ta : TA} {P : List V → Hp → Prop} (h : EvC ta σ H P) (hs : ∀ vs H1, Ex H H1 → P vs H1 → ∀ Q : VK, RetD T H1 Q → ∀ E, sp vs H1 Q E) : EvD (tCall sp [] E ta) σ H T := fun H1 e Q q =>
  h H1 e _ fun vs H2 e2 hp => by
    show sp (vs ++ []) H2 Q E
    rw [List.append_nil]
    exact hs vs H2 (e.trans e2) hp Q (fun d H3 e3 hd h3 => q d H3 (e2.trans e3) (fresh_back e2 hd) h3) E
theorem q_asgD {T : List (Nat × Nat)} {i : Nat} (h : EvD te σ H T) (k : ∀ d H1, Ex H H1 → H d = none → H1 d = some (.dK (encD T)) → tz D (σ.set i (some (.ref d))) H1) : tSeq (tAsg te (gName i)) tz D σ H := h H (Ex.refl H) _ k
theorem s_asgD {T : List (Nat × Nat)} {i : Nat} (h : EvD te σ H T) (k : ∀ d H1, Ex H H1 → H d = none → H1 d = some (.dK (encD T)) → D.nx (σ.set i (some (.ref d))) H1) : tAsg te (gName i) D σ H := h H (Ex.refl H) _ k
/-! all that was stands, but at one place -/
def ExBut (d : Addr) (H H' : Hp) : Prop := ∀ a x, a ≠ d → H a = some x → H' a = some x
theorem ExBut.of {H H' : Hp} {d : Addr} (e : Ex H H') : ExBut d H H' := fun a x _ h => e a x h
theorem ExBut.ex {H H1 H2 : Hp} {d : Addr} (h : ExBut d H H1) (e : Ex H1 H2) : ExBut d H H2 := fun a x n k => e a x (h a x n k)
theorem ExBut.at {H H1 : Hp} {d : Addr} {o : HO} (h : ExBut d H H1) : ExBut d H (upd H1 d o) := fun a x n k => by
  rw [upd_ne n]
  exact h a x n k
theorem ExBut.new {H H1 : Hp} {d p : Addr} {o : HO} (h : ExBut d H H1) (hp : H p = none) : ExBut d H (upd H1 p o) := fun a x n k => by
  rw [upd_ne (ne_of_none k hp)]
  exact h a x n k
theorem ExBut.back {H H1 : Hp} {d : Addr} {o : HO} (h : ExBut d H H1) (hd : H d = some o) : Ex H (upd H1 d o) := fun a x k => by
  by_cases e : a = d
  · subst e
    rw [upd_same, ← hd]
    exact k
  · rw [upd_ne e]
    exact h a x e k
theorem but_nats {H H1 : Hp} {d : Addr} {kv : List (Key × V)} {v : V} {g : List Nat} (h : ExBut d H H1) (hd : H d = some (.dK kv)) (hv : (seqR K natR).at_ H v g) : (seqR K natR).at_ H1 v g := by
  obtain ⟨p, rfl, hp⟩ := nats_at.mp hv
  refine nats_at.mpr ⟨p, rfl, ?_⟩
  rcases hp with (hp | ⟨o, hp⟩) | hp
  · have hne : p ≠ d := fun e => by
      rw [e, hd] at hp
      cases hp
    exact .inl (.inl (h _ _ hne hp))
  · have hne : p ≠ d := fun e => by
      rw [e, hd] at hp
      cases hp
    exact .inl (.inr ⟨o, h _ _ hne hp⟩)
  · exact .inr hp
end
end Bf
namespace Bf
open PySem PySem.Spec PyProof.Rows L2
open Evl
open PySem.W (Codec)
def top (i : Nat) : Stmt := PySem.Challenge.pw_beadframes_s05_show.main.body.getD i (.Pass ⟨0, 0, 0, 0⟩)
abbrev s_rods_of : Stmt := top 8
abbrev N_rods_of : List Str := ["make", "start"]
theorem sc_rods_of : FnScope N_rods_of ["make"] (defScope s_rods_of) := ⟨rfl, rfl, rfl, by decide +kernel, rfl, by decide +kernel, by decide +kernel⟩
abbrev s_decks_of : Stmt := top 9
abbrev N_decks_of : List Str := ["rod"]
theorem sc_decks_of : FnScope N_decks_of ["rod"] (defScope s_decks_of) := ⟨rfl, rfl, rfl, by decide +kernel, rfl, by decide +kernel, by decide +kernel⟩
abbrev s_worth_together : Stmt := top 10
abbrev N_worth_together : List Str := ["rod", "total", "beads", "worth"]
theorem sc_worth_together : FnScope N_worth_together ["rod"] (defScope s_worth_together) := ⟨rfl, rfl, rfl, by decide +kernel, rfl, by decide +kernel, by decide +kernel⟩
abbrev s_has_whole_rods : Stmt := top 11
abbrev N_has_whole_rods : List Str := ["make"]
theorem sc_has_whole_rods : FnScope N_has_whole_rods ["make"] (defScope s_has_whole_rods) := ⟨rfl, rfl, rfl, by decide +kernel, rfl, by decide +kernel, by decide +kernel⟩
abbrev s_deck_is_sound : Stmt := top 12
abbrev N_deck_is_sound : List Str := ["beads", "worth"]
theorem sc_deck_is_sound : FnScope N_deck_is_sound ["beads", "worth"] (defScope s_deck_is_sound) := ⟨rfl, rfl, rfl, by decide +kernel, rfl, by decide +kernel, by decide +kernel⟩
abbrev s_decks_are_in_turn : Stmt := top 13
abbrev N_decks_are_in_turn : List Str := ["rod", "decks"]
theorem sc_decks_are_in_turn : FnScope N_decks_are_in_turn ["rod"] (defScope s_decks_are_in_turn) := ⟨rfl, rfl, rfl, by decide +kernel, rfl, by decide +kernel, by decide +kernel⟩
abbrev s_numbers_are_sound : Stmt := top 14
abbrev N_numbers_are_sound : List Str := ["rod", "beads", "worth"]
theorem sc_numbers_are_sound : FnScope N_numbers_are_sound ["rod"] (defScope s_numbers_are_sound) := ⟨rfl, rfl, rfl, by decide +kernel, rfl, by decide +kernel, by decide +kernel⟩
abbrev s_pushable_counts : Stmt := top 15
abbrev N_pushable_counts : List Str := ["rod", "counts", "beads", "worth", "bead"]
theorem sc_pushable_counts : FnScope N_pushable_counts ["rod"] (defScope s_pushable_counts) := ⟨rfl, rfl, rfl, by decide +kernel, rfl, by decide +kernel, by decide +kernel⟩
abbrev s_each_digit_can_be_pushed : Stmt := top 16
abbrev N_each_digit_can_be_pushed : List Str := ["rod", "digits_below_ratio"]
theorem sc_each_digit_can_be_pushed : FnScope N_each_digit_can_be_pushed ["rod"] (defScope s_each_digit_can_be_pushed) := ⟨rfl, rfl, rfl, by decide +kernel, rfl, by decide +kernel, by decide +kernel⟩
abbrev s_broken_rule : Stmt := top 17
abbrev N_broken_rule : List Str := ["rod"]
theorem sc_broken_rule : FnScope N_broken_rule ["rod"] (defScope s_broken_rule) := ⟨rfl, rfl, rfl, by decide +kernel, rfl, by decide +kernel, by decide +kernel⟩
abbrev s_make_fault : Stmt := top 18
abbrev N_make_fault : List Str := ["make", "place", "rod", "rule"]
theorem sc_make_fault : FnScope N_make_fault ["make"] (defScope s_make_fault) := ⟨rfl, rfl, rfl, by decide +kernel, rfl, by decide +kernel, by decide +kernel⟩
abbrev s_product_of_ratios : Stmt := top 19
abbrev N_product_of_ratios : List Str := ["make", "product", "rod"]
theorem sc_product_of_ratios : FnScope N_product_of_ratios ["make"] (defScope s_product_of_ratios) := ⟨rfl, rfl, rfl, by decide +kernel, rfl, by decide +kernel, by decide +kernel⟩
abbrev s_count_of : Stmt := top 20
abbrev N_count_of : List Str := ["rod", "push", "count", "pushed", "deck"]
theorem sc_count_of : FnScope N_count_of ["rod", "push"] (defScope s_count_of) := ⟨rfl, rfl, rfl, by decide +kernel, rfl, by decide +kernel, by decide +kernel⟩
abbrev s_digits_of : Stmt := top 21
abbrev N_digits_of : List Str := ["value", "make", "digits", "left", "rod"]
theorem sc_digits_of : FnScope N_digits_of ["value", "make"] (defScope s_digits_of) := ⟨rfl, rfl, rfl, by decide +kernel, rfl, by decide +kernel, by decide +kernel⟩
abbrev s_most_pushed : Stmt := top 22
abbrev N_most_pushed : List Str := ["deck", "count"]
theorem sc_most_pushed : FnScope N_most_pushed ["deck", "count"] (defScope s_most_pushed) := ⟨rfl, rfl, rfl, by decide +kernel, rfl, by decide +kernel, by decide +kernel⟩
abbrev s_form_of : Stmt := top 23
abbrev N_form_of : List Str := ["rod", "digit", "decks", "form", "first", "after_first", "second", "third", "push"]
theorem sc_form_of : FnScope N_form_of ["rod", "digit"] (defScope s_form_of) := ⟨rfl, rfl, rfl, by decide +kernel, rfl, by decide +kernel, by decide +kernel⟩
abbrev s_standing_in_form : Stmt := top 24
abbrev N_standing_in_form : List Str := ["value", "make", "standing", "rod", "digit"]
theorem sc_standing_in_form : FnScope N_standing_in_form ["value", "make"] (defScope s_standing_in_form) := ⟨rfl, rfl, rfl, by decide +kernel, rfl, by decide +kernel, by decide +kernel⟩
abbrev s_refused_for : Stmt := top 26
abbrev N_refused_for : List Str := ["fault"]
theorem sc_refused_for : FnScope N_refused_for ["fault"] (defScope s_refused_for) := ⟨rfl, rfl, rfl, by decide +kernel, rfl, by decide +kernel, by decide +kernel⟩
abbrev s_make_refusal : Stmt := top 27
abbrev N_make_refusal : List Str := ["make"]
theorem sc_make_refusal : FnScope N_make_refusal ["make"] (defScope s_make_refusal) := ⟨rfl, rfl, rfl, by decide +kernel, rfl, by decide +kernel, by decide +kernel⟩
abbrev s_value_refusal : Stmt := top 28
abbrev N_value_refusal : List Str := ["value", "make", "refusal"]
theorem sc_value_refusal : FnScope N_value_refusal ["value", "make"] (defScope s_value_refusal) := ⟨rfl, rfl, rfl, by decide +kernel, rfl, by decide +kernel, by decide +kernel⟩
abbrev s_show : Stmt := top 29
abbrev N_show : List Str := ["value", "make", "refusal"]
theorem sc_show : FnScope N_show ["value", "make"] (defScope s_show) := ⟨rfl, rfl, rfl, by decide +kernel, rfl, by decide +kernel, by decide +kernel⟩
structure Mg (mg : Str → Option Value) : Prop where
  c_LEAST_RATIO : ∃ t, mg "LEAST_RATIO" = some (.int 2 t)
  c_MOST_BEADS : ∃ t, mg "MOST_BEADS" = some (.int 15 t)
  c_MOST_RATIO : ∃ t, mg "MOST_RATIO" = some (.int 20 t)
  c_MOST_RODS : ∃ t, mg "MOST_RODS" = some (.int 64 t)
  c_MOST_WORTH : ∃ t, mg "MOST_WORTH" = some (.int 63 t)
  c_MOST_WORTH_TOGETHER : ∃ t, mg "MOST_WORTH_TOGETHER" = some (.int 255 t)
  c_NUMBERS_A_ROD : ∃ t, mg "NUMBERS_A_ROD" = some (.int 7 t)
  b_enumerate : mg "enumerate" = none
  b_len : mg "len" = none
  b_min : mg "min" = none
  b_range : mg "range" = none
  b_sum : mg "sum" = none
  b_zip : mg "zip" = none
/-! ### promises -/
def spDecks (K : PySem.W.Frag) : Sp := fun vs H Q _ => ∃ v g, vs = [v] ∧ (seqR K natR).at_ H v g ∧ g.length = 7 ∧ RetNL (pairR natR natR) (decks g) H Q
def spWorth (K : PySem.W.Frag) : Sp := fun vs H Q _ => ∃ v g, vs = [v] ∧ (seqR K natR).at_ H v g ∧ g.length = 7 ∧ (∀ x ∈ g, x < 4294967296) ∧ RetV (natV (worthT g)) H Q
def spSound : Sp := fun vs H Q _ => ∃ b w : Nat, vs = [natV b, natV w] ∧ RetV (.bl (sound b w)) H Q
def spTurn (K : PySem.W.Frag) : Sp := fun vs H Q _ => ∃ v g, vs = [v] ∧ (seqR K natR).at_ H v g ∧ g.length = 7 ∧ RetV (.bl (inTurn g)) H Q
def spNums (K : PySem.W.Frag) : Sp := fun vs H Q _ => ∃ v g, vs = [v] ∧ (seqR K natR).at_ H v g ∧ g.length = 7 ∧ RetV (.bl (numsSound g)) H Q
def spCounts (K : PySem.W.Frag) : Sp := fun vs H Q _ => ∃ v g, vs = [v] ∧ (seqR K natR).at_ H v g ∧ g.length = 7 ∧ numsSound g = true ∧ RetV (natV (counts g)) H Q
def spEach (K : PySem.W.Frag) : Sp := fun vs H Q _ => ∃ v g, vs = [v] ∧ (seqR K natR).at_ H v g ∧ g.length = 7 ∧ numsSound g = true ∧ RetV (.bl (allPushed g)) H Q
def spBroken (K : PySem.W.Frag) : Sp := fun vs H Q _ => ∃ v g, vs = [v] ∧ (seqR K natR).at_ H v g ∧ g.length = 7 ∧ (∀ x ∈ g, x < 4294967296) ∧ RetV (natV (broken g)) H Q
def spWhole (K : PySem.W.Frag) : Sp := fun vs H Q _ => ∃ v l, vs = [v] ∧ (seqR K natR).at_ H v l ∧ RetV (.bl (wholeRods l)) H Q
def spRods (K : PySem.W.Frag) : Sp := fun vs H Q _ => ∃ v l, vs = [v] ∧ (seqR K natR).at_ H v l ∧ l.length % 7 = 0 ∧ l.length ≤ 700 ∧ RetNL (seqR K natR) (cuts l) H Q
def spFault (K : PySem.W.Frag) : Sp := fun vs H Q _ => ∃ v l, vs = [v] ∧ (seqR K natR).at_ H v l ∧ l.length ≤ 700 ∧ (∀ x ∈ l, x < 4294967296) ∧ RetL ((mfault l).map natV) H Q
def spProd (K : PySem.W.Frag) : Sp := fun vs H Q _ => ∃ v l, vs = [v] ∧ (seqR K natR).at_ H v l ∧ l.length % 7 = 0 ∧ l.length ≤ 700 ∧ (∀ x ∈ l, x < 4294967296) ∧ RetV (natV (prodR (cuts l))) H Q
/-- a make, as a call gets it -/
def MkAt (K : PySem.W.Frag) (H : Hp) (v : V) (l : List Nat) : Prop := (seqR K natR).at_ H v l ∧ l.length ≤ 700 ∧ ∀ x ∈ l, x < 4294967296
theorem MkAt.mono {K : PySem.W.Frag} {H H1 : Hp} {v : V} {l : List Nat} (e : Ex H H1) (h : MkAt K H v l) : MkAt K H1 v l := ⟨(seqR K natR).mono e h.1, h.2⟩
def refs (f : List Nat) : List Int := if f = [] then [] else refusal f
def srefs (l st : List Nat) : List Int := if mfault l = [] then refs (sfault (cuts l) st) else refusal (mfault l)
def vrefs (l : List Nat) (u : Nat) : List Int := if mfault l = [] then below4 (cuts l) u [] else refusal (mfault l)
def spRefused : Sp := fun vs H Q _ => ∃ v f, vs = [v] ∧ (lstR natR).at_ H v f ∧ f.length ≤ 1000 ∧ RetL ((refs f).map V.int) H Q
def spMRef (K : PySem.W.Frag) : Sp := fun vs H Q _ => ∃ v l, vs = [v] ∧ MkAt K H v l ∧ RetL ((refs (mfault l)).map V.int) H Q
def spSRef (K : PySem.W.Frag) : Sp := fun vs H Q _ => ∃ v w l st, vs = [v, w] ∧ MkAt K H v l ∧ (seqR K natR).at_ H w st ∧ RetL ((srefs l st).map V.int) H Q
def spVRef (K : PySem.W.Frag) : Sp := fun vs H Q _ => ∃ v l u, vs = [natV u, v] ∧ MkAt K H v l ∧ RetL ((vrefs l u).map V.int) H Q
def spBeads (K : PySem.W.Frag) : Sp := fun vs H Q _ => ∃ v l, vs = [v] ∧ (seqR K natR).at_ H v l ∧ l.length % 7 = 0 ∧ l.length ≤ 700 ∧ RetNL natR (bds (cuts l)) H Q
def spSFault (K : PySem.W.Frag) : Sp := fun vs H Q _ => ∃ v w l st, vs = [v, w] ∧ (seqR K natR).at_ H v l ∧ l.length % 7 = 0 ∧ l.length ≤ 700 ∧ (seqR K natR).at_ H w st ∧ RetL ((sfault (cuts l) st).map natV) H Q
def spPushesOf (K : PySem.W.Frag) : Sp := fun vs H Q _ => ∃ w st, vs = [w] ∧ (seqR K natR).at_ H w st ∧ st.length % 3 = 0 ∧ st.length ≤ 700 ∧ RetNL (seqR K natR) (cut3 st) H Q
def spCount (K : PySem.W.Frag) : Sp := fun vs H Q _ => ∃ v w g a b c, vs = [v, w] ∧ (seqR K natR).at_ H v g ∧ (seqR K natR).at_ H w [a, b, c] ∧ g.length = 7 ∧ (∀ x ∈ g, x < 4294967296) ∧ a < 4294967296 ∧ b < 4294967296 ∧ c < 4294967296 ∧ RetV (natV (count3 g a b c)) H Q
def spValueOf (K : PySem.W.Frag) : Sp := fun vs H Q _ => ∃ v w l st, vs = [v, w] ∧ MkAt K H v l ∧ (seqR K natR).at_ H w st ∧ mfault l = [] ∧ sfault (cuts l) st = [] ∧ RetV (natV (rawVal (cuts l) st)) H Q
def spDigitsOf (K : PySem.W.Frag) : Sp := fun vs H Q _ => ∃ v l u, vs = [natV u, v] ∧ (seqR K natR).at_ H v l ∧ l.length % 7 = 0 ∧ l.length ≤ 700 ∧ (∀ g ∈ cuts l, 0 < ix g 0 ∧ ix g 0 < 2 ^ 32) ∧ RetNL natR (digs (cuts l) u) H Q
def spMost : Sp := fun vs H Q _ => ∃ d b w u, vs = [d, natV u] ∧ (pairR natR natR).at_ H d (b, w) ∧ (b ≠ 0 → w ≠ 0) ∧ w < 4294967296 ∧ RetV (natV (mp b w u)) H Q
def spFormOf (K : PySem.W.Frag) : Sp := fun vs H Q _ => ∃ v g d, vs = [v, natV d] ∧ (seqR K natR).at_ H v g ∧ g.length = 7 ∧ (∀ x ∈ g, x < 4294967296) ∧ broken g = 0 ∧ d < ix g 0 ∧ RetNL natR (form3 g d) H Q
def spShownOf (K : PySem.W.Frag) : Sp := fun vs H Q _ => ∃ v l u, vs = [natV u, v] ∧ MkAt K H v l ∧ mfault l = [] ∧ RetNL natR (shown3 (cuts l) u) H Q
def spInForm (K : PySem.W.Frag) : Sp := fun vs H Q _ => ∃ v w l st, vs = [v, w] ∧ MkAt K H v l ∧ (seqR K natR).at_ H w st ∧ mfault l = [] ∧ sfault (cuts l) st = [] ∧ RetV (.bl (inForm3 (cuts l) st)) H Q
def spValue (K : PySem.W.Frag) : Sp := fun vs H Q _ => ∃ v w l st, vs = [v, w] ∧ MkAt K H v l ∧ (seqR K natR).at_ H w st ∧ RetL ((onStanding l st fun gs st => nums [rawVal gs st]).map V.int) H Q
def spDigits (K : PySem.W.Frag) : Sp := fun vs H Q _ => ∃ v l u, vs = [natV u, v] ∧ MkAt K H v l ∧ RetL ((onMake l fun gs => below4 gs u (nums (digs gs u))).map V.int) H Q
def spShow (K : PySem.W.Frag) : Sp := fun vs H Q _ => ∃ v l u, vs = [natV u, v] ∧ MkAt K H v l ∧ RetL ((onMake l fun gs => below4 gs u (nums (shown3 gs u))).map V.int) H Q
def spFormed (K : PySem.W.Frag) : Sp := fun vs H Q _ => ∃ v w l st, vs = [v, w] ∧ MkAt K H v l ∧ (seqR K natR).at_ H w st ∧ RetL ((onStanding l st fun gs st => [if inForm3 gs st = true then 1 else 0]).map V.int) H Q
def spJudge (K : PySem.W.Frag) : Sp := fun vs H Q _ => ∃ v l, vs = [v] ∧ (seqR K natR).at_ H v l ∧ l.length ≤ 700 ∧ (∀ x ∈ l, x < 4294967296) ∧ RetL ((judged l).map V.int) H Q
def spSpan (K : PySem.W.Frag) : Sp := fun vs H Q _ => ∃ v l, vs = [v] ∧ (seqR K natR).at_ H v l ∧ l.length ≤ 700 ∧ (∀ x ∈ l, x < 4294967296) ∧ RetL ((spanned l).map V.int) H Q
section
variable {P : Program} {w : World} {K : PySem.W.Frag} {mg : Str → Option Value} {base : Heap}
/-! ### words -/
theorem nat_ix {H : Hp} {σ : L2.St} {te : TE} {v : V} {g : List Nat} {j : Nat} (h : (seqR K natR).at_ H v g) (hj : j < g.length) (he : Ev te σ H v) : Ev (tOp (rIxL K) te (tC (.int (j : Int)))) σ H (natV (ix g j)) := by
  obtain ⟨p, rfl, hp⟩ := nats_at.mp h
  refine ev_op he ev_c (rv_ixL hp (atI_nat (j := j) ?_))
  rw [List.getElem?_map, List.getElem?_eq_getElem hj]
  unfold ix
  rw [List.getD_eq_getElem?_getD, List.getElem?_eq_getElem hj]
  rfl
theorem cast_lt {a b : Nat} : decide ((a : Int) < (b : Int)) = decide (a < b) := decide_eq_decide.mpr Int.ofNat_lt
theorem cast_le {a b : Nat} : decide ((a : Int) ≤ (b : Int)) = decide (a ≤ b) := decide_eq_decide.mpr Int.ofNat_le
theorem cast_eq {a b : Nat} : decide (natV a = natV b) = decide (a = b) := decide_eq_decide.mpr ⟨fun h => Int.ofNat.inj (V.int.inj h), fun h => h ▸ rfl⟩
theorem cast_eq0 {a : Nat} : decide (natV a = V.int 0) = decide (a = 0) := cast_eq (b := 0)
theorem cast_lt0 {a : Nat} : decide ((0 : Int) < (a : Int)) = decide (0 < a) := cast_lt (a := 0)
theorem lt_pow_abs {c n : Nat} (h : c < 2 ^ n) : ((c : Int)).natAbs < 2 ^ n := h
theorem or_shl {c w : Nat} : Builtin.bitOr (c : Int) ((c : Int) * 2 ^ ((w : Int)).toNat) = ((c ||| c <<< w : Nat) : Int) := by
  rw [Int.toNat_natCast, Nat.shiftLeft_eq]
  have e : ((c : Int) * 2 ^ w) = ((c * 2 ^ w : Nat) : Int) := by
    rw [Int.natCast_mul, PySem.W.kbt_cast]
  rw [e, bitOr_nn (Int.natCast_nonneg _) (Int.natCast_nonneg _), Int.toNat_natCast, Int.toNat_natCast]
theorem mask_eq {r : Nat} : ((1 : Int) * 2 ^ ((r : Int)).toNat - 1) = ((2 ^ r - 1 : Nat) : Int) := by
  rw [Int.toNat_natCast, Int.one_mul, Int.natCast_sub (Nat.two_pow_pos r), PySem.W.kbt_cast]
  rfl
theorem and_mask {c r : Nat} : Builtin.bitAnd (c : Int) ((2 ^ r - 1 : Nat) : Int) = ((c &&& (2 ^ r - 1) : Nat) : Int) := by
  rw [Int.natCast_sub (Nat.two_pow_pos r), PySem.W.kbt_cast]
  show Builtin.bitAnd (c : Int) (2 ^ r - 1) = _
  rw [PySem.W.kbt_mask, Nat.and_two_pow_sub_one_eq_mod, Int.natCast_emod, PySem.W.kbt_cast]
theorem mfault_short {l : List Nat} : ((mfault l).map natV).length ≤ 1000 := by
  unfold mfault
  split <;> simp
theorem ne_of_pos {l : List Nat} (h : decide (0 < (l.map natV).length) = true) : l ≠ [] := fun e => by
  subst e
  simp at h
theorem judged_bad {l : List Nat} (h : mfault l ≠ []) : (V.int (-5) :: (mfault l).map natV) = (judged l).map V.int := by
  unfold judged
  rw [if_neg h, List.map_cons, List.map_map]
  rfl
theorem judged_good {l : List Nat} (h : mfault l = []) : [V.int 0] = (judged l).map V.int := by
  unfold judged
  rw [if_pos h]
  rfl
theorem spanned_bad {l : List Nat} (h : mfault l ≠ []) : (V.int (-5) :: (mfault l).map natV) = (spanned l).map V.int := by
  unfold spanned
  rw [if_neg h, List.map_cons, List.map_map]
  rfl
theorem spanned_good {l : List Nat} (h : mfault l = []) : [natV 0, natV (prodR (cuts l))] = (spanned l).map V.int := by
  unfold spanned
  rw [if_pos h]
  rfl
theorem ok_decks_of {f : Addr} {fd : FuncData} (F : Fun K "decks_of" "decks_of" s_decks_of f fd) (M : Mg mg) : FnOk P w K mg base CX0 1 f fd ["rod"] (spDecks K) := by
  refine F.ok sc_decks_of (fun vs H Q E h => ?_) (fun cdv A outer s H vs Q E hr h => ⟨_, (pss_one (ps_ret (pe_lst (pa_cons (pe_tup (pa_cons (pe_ix (ixL (K := K)) (pv 0) pe_int (fun _ _ => rfl)) (pa_cons (pe_ix (ixL (K := K)) (pv 0) pe_int (fun _ _ => rfl)) pa_nil))) (pa_cons (pe_tup (pa_cons (pe_ix (ixL (K := K)) (pv 0) pe_int (fun _ _ => rfl)) (pa_cons (pe_ix (ixL (K := K)) (pv 0) pe_int (fun _ _ => rfl)) pa_nil))) (pa_cons (pe_tup (pa_cons (pe_ix (ixL (K := K)) (pv 0) pe_int (fun _ _ => rfl)) (pa_cons (pe_ix (ixL (K := K)) (pv 0) pe_int (fun _ _ => rfl)) pa_nil))) pa_nil)))))), ?_⟩)
  · obtain ⟨v, g, rfl, _⟩ := h
    rfl
  · obtain ⟨v, g, rfl, hv, h7, q⟩ := h
    have ei : ∀ j : Nat, j < 7 → EvN natR (tOp (rIxL K) (tVar 0) (tC (.int (j : Int)))) (start N_decks_of [v]) H (ix g j) := fun j hj => en_nat (nat_ix hv (by omega) (ev_var rfl))
    exact s_retN (en_lst (ein_cons (en_tup (ei 1 (by decide)) (ei 2 (by decide))) (ein_cons (en_tup (ei 3 (by decide)) (ei 4 (by decide))) (ein_cons (en_tup (ei 5 (by decide)) (ei 6 (by decide))) ein_nil))) (Nat.le_of_lt_succ (by simp))) q
/-- decks_of, called -/
theorem en_decks {H : Hp} {σ : L2.St} {te : TE} {v : V} {g : List Nat} (hv : (seqR K natR).at_ H v g) (h7 : g.length = 7) (he : Ev te σ H v) : EvNL (pairR natR natR) (tCall (spDecks K) [] E0 (tCons te tNil)) σ H (decks g) :=
  en_c1 (er_ev he hv) fun x H1 e hx Q q E => ⟨x, g, rfl, hx, h7, q⟩
theorem er_decks {H : Hp} {σ : L2.St} {te : TE} {v : V} {g : List Nat} (hv : (seqR K natR).at_ H v g) (h7 : g.length = 7) (he : Ev te σ H v) : EvR (lstR (pairR natR natR)) (tCall (spDecks K) [] E0 (tCons te tNil)) σ H (decks g) := er_n (en_l (en_decks hv h7 he))
/-- rods_of, called -/
theorem en_rods {H : Hp} {σ : L2.St} {te : TE} {v : V} {l : List Nat} (hv : (seqR K natR).at_ H v l) (h7 : l.length % 7 = 0) (hl : l.length ≤ 700) (he : Ev te σ H v) : EvNL (seqR K natR) (tCall (spRods K) [] E0 (tCons te tNil)) σ H (cuts l) :=
  en_c1 (er_ev he hv) fun x H1 e hx Q q E => ⟨x, l, rfl, hx, h7, hl, q⟩
theorem ok_worth_together {f : Addr} {fd : FuncData} (F : Fun K "worth_together" "worth_together" s_worth_together f fd) (M : Mg mg) (D_decks_of : Def P w K mg base "decks_of" 1 ["rod"] (spDecks K)) : FnOk P w K mg base CX0 2 f fd ["rod"] (spWorth K) := by
  refine F.ok sc_worth_together (fun vs H Q E h => ?_) (fun cdv A outer s H vs Q E hr h => ⟨_, (pss_cons (ps_set (i := 1) sc_worth_together.nd rfl (.inl rfl) pe_int)
      (pss_cons (ps_for PassesOwn.never rfl (pi_list (pe_callD D_decks_of hr (by decide) (pa_cons (pv 0) pa_nil))) (pg_tup rfl (pgs_cons (pg_name (i := 2) sc_worth_together.nd rfl (.inl rfl)) (pgs_cons (pg_name (i := 3) sc_worth_together.nd rfl (.inl rfl)) pgs_nil))) (pss_one (ps_set (i := 1) sc_worth_together.nd rfl (.inl rfl) (pe_op op_add (pv 1) (pe_op op_mulX (pv 2) (pv 3))))))
      (pss_one (ps_ret (pv 1))))), ?_⟩)
  · obtain ⟨v, g, rfl, _⟩ := h
    rfl
  · obtain ⟨v, g, rfl, hv, h7, hb, q⟩ := h
    refine q_asg (v := natV 0) ev_c fun H1 e1 => ?_
    refine q_forP (K := K) (R := natR) (S := natR) (er_seq (er_decks ((seqR K natR).mono e1 hv) h7 (ev_var rfl))) (fun i σ' _ => ∃ y z, σ' = [some v, some (natV (((decks g).take i).foldl (fun t d => t + d.1 * d.2) 0)), y, z]) (fun _ _ => ⟨none, none, rfl⟩) ?_ ?_
    · rintro B i b d v1 v2 σ' H' eB e' hi rfl rfl ⟨y, z, rfl⟩
      have lt := decks_lt h7 hb (List.mem_of_getElem? hi)
      refine s_asg (ev_op (ev_var rfl) (ev_op (ev_var rfl) (ev_var rfl) (rv_I (mulx_ok (a := 32) (b := 32) (lt_pow_abs lt.1) (lt_pow_abs lt.2) (by decide)))) rv_I0) fun H2 e2 => ⟨e'.trans e2, some (natV b), some (natV d), ?_⟩
      rw [take_fold hi]
      exact congrArg (fun x => [some v, some (V.int x), some (natV b), some (natV d)]) (by push_cast; rfl)
    · rintro σ' H' e' ⟨y, z, rfl⟩
      refine s_ret (ev_var rfl) fun H2 e2 => ?_
      rw [List.take_length]
      exact q H2 ((e1.trans e').trans e2)
theorem ok_has_whole_rods {f : Addr} {fd : FuncData} (F : Fun K "has_whole_rods" "has_whole_rods" s_has_whole_rods f fd) (M : Mg mg) : FnOk P w K mg base CX0 1 f fd ["make"] (spWhole K) := by
  refine F.ok sc_has_whole_rods (fun vs H Q E h => ?_) (fun cdv A outer s H vs Q E hr h => ⟨_, (pss_cons (ps_if (PW.pt (pw_or (pt_cmpR op_eq (pe_callB (lenS (K := K)) (by rfl) M.b_len PySem.boot_len (pa_cons (pv 0) pa_nil)) pe_int (nomark _)) (pw_or1 (pt_cmpR op_gt (pe_callB (lenS (K := K)) (by rfl) M.b_len PySem.boot_len (pa_cons (pv 0) pa_nil)) (pe_op op_mulX (pe_gint M.c_NUMBERS_A_ROD) (pe_gint M.c_MOST_RODS)) (nomark _))))) (pss_one (ps_ret pe_bl)) pss_nil)
      (pss_one (ps_ret (pe_cmpR op_eq (pe_op op_mod (pe_callB (lenS (K := K)) (by rfl) M.b_len PySem.boot_len (pa_cons (pv 0) pa_nil)) (pe_gint M.c_NUMBERS_A_ROD)) pe_int (nomark _))))), ?_⟩)
  · obtain ⟨v, g, rfl, _⟩ := h
    rfl
  · obtain ⟨v, l, rfl, hv, q⟩ := h
    have el : ∀ H1, Ex H H1 → Ev (tCB _ (tCons (tVar 0) tNil)) (start N_has_whole_rods [v]) H1 (natV l.length) := fun H1 e => er_len (K := K) (R := natR) (er_ev (ev_var rfl) ((seqR K natR).mono e hv))
    refine q_when (b := decide (l.length = 0) || decide (448 < l.length)) (et_or (et_is (et_test (ev_op (el H (Ex.refl H)) ev_c (rv_eq rfl))) cast_eq0) fun _ => et_is (et_test (ev_op (el H (Ex.refl H)) (ev_op ev_c ev_c (rv_I (mulx_ok (a := 32) (b := 32) (by decide) (by decide) (by decide)))) rv_I0)) (cast_lt (a := 448))) (fun hb H1 e1 => ?_) (fun hb H1 e1 => ?_)
    · refine s_ret ev_c fun H2 e2 => ret_to q (e1.trans e2) ?_
      unfold wholeRods
      rw [if_pos (by simpa using hb)]
    · refine s_ret (ev_op (ev_op (el H1 e1) ev_c (rv_I (by decide))) ev_c (rv_eq rfl)) fun H2 e2 => ret_to q (e1.trans e2) ?_
      unfold wholeRods
      rw [if_neg (by simpa using hb)]
      exact congrArg V.bl (cast_eq (a := l.length % 7) (b := 0) ▸ rfl)
theorem ok_deck_is_sound {f : Addr} {fd : FuncData} (F : Fun K "deck_is_sound" "deck_is_sound" s_deck_is_sound f fd) (M : Mg mg) : FnOk P w K mg base CX0 1 f fd ["beads", "worth"] (spSound) := by
  refine F.ok sc_deck_is_sound (fun vs H Q E h => ?_) (fun cdv A outer s H vs Q E hr h => ⟨_, (pss_cons (ps_if (PW.pt (pw_or (pt_cmpR op_eq (pv 0) pe_int (nomark _)) (pw_or1 (pt_cmpR op_eq (pv 1) pe_int (nomark _))))) (pss_one (ps_ret (pe_cmpR op_eq (pv 0) (pv 1) (nomark _)))) pss_nil)
      (pss_one (ps_ret (pe_and (pe_cmpR op_le (pv 0) (pe_gint M.c_MOST_BEADS) (nomark _)) (pe_one (pe_cmpR op_le (pv 1) (pe_gint M.c_MOST_WORTH) (nomark _))))))), ?_⟩)
  · obtain ⟨b, w, rfl, _⟩ := h
    rfl
  · obtain ⟨b, w, rfl, q⟩ := h
    refine q_when (b := decide (b = 0) || decide (w = 0)) (et_or (et_is (et_test (ev_op (ev_var rfl) ev_c (rv_eq rfl))) cast_eq0) fun _ => et_is (et_test (ev_op (ev_var rfl) ev_c (rv_eq rfl))) cast_eq0) (fun hb H1 e1 => ?_) (fun hb H1 e1 => ?_)
    · refine s_ret (ev_op (ev_var rfl) (ev_var rfl) (rv_eq rfl)) fun H2 e2 => ret_to q (e1.trans e2) ?_
      unfold sound
      rw [if_pos (by simpa using hb)]
      exact congrArg V.bl cast_eq
    · refine s_ret (ev_andV (ev_op (ev_var rfl) ev_c rv_I0) fun _ => ev_op (ev_var rfl) ev_c rv_I0) fun H2 e2 => ret_to q (e1.trans e2) ?_
      unfold sound
      rw [if_neg (by simpa using hb)]
      exact congrArg V.bl (congr2B (cast_le (b := 15)) (cast_le (b := 63)))
theorem ok_decks_are_in_turn {f : Addr} {fd : FuncData} (F : Fun K "decks_are_in_turn" "decks_are_in_turn" s_decks_are_in_turn f fd) (M : Mg mg) (D_decks_of : Def P w K mg base "decks_of" 1 ["rod"] (spDecks K)) : FnOk P w K mg base CX0 2 f fd ["rod"] (spTurn K) := by
  refine F.ok sc_decks_are_in_turn (fun vs H Q E h => ?_) (fun cdv A outer s H vs Q E hr h => ⟨_, (pss_cons (ps_set (i := 1) sc_decks_are_in_turn.nd rfl (.inl rfl) (pe_callD D_decks_of hr (by decide) (pa_cons (pv 0) pa_nil)))
      (pss_cons (ps_if (pt_cmpR op_eq (pe_ix (ixT (K := K)) (pe_ix (ixL (K := K)) (pv 1) pe_int (fun _ _ => rfl)) pe_int (fun _ _ => rfl)) pe_int (nomark _)) (pss_one (ps_ret pe_bl)) pss_nil)
      (pss_one (ps_ret (pe_or (pe_cmpR op_gt (pe_ix (ixT (K := K)) (pe_ix (ixL (K := K)) (pv 1) pe_int (fun _ _ => rfl)) pe_int (fun _ _ => rfl)) pe_int (nomark _)) (pe_one (pe_cmpR op_eq (pe_ix (ixT (K := K)) (pe_ix (ixL (K := K)) (pv 1) pe_int (fun _ _ => rfl)) pe_int (fun _ _ => rfl)) pe_int (nomark _)))))))), ?_⟩)
  · obtain ⟨v, g, rfl, _⟩ := h
    rfl
  · obtain ⟨v, g, rfl, hv, h7, q⟩ := h
    refine q_asgR (er_decks hv h7 (ev_var rfl)) fun d H1 e1 hd => ?_
    have hd' := lst_seq (K := K) hd
    have ed : ∀ (j : Nat) (a b : Nat) (H2 : Hp), Ex H1 H2 → (decks g)[j]? = some (a, b) → Ev (tOp (rIxT K) (tOp (rIxL K) (tVar 1) (tC (.int (j : Int)))) (tC (.int 0))) [some v, some d] H2 (natV a) := fun j a b H2 e2 hj => ev_nat (er_fst (er_ix (er_ev (ev_var rfl) ((seqR K (pairR natR natR)).mono e2 hd')) hj))
    refine q_when (b := decide (ix g 1 = 0)) (et_is (et_test (ev_op (ed 0 _ _ H1 (Ex.refl _) rfl) ev_c (rv_eq rfl))) cast_eq0) (fun hb H2 e2 => ?_) (fun hb H2 e2 => ?_)
    · refine s_ret ev_c fun H3 e3 => ret_to q ((e1.trans e2).trans e3) ?_
      unfold inTurn
      rw [if_pos (of_decide_eq_true hb)]
    · refine s_ret (ev_orV (ev_op (ed 1 _ _ H2 e2 rfl) ev_c rv_I0) fun _ => ev_op (ed 2 _ _ H2 e2 rfl) ev_c (rv_eq rfl)) fun H3 e3 => ret_to q ((e1.trans e2).trans e3) ?_
      unfold inTurn
      rw [if_neg (of_decide_eq_false hb)]
      exact congrArg V.bl (congr2O cast_lt0 cast_eq0)
theorem ok_numbers_are_sound {f : Addr} {fd : FuncData} (F : Fun K "numbers_are_sound" "numbers_are_sound" s_numbers_are_sound f fd) (M : Mg mg) (D_decks_of : Def P w K mg base "decks_of" 1 ["rod"] (spDecks K)) (D_decks_are_in_turn : Def P w K mg base "decks_are_in_turn" 2 ["rod"] (spTurn K)) (D_deck_is_sound : Def P w K mg base "deck_is_sound" 1 ["beads", "worth"] (spSound)) : FnOk P w K mg base CX0 3 f fd ["rod"] (spNums K) := by
  refine F.ok sc_numbers_are_sound (fun vs H Q E h => ?_) (fun cdv A outer s H vs Q E hr h => ⟨_, (pss_cons (ps_if (PW.pt (pw_or (pt_cmpR op_lt (pe_ix (ixL (K := K)) (pv 0) pe_int (fun _ _ => rfl)) (pe_gint M.c_LEAST_RATIO) (nomark _)) (pw_or1 (pt_cmpR op_gt (pe_ix (ixL (K := K)) (pv 0) pe_int (fun _ _ => rfl)) (pe_gint M.c_MOST_RATIO) (nomark _))))) (pss_one (ps_ret pe_bl)) pss_nil)
      (pss_cons (ps_for PassesOwn.never rfl (pi_list (pe_callD D_decks_of hr (by decide) (pa_cons (pv 0) pa_nil))) (pg_tup rfl (pgs_cons (pg_name (i := 1) sc_numbers_are_sound.nd rfl (.inl rfl)) (pgs_cons (pg_name (i := 2) sc_numbers_are_sound.nd rfl (.inl rfl)) pgs_nil))) (pss_one (ps_if (pt_not (pt_val (pe_callD D_deck_is_sound hr (by decide) (pa_cons (pv 1) (pa_cons (pv 2) pa_nil))))) (pss_one (ps_ret pe_bl)) pss_nil)))
      (pss_one (ps_ret (pe_callD D_decks_are_in_turn hr (by decide) (pa_cons (pv 0) pa_nil)))))), ?_⟩)
  · obtain ⟨v, g, rfl, _⟩ := h
    rfl
  · obtain ⟨v, g, rfl, hv, h7, q⟩ := h
    have e0 : Ev (tOp (rIxL K) (tVar 0) (tC (.int 0))) (start N_numbers_are_sound [v]) H (natV (ix g 0)) := nat_ix (j := 0) hv (by omega) (ev_var rfl)
    refine q_when (b := decide (ix g 0 < 2) || decide (20 < ix g 0)) (et_or (et_is (et_test (ev_op e0 ev_c rv_I0)) (cast_lt (b := 2))) fun _ => et_is (et_test (ev_op e0 ev_c rv_I0)) (cast_lt (a := 20))) (fun hb H1 e1 => ?_) (fun hb H1 e1 => ?_)
    · exact s_ret ev_c fun H2 e2 => ret_to q (e1.trans e2) (congrArg V.bl (nums_ratio hb).symm)
    · refine q_forP (K := K) (R := natR) (S := natR) (er_seq (er_decks ((seqR K natR).mono e1 hv) h7 (ev_var rfl))) (fun i σ' _ => (∃ y z, σ' = [some v, y, z]) ∧ ∀ d ∈ (decks g).take i, sound d.1 d.2 = true) (fun _ _ => ⟨⟨none, none, rfl⟩, fun d hd => by simp at hd⟩) ?_ ?_
      · rintro B i b d v1 v2 σ' H' eB e' hi rfl rfl ⟨⟨y, z, rfl⟩, ha⟩
        refine s_when (b := !sound b d) (et_not (et_B (ev_c2 (S := natR) (T := natR) (er_nat (ev_var rfl)) (er_nat (ev_var rfl)) fun x y H1 e hx hy Q q E => ⟨b, d, by rw [show x = natV b from hx, show y = natV d from hy], q⟩))) (fun hn H2 e2 => ?_) (fun hn H2 e2 => ?_)
        · exact s_ret ev_c fun H3 e3 => ret_to q (((e1.trans eB).trans (e'.trans e2)).trans e3) (congrArg V.bl (nums_false (List.mem_of_getElem? hi) (by simpa using hn)).symm)
        · refine ⟨e'.trans e2, ⟨_, _, rfl⟩, fun x hx => ?_⟩
          rw [List.take_add_one, hi] at hx
          rcases List.mem_append.mp hx with h | h
          · exact ha x h
          · have e : x = (b, d) := by simpa using h
            subst e
            simpa using hn
      · rintro σ' H' e' ⟨⟨y, z, rfl⟩, ha⟩
        rw [List.take_length] at ha
        refine s_ret (ev_c1 (S := seqR K natR) (v := .bl (inTurn g)) (er_ev (ev_var rfl) ((seqR K natR).mono (e1.trans e') hv)) fun x H1 e hx Q q E => ⟨x, g, rfl, hx, h7, q⟩) fun H2 e2 => ret_to q ((e1.trans e').trans e2) (congrArg V.bl (nums_else hb ha).symm)
theorem ok_pushable_counts {f : Addr} {fd : FuncData} (F : Fun K "pushable_counts" "pushable_counts" s_pushable_counts f fd) (M : Mg mg) (D_decks_of : Def P w K mg base "decks_of" 1 ["rod"] (spDecks K)) : FnOk P w K mg base CX0 2 f fd ["rod"] (spCounts K) := by
  refine F.ok sc_pushable_counts (fun vs H Q E h => ?_) (fun cdv A outer s H vs Q E hr h => ⟨_, (pss_cons (ps_set (i := 1) sc_pushable_counts.nd rfl (.inl rfl) pe_int)
      (pss_cons (ps_for PassesOwn.never rfl (pi_list (pe_callD D_decks_of hr (by decide) (pa_cons (pv 0) pa_nil))) (pg_tup rfl (pgs_cons (pg_name (i := 2) sc_pushable_counts.nd rfl (.inl rfl)) (pgs_cons (pg_name (i := 3) sc_pushable_counts.nd rfl (.inl rfl)) pgs_nil))) (pss_one (ps_for PassesOwn.never rfl (pi_range1 rfl M.b_range (pa_cons (pv 2) pa_nil)) (pg_name (i := 4) sc_pushable_counts.nd rfl (.inl rfl)) (pss_one (ps_set (i := 1) sc_pushable_counts.nd rfl (.inl rfl) (pe_op op_or (pv 1) (pe_op op_shlW (pv 1) (pv 3))))))))
      (pss_one (ps_ret (pv 1))))), ?_⟩)
  · obtain ⟨v, g, rfl, _⟩ := h
    rfl
  · obtain ⟨v, g, rfl, hv, h7, hn, q⟩ := h
    have hs := (nums_facts hn).2.2.1
    refine q_asg (v := natV 1) ev_c fun H1 e1 => ?_
    refine q_forP (K := K) (R := natR) (S := natR) (er_seq (er_decks ((seqR K natR).mono e1 hv) h7 (ev_var rfl))) (fun i σ' _ => ∃ y z u, σ' = [some v, some (natV (((decks g).take i).foldl (fun c d => more d.2 d.1 c) 1)), y, z, u]) (fun _ _ => ⟨none, none, none, rfl⟩) ?_ ?_
    · rintro B i b d v1 v2 σ' H' eB e' hi rfl rfl ⟨y, z, u, rfl⟩
      have sd := sound_le (hs _ (List.mem_of_getElem? hi))
      have lt : ((decks g).take i).foldl (fun c d => more d.2 d.1 c) 1 < 2 ^ (1 + 945 * ((decks g).take i).length) := fold_lt _ 1 1 (by decide) fun d hd => hs d (mem_take hd)
      have l3 : ((decks g).take i).length ≤ 3 := by
        rw [List.length_take]
        exact Nat.min_le_right _ _
      generalize hc : ((decks g).take i).foldl (fun c d => more d.2 d.1 c) 1 = c at lt ⊢
      refine s_forR1 (n := (b : Int)) (ea_cons (ev_var rfl) ea_nil) ⟨by omega, by omega⟩ (fun k σ' H2 => Ex B H2 ∧ ∃ u, σ' = [some v, some (natV (more d k c)), some (natV b), some (natV d), u]) (fun H2 e2 => ⟨e'.trans e2, u, rfl⟩) ?_ ?_
      · rintro k σ2 H2 hk ⟨e2, u2, rfl⟩
        have lt2 := more_lt' (w := d) (k := k) lt (by omega) sd.2
        refine s_asg (ev_op (ev_var rfl) (ev_op (ev_var rfl) (ev_var rfl) (rv_I (shl_ok (lt_pow_abs lt2) (by omega)))) rv_I0) fun H3 e3 => ⟨e2.trans e3, some (.int (k : Int)), ?_⟩
        rw [or_shl]
        rfl
      · rintro σ2 H2 ⟨e2, u2, rfl⟩
        refine ⟨e2, some (natV b), some (natV d), u2, ?_⟩
        rw [Int.toNat_natCast, take_fold hi, hc]
    · rintro σ' H' e' ⟨y, z, u, rfl⟩
      refine s_ret (ev_var rfl) fun H2 e2 => ?_
      rw [List.take_length]
      exact q H2 ((e1.trans e').trans e2)
theorem ok_each_digit_can_be_pushed {f : Addr} {fd : FuncData} (F : Fun K "each_digit_can_be_pushed" "each_digit_can_be_pushed" s_each_digit_can_be_pushed f fd) (M : Mg mg) (D_pushable_counts : Def P w K mg base "pushable_counts" 2 ["rod"] (spCounts K)) : FnOk P w K mg base CX0 3 f fd ["rod"] (spEach K) := by
  refine F.ok sc_each_digit_can_be_pushed (fun vs H Q E h => ?_) (fun cdv A outer s H vs Q E hr h => ⟨_, (pss_cons (ps_set (i := 1) sc_each_digit_can_be_pushed.nd rfl (.inl rfl) (pe_op op_sub (pe_op op_shlW pe_int (pe_ix (ixL (K := K)) (pv 0) pe_int (fun _ _ => rfl))) pe_int))
      (pss_one (ps_ret (pe_cmpR op_eq (pe_op op_and (pe_callD D_pushable_counts hr (by decide) (pa_cons (pv 0) pa_nil)) (pv 1)) (pv 1) (nomark _))))), ?_⟩)
  · obtain ⟨v, g, rfl, _⟩ := h
    rfl
  · obtain ⟨v, g, rfl, hv, h7, hn, q⟩ := h
    have hr := (nums_facts hn).2.1
    refine q_asg (v := natV (2 ^ ix g 0 - 1)) (ev_is (ev_op (ev_op ev_c (nat_ix (j := 0) hv (by omega) (ev_var rfl)) (rv_I (shl_ok (n := 1) (by decide) (by omega)))) ev_c rv_I0) (congrArg V.int mask_eq)) fun H1 e1 => ?_
    refine s_ret (ev_op (ev_op (ev_c1 (S := seqR K natR) (v := natV (counts g)) (er_ev (ev_var rfl) ((seqR K natR).mono e1 hv)) fun x H1 e hx Q q E => ⟨x, g, rfl, hx, h7, hn, q⟩) (ev_var rfl) rv_I0) (ev_var rfl) (rv_eq rfl)) fun H2 e2 => ret_to q (e1.trans e2) ?_
    rw [and_mask]
    exact congrArg V.bl cast_eq
theorem ok_broken_rule {f : Addr} {fd : FuncData} (F : Fun K "broken_rule" "broken_rule" s_broken_rule f fd) (M : Mg mg) (D_numbers_are_sound : Def P w K mg base "numbers_are_sound" 3 ["rod"] (spNums K)) (D_worth_together : Def P w K mg base "worth_together" 2 ["rod"] (spWorth K)) (D_each_digit_can_be_pushed : Def P w K mg base "each_digit_can_be_pushed" 3 ["rod"] (spEach K)) : FnOk P w K mg base CX0 4 f fd ["rod"] (spBroken K) := by
  refine F.ok sc_broken_rule (fun vs H Q E h => ?_) (fun cdv A outer s H vs Q E hr h => ⟨_, (pss_cons (ps_if (pt_not (pt_val (pe_callD D_numbers_are_sound hr (by decide) (pa_cons (pv 0) pa_nil)))) (pss_one (ps_ret pe_int)) pss_nil)
      (pss_cons (ps_if (pt_cmpR op_gt (pe_callD D_worth_together hr (by decide) (pa_cons (pv 0) pa_nil)) (pe_gint M.c_MOST_WORTH_TOGETHER) (nomark _)) (pss_one (ps_ret pe_int)) pss_nil)
      (pss_cons (ps_if (pt_not (pt_val (pe_callD D_each_digit_can_be_pushed hr (by decide) (pa_cons (pv 0) pa_nil)))) (pss_one (ps_ret pe_int)) pss_nil)
      (pss_one (ps_ret pe_int))))), ?_⟩)
  · obtain ⟨v, g, rfl, _⟩ := h
    rfl
  · obtain ⟨v, g, rfl, hv, h7, hb, q⟩ := h
    refine q_when (b := !numsSound g) (et_not (et_B (ev_c1 (S := seqR K natR) (er_ev (ev_var rfl) hv) fun x H1 e hx Q q E => ⟨x, g, rfl, hx, h7, q⟩))) (fun hn H1 e1 => ?_) (fun hn H1 e1 => ?_)
    · refine s_ret ev_c fun H2 e2 => ret_to q (e1.trans e2) ?_
      unfold broken
      rw [if_pos (by simpa using hn)]
      rfl
    · have hn' : numsSound g = true := by simpa using hn
      refine q_when (b := decide (255 < worthT g)) (et_is (et_test (ev_op (ev_c1 (S := seqR K natR) (v := natV (worthT g)) (er_ev (ev_var rfl) ((seqR K natR).mono e1 hv)) fun x H1 e hx Q q E => ⟨x, g, rfl, hx, h7, hb, q⟩) ev_c rv_I0)) (cast_lt (a := 255))) (fun hw H2 e2 => ?_) (fun hw H2 e2 => ?_)
      · refine s_ret ev_c fun H3 e3 => ret_to q ((e1.trans e2).trans e3) ?_
        unfold broken
        rw [if_neg (by simp [hn']), if_pos (of_decide_eq_true hw)]
        rfl
      · refine q_when (b := !allPushed g) (et_not (et_B (ev_c1 (S := seqR K natR) (er_ev (ev_var rfl) ((seqR K natR).mono (e1.trans e2) hv)) fun x H1 e hx Q q E => ⟨x, g, rfl, hx, h7, hn', q⟩))) (fun ha H3 e3 => ?_) (fun ha H3 e3 => ?_)
        · refine s_ret ev_c fun H4 e4 => ret_to q (((e1.trans e2).trans e3).trans e4) ?_
          unfold broken
          rw [if_neg (by simp [hn']), if_neg (of_decide_eq_false hw), if_pos (by simpa using ha)]
          rfl
        · refine s_ret ev_c fun H4 e4 => ret_to q (((e1.trans e2).trans e3).trans e4) ?_
          unfold broken
          rw [if_neg (by simp [hn']), if_neg (of_decide_eq_false hw), if_neg (by simpa using ha)]
          rfl
theorem ok_rods_of {f : Addr} {fd : FuncData} (F : Fun K "rods_of" "rods_of" s_rods_of f fd) (M : Mg mg) : FnOk P w K mg base CX0 1 f fd ["make"] (spRods K) := by
  refine F.ok sc_rods_of (fun vs H Q E h => ?_) (fun cdv A outer s H vs Q E hr h => ⟨_, (pss_one (ps_ret (pe_lc (own := [("start", 1)]) (g := gName 1) (tt := tYes) rfl sc_rods_of.nd (pi_range3 rfl M.b_range (pa_cons pe_int (pa_cons (pe_callB (lenS (K := K)) (by rfl) M.b_len PySem.boot_len (pa_cons (pv 0) pa_nil)) (pa_cons (pe_gint M.c_NUMBERS_A_ROD) pa_nil)))) (blkOk_by (N := N_rods_of) (sc := defScope s_rods_of) (by decide +kernel)) (fun _ _ _ _ _ => (pg_name (i := 1) sc_rods_of.nd rfl (.inl rfl))) (fun _ _ _ _ _ => pts_nil) (fun _ _ _ _ _ => (pe_slice (slL (K := K)) (pv 0) (po_some (pv 1)) (po_some (pe_op op_add (pv 1) (pe_gint M.c_NUMBERS_A_ROD)))))))), ?_⟩)
  · obtain ⟨v, g, rfl, _⟩ := h
    rfl
  · obtain ⟨v, l, rfl, hv, h7, hl, q⟩ := h
    obtain ⟨p, rfl, hp⟩ := nats_at.mp hv
    refine s_retN (en_lcR3L (fun i => (l.drop (7 * i)).take 7) (ea_cons ev_c (ea_cons (er_len (K := K) (R := natR) (er_ev (ev_var rfl) hv)) (ea_cons ev_c ea_nil))) ?_ (by omega) (fun x => rfl) fun i H1 e1 hi => ?_) q
    · exact rgc_seven h7 hl
    · exact cutV_seven (l := l) (i := i) (by omega) ▸ el_sl (ev_var rfl) (eo_some (ev_var rfl)) (eo_some (ev_op (ev_var rfl) ev_c rv_I0)) (ex_l e1 hp)
theorem ok_make_fault {f : Addr} {fd : FuncData} (F : Fun K "make_fault" "make_fault" s_make_fault f fd) (M : Mg mg) (D_has_whole_rods : Def P w K mg base "has_whole_rods" 1 ["make"] (spWhole K)) (D_rods_of : Def P w K mg base "rods_of" 1 ["make"] (spRods K)) (D_broken_rule : Def P w K mg base "broken_rule" 4 ["rod"] (spBroken K)) : FnOk P w K mg base CX0 5 f fd ["make"] (spFault K) := by
  refine F.ok sc_make_fault (fun vs H Q E h => ?_) (fun cdv A outer s H vs Q E hr h => ⟨_, (pss_cons (ps_if (pt_not (pt_val (pe_callD D_has_whole_rods hr (by decide) (pa_cons (pv 0) pa_nil)))) (pss_one (ps_ret (pe_lst (pa_cons pe_int (pa_cons pe_int pa_nil))))) pss_nil)
      (pss_cons (ps_for PassesOwn.never rfl (pi_enum rfl M.b_enumerate (pa_cons (pe_callD D_rods_of hr (by decide) (pa_cons (pv 0) pa_nil)) pa_nil)) (pg_tup rfl (pgs_cons (pg_name (i := 1) sc_make_fault.nd rfl (.inl rfl)) (pgs_cons (pg_name (i := 2) sc_make_fault.nd rfl (.inl rfl)) pgs_nil))) (pss_cons (ps_set (i := 3) sc_make_fault.nd rfl (.inl rfl) (pe_callD D_broken_rule hr (by decide) (pa_cons (pv 2) pa_nil)))
      (pss_one (ps_if (pt_cmpR op_gt (pv 3) pe_int (nomark _)) (pss_one (ps_ret (pe_lst (pa_cons (pv 3) (pa_cons (pv 1) pa_nil))))) pss_nil))))
      (pss_one (ps_ret (pe_lst pa_nil))))), ?_⟩)
  · obtain ⟨v, g, rfl, _⟩ := h
    rfl
  · obtain ⟨v, l, rfl, hv, hl, hb, q⟩ := h
    refine q_when (b := !wholeRods l) (et_not (et_B (ev_c1 (S := seqR K natR) (er_ev (ev_var rfl) hv) fun x H1 e hx Q q E => ⟨x, l, rfl, hx, q⟩))) (fun hn H1 e1 => ?_) (fun hn H1 e1 => ?_)
    · refine s_retL (xs := [natV 1, natV 0]) (el_lst (ea_cons ev_c (ea_cons ev_c ea_nil)) (by decide)) fun p H2 hp e2 h2 => ?_
      exact ret_goL q e1 hp e2 h2 (by rw [mfault_bad (by simpa using hn)]; rfl)
    · have hw : wholeRods l = true := by simpa using hn
      have wf := whole_facts hw
      refine q_forEnum (K := K) (R := seqR K natR) (l := cuts l) (ec_cons (er_nl (en_rods ((seqR K natR).mono e1 hv) wf.2.2 hl (ev_var rfl))) ec_nil |> ec_one) (fun i σ' _ => (∃ y z u, σ' = [some v, y, z, u]) ∧ ∀ (j : Nat) g, j < i → (cuts l)[j]? = some g → broken g = 0) (fun _ _ => ⟨⟨none, none, none, rfl⟩, fun j g hj => absurd hj (Nat.not_lt_zero _)⟩) ?_ (fun _ _ _ _ _ h => h) ?_
      · rintro B i g vg σ' H' eB e' hi hg ⟨⟨y, z, u, rfl⟩, ha⟩
        have gm := List.mem_of_getElem? hi
        have g7 := cuts_seven gm
        have gb : ∀ x ∈ g, x < 4294967296 := fun x hx => hb x (cuts_mem gm x hx)
        refine q_asg (v := natV (broken g)) (ev_c1 (S := seqR K natR) (er_ev (ev_var rfl) hg) fun x H1 e hx Q q E => ⟨x, g, rfl, hx, g7, gb, q⟩) fun H2 e2 => ?_
        refine s_when (b := decide (0 < broken g)) (et_is (et_test (ev_op (ev_var rfl) ev_c rv_I0)) cast_lt0) (fun hr H3 e3 => ?_) (fun hr H3 e3 => ?_)
        · refine s_retL (xs := [natV (broken g), natV i]) (el_lst (ea_cons (ev_var rfl) (ea_cons (ev_var rfl) ea_nil)) (by simp)) fun p H4 hp e4 h4 => ?_
          exact ret_goL q (e1.trans (eB.trans ((e'.trans e2).trans e3))) hp e4 h4 (by rw [mfault_at hw hi (Nat.ne_of_gt (of_decide_eq_true hr)) ha]; rfl)
        · refine ⟨(e'.trans e2).trans e3, ⟨_, _, _, rfl⟩, fun j g' hj hg' => ?_⟩
          by_cases hji : j < i
          · exact ha j g' hji hg'
          · have : j = i := by omega
            subst this
            have : g' = g := Option.some.inj (hg'.symm.trans hi)
            subst this
            have := of_decide_eq_false hr
            omega
      · rintro σ' H' e' ⟨⟨y, z, u, rfl⟩, ha⟩
        refine s_retL (xs := []) (el_lst ea_nil (by decide)) fun p H4 hp e4 h4 => ?_
        exact ret_goL q (e1.trans e') hp e4 h4 (by rw [mfault_ok hw fun j g hj => ha j g (List.getElem?_eq_some_iff.mp hj).1 hj]; rfl)
theorem ok_product_of_ratios {f : Addr} {fd : FuncData} (F : Fun K "product_of_ratios" "product_of_ratios" s_product_of_ratios f fd) (M : Mg mg) (D_rods_of : Def P w K mg base "rods_of" 1 ["make"] (spRods K)) : FnOk P w K mg base CX0 2 f fd ["make"] (spProd K) := by
  refine F.ok sc_product_of_ratios (fun vs H Q E h => ?_) (fun cdv A outer s H vs Q E hr h => ⟨_, (pss_cons (ps_set (i := 1) sc_product_of_ratios.nd rfl (.inl rfl) pe_int)
      (pss_cons (ps_for PassesOwn.never rfl (pi_list (pe_callD D_rods_of hr (by decide) (pa_cons (pv 0) pa_nil))) (pg_name (i := 2) sc_product_of_ratios.nd rfl (.inl rfl)) (pss_one (ps_set (i := 1) sc_product_of_ratios.nd rfl (.inl rfl) (pe_op op_mulX (pv 1) (pe_ix (ixL (K := K)) (pv 2) pe_int (fun _ _ => rfl))))))
      (pss_one (ps_ret (pv 1))))), ?_⟩)
  · obtain ⟨v, g, rfl, _⟩ := h
    rfl
  · obtain ⟨v, l, rfl, hv, h7, hl, hb, q⟩ := h
    have hlt : ∀ g ∈ cuts l, ix g 0 < 2 ^ 32 := fun g hg => worthT_le (cuts_seven hg) (fun x hx => hb x (cuts_mem hg x hx)) 0
    refine q_asg (v := natV 1) ev_c fun H1 e1 => ?_
    refine q_forR (K := K) (R := seqR K natR) (l := cuts l) (er_nl (en_rods ((seqR K natR).mono e1 hv) h7 hl (ev_var rfl))) (fun i σ' _ => ∃ y, σ' = [some v, some (natV (prodR ((cuts l).take i))), y]) (fun _ _ => ⟨none, rfl⟩) ?_ ?_
    · rintro B i g vg σ' H' eB e' hi hg ⟨y, rfl⟩
      have gm := List.mem_of_getElem? hi
      have lt : prodR ((cuts l).take i) < 2 ^ (1 + 32 * ((cuts l).take i).length) := prod_lt _ 1 1 (by decide) fun g hg => hlt g (mem_take hg)
      have l3 : ((cuts l).take i).length ≤ 100 := by
        rw [List.length_take, cuts_len]
        exact Nat.le_trans (Nat.min_le_right _ _) (by omega)
      refine s_asg (ev_op (ev_var rfl) (nat_ix (j := 0) hg (by rw [cuts_seven gm]; decide) (ev_var rfl)) (rv_I (mulx_ok (b := 32) (lt_pow_abs lt) (lt_pow_abs (hlt g gm)) (by omega)))) fun H2 e2 => ⟨e'.trans e2, some vg, ?_⟩
      unfold prodR
      rw [take_fold hi]
      exact congrArg (fun x => [some v, some (V.int x), some vg]) (by push_cast; rfl)
    · rintro σ' H' e' ⟨y, rfl⟩
      refine s_ret (ev_var rfl) fun H2 e2 => ?_
      rw [List.take_length]
      exact q H2 ((e1.trans e').trans e2)
def part3 (g : List Nat) (a b c : Nat) : Nat → Nat
  | 0 => 0
  | 1 => a * ix g 2
  | 2 => a * ix g 2 + b * ix g 4
  | _ => count3 g a b c
theorem part3_turn {g : List Nat} {a b c i x y z : Nat} (hi : (decks g)[i]? = some (x, y)) (hz : [a, b, c][i]? = some z) : part3 g a b c (i + 1) = part3 g a b c i + z * y := by
  match i, hi, hz with
  | 0, hi, hz =>
    have e := Option.some.inj hi
    have e2 := Option.some.inj hz
    rw [← (Prod.mk.inj e).2, ← e2]
    show a * ix g 2 = 0 + a * ix g 2
    omega
  | 1, hi, hz =>
    have e := Option.some.inj hi
    have e2 := Option.some.inj hz
    rw [← (Prod.mk.inj e).2, ← e2]
    rfl
  | 2, hi, hz =>
    have e := Option.some.inj hi
    have e2 := Option.some.inj hz
    rw [← (Prod.mk.inj e).2, ← e2]
    rfl
  | n + 3, hi, _ => cases hi
theorem ok_count_of {f : Addr} {fd : FuncData} (F : Fun K "count_of" "count_of" s_count_of f fd) (M : Mg mg) (D_decks_of : Def P w K mg base "decks_of" 1 ["rod"] (spDecks K)) : FnOk P w K mg base CX0 2 f fd ["rod", "push"] (spCount K) := by
  refine F.ok sc_count_of (fun vs H Q E h => ?_) (fun cdv A outer s H vs Q E hr h => ⟨_, (pss_cons (ps_set (i := 2) sc_count_of.nd rfl (.inl rfl) pe_int)
      (pss_cons (ps_for PassesOwn.never rfl (pi_zip rfl M.b_zip (pa_cons (pv 1) (pa_cons (pe_callD D_decks_of hr (by decide) (pa_cons (pv 0) pa_nil)) pa_nil))) (pg_tup rfl (pgs_cons (pg_name (i := 3) sc_count_of.nd rfl (.inl rfl)) (pgs_cons (pg_name (i := 4) sc_count_of.nd rfl (.inl rfl)) pgs_nil))) (pss_one (ps_set (i := 2) sc_count_of.nd rfl (.inl rfl) (pe_op op_add (pv 2) (pe_op op_mulX (pv 3) (pe_ix (ixT (K := K)) (pv 4) pe_int (fun _ _ => rfl)))))))
      (pss_one (ps_ret (pv 2))))), ?_⟩)
  · obtain ⟨v, w, g, a, b, c, rfl, _⟩ := h
    rfl
  · obtain ⟨v, w, g, a, b, c, rfl, hv, hw, h7, hb, ha, hb2, hc, q⟩ := h
    refine q_asg (v := natV 0) ev_c fun H1 e1 => ?_
    refine q_forZip (K := K) (R := natR) (S := pairR natR natR) (l := [a, b, c]) (m := decks g) rfl (ec_cons (er_ev (ev_var rfl) ((seqR K natR).mono e1 hw)) (ec_cons (er_seq (er_decks ((seqR K natR).mono e1 hv) h7 (ev_var rfl))) ec_nil)) (fun i σ' _ => ∃ y z, σ' = [some v, some w, some (natV (part3 g a b c i)), y, z]) (fun _ _ => ⟨none, none, rfl⟩) ?_ (fun _ _ _ _ _ h => h) ?_
    · rintro B i p d vp vd σ' H' eB e' hi hj rfl hd ⟨y, z, rfl⟩
      have lt := decks_lt h7 hb (List.mem_of_getElem? hj)
      have hlt : p < 4294967296 := by
        have hm := List.mem_of_getElem? hi
        simp only [List.mem_cons, List.not_mem_nil, or_false] at hm
        rcases hm with rfl | rfl | rfl
        · exact ha
        · exact hb2
        · exact hc
      refine s_asg (ev_op (ev_var rfl) (ev_op (ev_var rfl) (ev_nat (er_snd (K := K) (R := natR) (S := natR) (a := d.1) (b := d.2) (er_ev (ev_var rfl) hd))) (rv_I (mulx_ok (a := 32) (b := 32) (lt_pow_abs hlt) (lt_pow_abs lt.2) (by decide)))) rv_I0) fun H2 e2 => ⟨e'.trans e2, some (natV p), some vd, ?_⟩
      rw [part3_turn hj hi]
      exact congrArg (fun x => [some v, some w, some (V.int x), some (natV p), some vd]) (by push_cast; rfl)
    · rintro σ' H' e' ⟨y, z, rfl⟩
      exact s_ret (ev_var rfl) fun H2 e2 => q H2 ((e1.trans e').trans e2)
theorem ok_digits_of {f : Addr} {fd : FuncData} (F : Fun K "digits_of" "digits_of" s_digits_of f fd) (M : Mg mg) (D_rods_of : Def P w K mg base "rods_of" 1 ["make"] (spRods K)) : FnOk P w K mg base CX0 2 f fd ["value", "make"] (spDigitsOf K) := by
  refine F.ok sc_digits_of (fun vs H Q E h => ?_) (fun cdv A outer s H vs Q E hr h => ⟨_, (pss_cons (ps_set (i := 2) sc_digits_of.nd rfl (.inl rfl) (pe_lst pa_nil))
      (pss_cons (ps_set (i := 3) sc_digits_of.nd rfl (.inl rfl) (pv 0))
      (pss_cons (ps_for PassesOwn.never rfl (pi_list (pe_callD D_rods_of hr (by decide) (pa_cons (pv 1) pa_nil))) (pg_name (i := 4) sc_digits_of.nd rfl (.inl rfl)) (pss_cons (ps_expr (pe_bm PySem.F.plainAttrs_list PySem.F.slot_list_append PySem.F.type_list_append mt_append (pv 2) (pa_cons (pe_op op_mod (pv 3) (pe_ix (ixL (K := K)) (pv 4) pe_int (fun _ _ => rfl))) pa_nil)))
      (pss_one (ps_set (i := 3) sc_digits_of.nd rfl (.inl rfl) (pe_op op_fdivW (pv 3) (pe_ix (ixL (K := K)) (pv 4) pe_int (fun _ _ => rfl)))))))
      (pss_one (ps_ret (pv 2)))))), ?_⟩)
  · obtain ⟨v, l, u, rfl, _⟩ := h
    rfl
  · obtain ⟨v, l, u, rfl, hv, h7, hl, hr0, q⟩ := h
    refine q_asgL (el_lst ea_nil (by decide)) fun p H1 hp e1 h1 => ?_
    refine q_asg (ev_var rfl) fun H2 e2 => ?_
    have e12 := e1.trans e2
    refine q_forN (K := K) (en_rods ((seqR K natR).mono e12 hv) h7 hl (ev_var rfl)) (fun i σ' H' => Ex H H' ∧ (∃ y, σ' = [some (natV u), some v, some (.ref p), some (natV (lefts ((cuts l).take i) u)), y]) ∧ H' p = some (.lst ((digs ((cuts l).take i) u).map natV))) (fun H3 e3 => ⟨e12.trans e3, ⟨none, rfl⟩, e3 _ _ (e2 _ _ h1)⟩) ?_ ?_
    · rintro B i g vg σ' H' eB kB hi hg ⟨e', ⟨y, rfl⟩, hx⟩
      have gm := List.mem_of_getElem? hi
      have hg' := hg H' kB
      have ht : (cuts l).take (i + 1) = (cuts l).take i ++ [g] := by rw [List.take_add_one, hi]; rfl
      have hb := hr0 g gm
      have ri : ∀ H3, Ex H' H3 → Ev (tOp (rIxL K) (tVar 4) (tC (.int 0))) [some (natV u), some v, some (.ref p), some (natV (lefts ((cuts l).take i) u)), some vg] H3 (natV (ix g 0)) := fun H3 e3 => nat_ix (j := 0) ((seqR K natR).mono e3 hg') (by rw [cuts_seven gm]; decide) (ev_var rfl)
      refine q_app (K := K) hx (ev_var rfl) (ev_op (ev_var rfl) (ri H' (Ex.refl _)) (rv_I (Int.ofNat_lt.mpr hb.1))) (by rw [List.length_map, digs_len, List.length_take, cuts_len]; omega) fun H3 e3 => ?_
      have kp3 : Kept H2 B (upd H3 p (.lst ((digs ((cuts l).take i) u).map natV ++ [.int ((lefts ((cuts l).take i) u : Int) % (ix g 0 : Int))]))) := (kB.ex e3).old (by rw [e2 _ _ h1]; simp)
      have hg3 := hg _ kp3
      refine s_asg (ev_op (ev_var rfl) (nat_ix (j := 0) hg3 (by rw [cuts_seven gm]; decide) (ev_var rfl)) (rv_I (wide_div (b := 32) (Int.ofNat_lt.mpr hb.1) (lt_pow_abs hb.2) (by decide) (by decide)))) fun H4 e4 => ⟨kp3.ex e4, ((Ex.mut (e'.trans e3) hp).trans e4), ⟨some vg, ?_⟩, ?_⟩
      · rw [ht]
        unfold lefts
        rw [List.foldl_append]
        rfl
      · rw [ht, digs_snoc, List.map_append]
        exact e4 _ _ upd_same
    · rintro σ' H' ⟨e', ⟨y, rfl⟩, hx⟩
      rw [List.take_length] at hx
      exact s_ret (ev_var rfl) fun H3 e3 => q _ _ (e'.trans e3) ⟨p, _, rfl, hp, e3 _ _ hx, List.length_map _, fun i a hi => ⟨natV a, by rw [List.getElem?_map, hi]; rfl, fun _ _ => rfl⟩⟩
theorem ok_most_pushed {f : Addr} {fd : FuncData} (F : Fun K "most_pushed" "most_pushed" s_most_pushed f fd) (M : Mg mg) : FnOk P w K mg base CX0 1 f fd ["deck", "count"] (spMost) := by
  refine F.ok sc_most_pushed (fun vs H Q E h => ?_) (fun cdv A outer s H vs Q E hr h => ⟨_, (pss_cons (ps_if (pt_cmpR op_eq (pe_ix (ixT (K := K)) (pv 0) pe_int (fun _ _ => rfl)) pe_int (nomark _)) (pss_one (ps_ret pe_int)) pss_nil)
      (pss_one (ps_ret (pe_callB minS (by rfl) M.b_min PyProof.Rows.boot_min (pa_cons (pe_ix (ixT (K := K)) (pv 0) pe_int (fun _ _ => rfl)) (pa_cons (pe_op op_fdivW (pv 1) (pe_ix (ixT (K := K)) (pv 0) pe_int (fun _ _ => rfl))) pa_nil)))))), ?_⟩)
  · obtain ⟨d, b, w, u, rfl, _⟩ := h
    rfl
  · obtain ⟨d, b, w, u, rfl, hd, hw, hw32, q⟩ := h
    have eb : ∀ H1, Ex H H1 → Ev (tOp (rIxT K) (tVar 0) (tC (.int 0))) (start N_most_pushed [d, natV u]) H1 (natV b) := fun H1 e => ev_nat (er_fst (K := K) (R := natR) (S := natR) (a := b) (b := w) (er_ev (ev_var rfl) ((pairR natR natR).mono e hd)))
    refine q_when (b := decide (b = 0)) (et_is (et_test (ev_op (eb H (Ex.refl _)) ev_c (rv_eq rfl))) cast_eq0) (fun hb H1 e1 => ?_) (fun hb H1 e1 => ?_)
    · refine s_ret ev_c fun H2 e2 => ret_to q (e1.trans e2) ?_
      unfold mp
      rw [if_pos (of_decide_eq_true hb)]
      rfl
    · have hb' := of_decide_eq_false hb
      have w0 : (0 : Int) < (w : Int) := by
        have := hw hb'
        omega
      refine s_ret (ev_min2 (b := u / w) (eb H1 e1) (ev_op (ev_var rfl) (ev_nat (er_snd (K := K) (R := natR) (S := natR) (a := b) (b := w) (er_ev (ev_var rfl) ((pairR natR natR).mono e1 hd)))) (rv_I (wide_div (b := 32) w0 (lt_pow_abs hw32) (by decide) (by decide))))) fun H2 e2 => ret_to q (e1.trans e2) ?_
      unfold mp
      rw [if_neg hb']
theorem rod_sound {g : List Nat} (hg : broken g = 0) : (ix g 1 ≠ 0 → ix g 2 ≠ 0) ∧ (ix g 3 ≠ 0 → ix g 4 ≠ 0) ∧ (ix g 5 ≠ 0 → ix g 6 ≠ 0) ∧ ix g 1 ≤ 15 ∧ ix g 3 ≤ 15 ∧ ix g 5 ≤ 15 := by
  have hs := (nums_facts (broken_sound hg).1).2.2.1
  have s0 := hs (ix g 1, ix g 2) (List.mem_cons_self ..)
  have s1 := hs (ix g 3, ix g 4) (List.mem_cons_of_mem _ (List.mem_cons_self ..))
  have s2 := hs (ix g 5, ix g 6) (List.mem_cons_of_mem _ (List.mem_cons_of_mem _ (List.mem_cons_self ..)))
  have z : ∀ {b w : Nat}, sound b w = true → b ≠ 0 → w ≠ 0 := fun {b w} h hb hw => by
    unfold sound at h
    rw [if_pos (.inr hw), beq_iff_eq] at h
    omega
  exact ⟨z s0, z s1, z s2, (sound_le s0).1, (sound_le s1).1, (sound_le s2).1⟩
theorem sub_nat {a b : Nat} (h : b ≤ a) : ((a : Int) - (b : Int)) = ((a - b : Nat) : Int) := (Int.natCast_sub h).symm
theorem ok_form_of {f : Addr} {fd : FuncData} (F : Fun K "form_of" "form_of" s_form_of f fd) (M : Mg mg) (D_decks_of : Def P w K mg base "decks_of" 1 ["rod"] (spDecks K)) (D_most_pushed : Def P w K mg base "most_pushed" 1 ["deck", "count"] (spMost)) (D_count_of : Def P w K mg base "count_of" 2 ["rod", "push"] (spCount K)) : FnOk P w K mg base CX0 3 f fd ["rod", "digit"] (spFormOf K) := by
  refine F.ok sc_form_of (fun vs H Q E h => ?_) (fun cdv A outer s H vs Q E hr h => ⟨_, (pss_cons (ps_set (i := 2) sc_form_of.nd rfl (.inl rfl) (pe_callD D_decks_of hr (by decide) (pa_cons (pv 0) pa_nil)))
      (pss_cons (ps_set (i := 3) sc_form_of.nd rfl (.inl rfl) (pe_lst pa_nil))
      (pss_cons (ps_for PassesOwn.never rfl (pi_range3 rfl M.b_range (pa_cons (pe_callD D_most_pushed hr (by decide) (pa_cons (pe_ix (ixL (K := K)) (pv 2) pe_int (fun _ _ => rfl)) (pa_cons (pv 1) pa_nil))) (pa_cons (pe_un un_neg pe_int) (pa_cons (pe_un un_neg pe_int) pa_nil)))) (pg_name (i := 4) sc_form_of.nd rfl (.inl rfl)) (pss_cons (ps_set (i := 5) sc_form_of.nd rfl (.inl rfl) (pe_op op_sub (pv 1) (pe_op op_mulX (pv 4) (pe_ix (ixT (K := K)) (pe_ix (ixL (K := K)) (pv 2) pe_int (fun _ _ => rfl)) pe_int (fun _ _ => rfl)))))
      (pss_one (ps_for PassesOwn.never rfl (pi_range3 rfl M.b_range (pa_cons (pe_callD D_most_pushed hr (by decide) (pa_cons (pe_ix (ixL (K := K)) (pv 2) pe_int (fun _ _ => rfl)) (pa_cons (pv 5) pa_nil))) (pa_cons (pe_un un_neg pe_int) (pa_cons (pe_un un_neg pe_int) pa_nil)))) (pg_name (i := 6) sc_form_of.nd rfl (.inl rfl)) (pss_cons (ps_set (i := 7) sc_form_of.nd rfl (.inl rfl) (pe_callD D_most_pushed hr (by decide) (pa_cons (pe_ix (ixL (K := K)) (pv 2) pe_int (fun _ _ => rfl)) (pa_cons (pe_op op_sub (pv 5) (pe_op op_mulX (pv 6) (pe_ix (ixT (K := K)) (pe_ix (ixL (K := K)) (pv 2) pe_int (fun _ _ => rfl)) pe_int (fun _ _ => rfl)))) pa_nil))))
      (pss_cons (ps_set (i := 8) sc_form_of.nd rfl (.inl rfl) (pe_lst (pa_cons (pv 4) (pa_cons (pv 6) (pa_cons (pv 7) pa_nil)))))
      (pss_one (ps_if (PW.pt (pw_and (pt_cmpR op_eq (pe_callD D_count_of hr (by decide) (pa_cons (pv 0) (pa_cons (pv 8) pa_nil))) (pv 1) (nomark _)) (pw_and1 (PW.pt (pw_or (pt_cmpR op_eq (pe_callB (lenS (K := K)) (by rfl) M.b_len PySem.boot_len (pa_cons (pv 3) pa_nil)) pe_int (nomark _)) (pw_or1 (pt_cmpR op_lt (pe_callB (sumS (K := K)) (by rfl) M.b_sum PyProof.Rows.boot_sum (pa_cons (pv 8) pa_nil)) (pe_callB (sumS (K := K)) (by rfl) M.b_sum PyProof.Rows.boot_sum (pa_cons (pv 3) pa_nil)) (nomark _)))))))) (pss_one (ps_set (i := 3) sc_form_of.nd rfl (.inl rfl) (pv 8))) pss_nil))))))))
      (pss_one (ps_ret (pv 3)))))), ?_⟩)
  · obtain ⟨v, g, d, rfl, _⟩ := h
    rfl
  · obtain ⟨v, g, d, rfl, hv, h7, hb, hg, hd, q⟩ := h
    obtain ⟨z0, z1, z2, b0, b1, b2⟩ := rod_sound hg
    have w32 : ∀ j, ix g j < 4294967296 := fun j => worthT_le h7 hb j
    refine q_asgR (er_decks hv h7 (ev_var rfl)) fun dk H1 e1 hdk => ?_
    have hdk := lst_seq (K := K) hdk
    refine q_asgL (el_lst ea_nil (by decide)) fun p0 H2 hp0 e2 h2 => ?_
    have e12 := e1.trans e2
    have dat : ∀ (j : Nat) (a b : Nat) {σ : L2.St} {H3 : Hp}, σ[2]? = some (some dk) → Ex H2 H3 → (decks g)[j]? = some (a, b) → EvR (pairR natR natR) (tOp (rIxL K) (tVar 2) (tC (.int (j : Int)))) σ H3 (a, b) := fun j a b σ H3 hσ e hj => er_ix (er_ev (ev_var hσ) ((seqR K (pairR natR natR)).mono (e2.trans e) hdk)) hj
    let m0 := mp (ix g 1) (ix g 2) d
    refine q_forDown (n := m0) (ea_cons (ev_c2 (S := pairR natR natR) (T := natR) (dat 0 (ix g 1) (ix g 2) rfl (Ex.refl _) rfl) (er_nat (ev_var rfl)) fun x y H1 e hx hy Q q E => ⟨x, ix g 1, ix g 2, d, by rw [show y = natV d from hy], hx, z0, w32 2, q⟩) (ea_cons (ev_un ev_c ru_neg) (ea_cons (ev_un ev_c ru_neg) ea_nil))) (Nat.le_trans (mp_le _ _ _) (by omega)) (fun i σ' H' => Ex H2 H' ∧ (∃ p t a b c e f, σ' = [some v, some (natV d), some dk, some (.ref p), a, b, c, e, f] ∧ H' p = some (.lst (t.map natV)) ∧ H p = none ∧ Best g d (fun x _ => m0 + 1 - i ≤ x) t)) (fun H3 e3 => ⟨e3, p0, [], none, none, none, none, none, rfl, e3 _ _ h2, fresh_back e1 hp0, .inl ⟨rfl, fun a b c ha hb2 hc hcd hle => ?_⟩⟩) ?_ ?_
    · have : a ≤ m0 := le_mp z0 ha (by unfold count3 at hcd; omega)
      omega
    · rintro i σ' H3 hi ⟨e3, p, t, a', b', c', f1, f2, rfl, ht, hpn, best⟩
      have hm0 : m0 ≤ ix g 1 := mp_le _ _ _
      have ha : m0 - i ≤ ix g 1 := by omega
      have hle0 : (m0 - i) * ix g 2 ≤ d := Nat.le_trans (Nat.mul_le_mul_right _ (Nat.sub_le _ _)) (mp_mul _ _ _)
      generalize hfi : m0 - i = fi at ha hle0 ⊢
      refine q_asg (v := natV (d - fi * ix g 2)) (ev_is (ev_op (ev_var rfl) (ev_is (ev_op (ev_var rfl) (ev_nat (er_snd (K := K) (R := natR) (S := natR) (dat 0 (ix g 1) (ix g 2) rfl e3 rfl))) (rv_I (mulx_ok (a := 32) (b := 32) (lt_pow_abs (by omega)) (lt_pow_abs (w32 2)) (by decide)))) (w := natV (fi * ix g 2)) (congrArg V.int (by push_cast; rfl))) rv_I0) (congrArg V.int (sub_nat hle0))) fun H4 e4 => ?_
      generalize haf : d - fi * ix g 2 = af
      let m1 := mp (ix g 3) (ix g 4) af
      refine s_forDown (n := m1) (ea_cons (ev_c2 (S := pairR natR natR) (T := natR) (dat 1 (ix g 3) (ix g 4) rfl (e3.trans e4) rfl) (er_nat (ev_var rfl)) fun x y H1 e hx hy Q q E => ⟨x, ix g 3, ix g 4, af, by rw [show y = natV af from hy], hx, z1, w32 4, q⟩) (ea_cons (ev_un ev_c ru_neg) (ea_cons (ev_un ev_c ru_neg) ea_nil))) (Nat.le_trans (mp_le _ _ _) (by omega)) (fun j σ' H' => Ex H2 H' ∧ (∃ p t c e f, σ' = [some v, some (natV d), some dk, some (.ref p), some (natV fi), some (natV af), c, e, f] ∧ H' p = some (.lst (t.map natV)) ∧ H p = none ∧ Best g d (fun x y => fi < x ∨ (fi = x ∧ m1 + 1 - j ≤ y)) t)) (fun H5 e5 => ⟨(e3.trans e4).trans e5, p, t, _, _, _, rfl, (e4.trans e5) _ _ ht, hpn, best.to fun x y z hx hy hz hc => ?_⟩) ?_ ?_
      · have : fi = x → y ≤ m1 := fun hf => le_mp z1 hy (by subst hf; unfold count3 at hc; omega)
        constructor
        · intro hq
          exact .inl (by omega)
        · rintro (hq | ⟨hq, hq2⟩)
          · omega
          · have := this hq
            omega
      · rintro j σ' H5 hj ⟨e5, p, t, c', f1, f2, rfl, ht, hpn, best⟩
        have hm1 : m1 ≤ ix g 3 := mp_le _ _ _
        have hb3 : m1 - j ≤ ix g 3 := by omega
        have hle1 : (m1 - j) * ix g 4 ≤ af := Nat.le_trans (Nat.mul_le_mul_right _ (Nat.sub_le _ _)) (mp_mul _ _ _)
        generalize hsj : m1 - j = sj at hb3 hle1 ⊢
        let c := mp (ix g 5) (ix g 6) (af - sj * ix g 4)
        refine q_asg (v := natV c) (ev_c2 (S := pairR natR natR) (T := natR) (c := af - sj * ix g 4) (dat 2 (ix g 5) (ix g 6) rfl e5 rfl) (er_nat (ev_is (ev_op (ev_var rfl) (ev_is (ev_op (ev_var rfl) (ev_nat (er_snd (K := K) (R := natR) (S := natR) (dat 1 (ix g 3) (ix g 4) rfl e5 rfl))) (rv_I (mulx_ok (a := 32) (b := 32) (lt_pow_abs (by omega)) (lt_pow_abs (w32 4)) (by decide)))) (w := natV (sj * ix g 4)) (congrArg V.int (by push_cast; rfl))) rv_I0) (congrArg V.int (sub_nat hle1)))) fun x y H1 e hx hy Q q E => ⟨x, ix g 5, ix g 6, af - sj * ix g 4, by rw [show y = natV (af - sj * ix g 4) from hy], hx, z2, w32 6, q⟩) fun H6 e6 => ?_
        have hc5 : c ≤ ix g 5 := mp_le _ _ _
        refine q_asgL (xs := [fi, sj, c].map natV) (el_lst (ea_cons (ev_var rfl) (ea_cons (ev_var rfl) (ea_cons (ev_var rfl) ea_nil))) (by simp)) fun p1 H7 hp1 e7 h7' => ?_
        have e27 : Ex H2 H7 := (e5.trans e6).trans e7
        have ht7 : H7 p = some (.lst (t.map natV)) := (e6.trans e7) _ _ ht
        have push_at : (seqR K natR).at_ H7 (.ref p1) [fi, sj, c] := nats_at.mpr ⟨p1, rfl, sq_of h7'⟩
        refine s_when (b := decide (count3 g fi sj c = d) && (decide (t.length = 0) || decide (Na.total [fi, sj, c] < Na.total t))) (et_and (et_is (et_test (ev_op (ev_c2 (S := seqR K natR) (T := seqR K natR) (v := natV (count3 g fi sj c)) (er_ev (ev_var rfl) ((seqR K natR).mono (e12.trans e27) hv)) (er_ev (ev_var rfl) push_at) fun x y H1 e hx hy Q q E => ⟨x, y, g, fi, sj, c, rfl, hx, hy, h7, hb, by omega, by omega, by omega, q⟩) (ev_var rfl) (rv_eq rfl))) cast_eq) fun _ => et_or (et_is (et_test (ev_op (ev_is (ev_len (ev_var rfl) (sq_of ht7)) (congrArg (fun n : Nat => V.int (n : Int)) (List.length_map _))) ev_c (rv_eq rfl))) cast_eq0) fun _ => et_is (et_test (ev_op (ev_sum (ev_var rfl) (sq_of h7')) (ev_sum (ev_var rfl) (sq_of ht7)) rv_I0)) cast_lt) (fun hn H8 e8 => ?_) (fun hn H8 e8 => ?_)
        all_goals have bt := Best.turn (W := fun x y => fi < x ∨ (fi = x ∧ m1 + 1 - (j + 1) ≤ y)) best ha hb3 hc5 (fun z hz hcz => (mp_exact z2 hz (by unfold count3 at hcz; omega)).symm) (fun x y => by omega) (fun x y hh => by omega)
        · rw [Bool.and_eq_true, Bool.or_eq_true, decide_eq_true_iff, decide_eq_true_iff, decide_eq_true_iff, List.length_eq_zero_iff, total_three] at hn
          rw [if_pos hn] at bt
          exact s_asg (ev_var rfl) fun H9 e9 => ⟨(e27.trans e8).trans e9, p1, [fi, sj, c], _, _, _, rfl, (e8.trans e9) _ _ h7', fresh_back (e12.trans (e5.trans e6)) hp1, bt⟩
        · rw [if_neg (fun hh => by
            rw [← total_three] at hh
            rw [decide_eq_true hh.1, Bool.true_and, Bool.or_eq_false_iff, decide_eq_false_iff_not, decide_eq_false_iff_not, List.length_eq_zero_iff] at hn
            exact hh.2.elim hn.1 hn.2)] at bt
          exact ⟨e27.trans e8, p, t, _, _, _, rfl, e8 _ _ ht7, hpn, bt⟩
      · rintro σ' H5 ⟨e5, p, t, c', f1, f2, rfl, ht, hpn, best⟩
        exact ⟨e5, p, t, _, _, _, _, _, rfl, ht, hpn, best.to fun x y z hx hy hz hc => by omega⟩
    · rintro σ' H3 ⟨e3, p, t, a', b', c', f1, f2, rfl, ht, hpn, best⟩
      have := best.form hg hd fun a b => by omega
      subst this
      exact s_ret (ev_var rfl) fun H4 e4 => q _ _ ((e12.trans e3).trans e4) ⟨p, _, rfl, hpn, e4 _ _ ht, List.length_map _, fun i a hi => ⟨natV a, by rw [List.getElem?_map, hi]; rfl, fun _ _ => rfl⟩⟩
theorem ok_standing_in_form {f : Addr} {fd : FuncData} (F : Fun K "standing_in_form" "standing_in_form" s_standing_in_form f fd) (M : Mg mg) (D_rods_of : Def P w K mg base "rods_of" 1 ["make"] (spRods K)) (D_digits_of : Def P w K mg base "digits_of" 2 ["value", "make"] (spDigitsOf K)) (D_form_of : Def P w K mg base "form_of" 3 ["rod", "digit"] (spFormOf K)) : FnOk P w K mg base CX0 4 f fd ["value", "make"] (spShownOf K) := by
  refine F.ok sc_standing_in_form (fun vs H Q E h => ?_) (fun cdv A outer s H vs Q E hr h => ⟨_, (pss_cons (ps_set (i := 2) sc_standing_in_form.nd rfl (.inl rfl) (pe_lst pa_nil))
      (pss_cons (ps_for PassesOwn.never rfl (pi_zip rfl M.b_zip (pa_cons (pe_callD D_rods_of hr (by decide) (pa_cons (pv 1) pa_nil)) (pa_cons (pe_callD D_digits_of hr (by decide) (pa_cons (pv 0) (pa_cons (pv 1) pa_nil))) pa_nil))) (pg_tup rfl (pgs_cons (pg_name (i := 3) sc_standing_in_form.nd rfl (.inl rfl)) (pgs_cons (pg_name (i := 4) sc_standing_in_form.nd rfl (.inl rfl)) pgs_nil))) (pss_one (ps_expr (pe_bm PySem.F.plainAttrs_list PySem.F.slot_list_extend PySem.F.type_list_extend mt_extend (pv 2) (pa_cons (pe_callD D_form_of hr (by decide) (pa_cons (pv 3) (pa_cons (pv 4) pa_nil))) pa_nil)))))
      (pss_one (ps_ret (pv 2))))), ?_⟩)
  · obtain ⟨v, l, u, rfl, _⟩ := h
    rfl
  · obtain ⟨v, l, u, rfl, ⟨hv, hl, hb⟩, hm, q⟩ := h
    have wf := whole_facts (mfault_nil hm).1
    have fit := fit_of hm
    refine q_asgL (el_lst ea_nil (by decide)) fun p H1 hp e1 h1 => ?_
    have hr0 : ∀ g ∈ cuts l, 0 < ix g 0 ∧ ix g 0 < 2 ^ 32 := fun g hg => ⟨ratio_pos (fit g hg), worthT_le (cuts_seven hg) (fun x hx => hb x (cuts_mem hg x hx)) 0⟩
    refine q_forZipN (K := K) (R := seqR K natR) (S := natR) (l := cuts l) (m := digs (cuts l) u) (digs_len _ _).symm (en_rods ((seqR K natR).mono e1 hv) wf.2.2 hl (ev_var rfl)) (en_c2 (S := natR) (T := seqR K natR) (er_nat (ev_var rfl)) (er_ev (ev_var rfl) ((seqR K natR).mono e1 hv)) fun x y H1 e hx hy Q q E => ⟨y, l, u, by rw [show x = natV u from hx], hy, wf.2.2, hl, hr0, q⟩) (fun i σ' H' => Ex H H' ∧ (∃ y z, σ' = [some (natV u), some v, some (.ref p), y, z]) ∧ H' p = some (.lst ((shown3 ((cuts l).take i) u).map natV))) (fun H3 e3 => ⟨e1.trans e3, ⟨none, none, rfl⟩, e3 _ _ h1⟩) ?_ (fun i σ' H' H'' e p => ⟨p.1.trans e, p.2.1, e _ _ p.2.2⟩) ?_
    · rintro B i g d vg vd σ' H' eB kB hi hj hg hd ⟨e', ⟨y, z, rfl⟩, hx⟩
      have gm := List.mem_of_getElem? hi
      have g7 := cuts_seven gm
      have gb : ∀ x ∈ g, x < 4294967296 := fun x hx => hb x (cuts_mem gm x hx)
      have hfit := fit g gm
      rw [digs_at _ _ _ _ hi] at hj
      obtain rfl := Option.some.inj hj
      have hdl : lefts ((cuts l).take i) u % ix g 0 < ix g 0 := Nat.mod_lt _ (ratio_pos hfit)
      obtain rfl : vd = natV (lefts ((cuts l).take i) u % ix g 0) := hd H' kB
      refine s_ext (K := K) hx (ev_var rfl) (el_flat (en_c2 (S := seqR K natR) (T := natR) (er_ev (ev_var rfl) (hg H' kB)) (er_nat (ev_var rfl)) fun x y H1 e hx hy Q q E => ⟨x, g, _, by rw [show y = natV _ from hy], hx, g7, gb, hfit, hdl, q⟩)) ?_ fun H3 e3 => ⟨(kB.ex e3).old (by rw [h1]; simp), Ex.mut (e'.trans e3) hp, ⟨_, _, rfl⟩, ?_⟩
      · rw [List.length_map, List.length_map, shown3_len _ _ (fun x hx => fit x (mem_take hx)), form3_len hfit hdl, List.length_take, cuts_len]
        omega
      · rw [upd_same, List.take_add_one, hi]
        exact congrArg (fun x => some (HO.lst x)) (by rw [show ((cuts l).take i ++ (some g).toList) = (cuts l).take i ++ [g] from rfl, shown3_snoc, List.map_append])
    · rintro σ' H' ⟨e', ⟨y, z, rfl⟩, hx⟩
      rw [List.take_length] at hx
      exact s_ret (ev_var rfl) fun H3 e3 => q _ _ (e'.trans e3) ⟨p, _, rfl, hp, e3 _ _ hx, List.length_map _, fun i a hi => ⟨natV a, by rw [List.getElem?_map, hi]; rfl, fun _ _ => rfl⟩⟩
/-! ### refusals -/
theorem refs_nil {f : List Nat} (h : f = []) : refs f = [] := if_pos h
theorem refs_bad {f : List Nat} (h : f ≠ []) : refs f = refusal f := if_neg h
theorem refusal_v (f : List Nat) : (refusal f).map V.int = .int (-5) :: f.map natV := by
  unfold refusal
  rw [List.map_cons, List.map_map]
  rfl
theorem nums_v (f : List Nat) : (nums f).map V.int = natV 0 :: f.map natV := by
  unfold nums
  rw [List.map_cons, List.map_map]
  rfl
theorem mf_len {l : List Nat} : (mfault l).length ≤ 1000 := by
  have := mfault_short (l := l)
  rw [List.length_map] at this
  exact this
theorem sf_len (gs : List (List Nat)) (st : List Nat) : (sfault gs st).length ≤ 1000 := by
  unfold sfault
  split
  · simp
  · split <;> simp
theorem ok_refused_for {f : Addr} {fd : FuncData} (F : Fun K "refused_for" "refused_for" s_refused_for f fd) (M : Mg mg) : FnOk P w K mg base CX0 1 f fd ["fault"] (spRefused) := by
  refine F.ok sc_refused_for (fun vs H Q E h => ?_) (fun cdv A outer s H vs Q E hr h => ⟨_, (pss_cons (ps_if (pt_cmpR op_eq (pe_callB (lenS (K := K)) (by rfl) M.b_len PySem.boot_len (pa_cons (pv 0) pa_nil)) pe_int (nomark _)) (pss_one (ps_ret (pe_lst pa_nil))) pss_nil)
      (pss_one (ps_ret (pe_op op_cat (pe_lst (pa_cons (pe_un un_neg pe_int) pa_nil)) (pv 0))))), ?_⟩)
  · obtain ⟨v, f, rfl, _⟩ := h
    rfl
  · obtain ⟨v, f, rfl, ⟨p, xs, rfl, hp, hx⟩, hl, q⟩ := h
    obtain rfl := items_nat hx
    refine q_when (b := decide (f.length = 0)) (et_is (et_test (ev_op (ev_is (ev_len (ev_var rfl) (sq_of hp)) (congrArg (fun n : Nat => V.int (n : Int)) (List.length_map _))) ev_c (rv_eq rfl))) cast_eq0) (fun hn H1 e1 => ?_) (fun hn H1 e1 => ?_)
    · exact s_retL (xs := []) (el_lst ea_nil (by decide)) fun r H2 hr e2 h2 => ret_goL q e1 hr e2 h2 (by rw [refs_nil (List.length_eq_zero_iff.mp (of_decide_eq_true hn))]; rfl)
    · exact s_retL (el_cat (el_lst (ea_cons (ev_un ev_c ru_neg) ea_nil) (by decide)) (fun H1 e1 => ev_var rfl) (e1 _ _ hp) (by rw [List.length_map]; simp; omega)) fun r H2 hr e2 h2 => ret_goL q e1 hr e2 h2 (by rw [refs_bad (fun z => of_decide_eq_false hn (by rw [z]; rfl)), refusal_v]; rfl)
theorem er_flat {te : TE} {σ : L2.St} {H : Hp} {l : List Nat} (h : EvL te σ H (l.map natV)) : EvR (lstR natR) te σ H l := er_n (en_l (en_flat h))
theorem ok_make_refusal {f : Addr} {fd : FuncData} (F : Fun K "make_refusal" "make_refusal" s_make_refusal f fd) (M : Mg mg) (D_refused_for : Def P w K mg base "refused_for" 1 ["fault"] (spRefused)) (D_make_fault : Def P w K mg base "make_fault" 5 ["make"] (spFault K)) : FnOk P w K mg base CX0 6 f fd ["make"] (spMRef K) := by
  refine F.ok sc_make_refusal (fun vs H Q E h => ?_) (fun cdv A outer s H vs Q E hr h => ⟨_, (pss_one (ps_ret (pe_callD D_refused_for hr (by decide) (pa_cons (pe_callD D_make_fault hr (by decide) (pa_cons (pv 0) pa_nil)) pa_nil)))), ?_⟩)
  · obtain ⟨v, l, rfl, _⟩ := h
    rfl
  · obtain ⟨v, l, rfl, ⟨hv, hl, hb⟩, q⟩ := h
    exact s_retL (el_c1 (S := lstR natR) (er_flat (el_c1 (S := seqR K natR) (er_ev (ev_var rfl) hv) fun x H1 e hx Q q E => ⟨x, l, rfl, hx, hl, hb, q⟩)) fun x H1 e hx Q q E => ⟨x, _, rfl, hx, mf_len, q⟩) q
theorem ok_value_refusal {f : Addr} {fd : FuncData} (F : Fun K "value_refusal" "value_refusal" s_value_refusal f fd) (M : Mg mg) (D_make_refusal : Def P w K mg base "make_refusal" 6 ["make"] (spMRef K)) (D_product_of_ratios : Def P w K mg base "product_of_ratios" 2 ["make"] (spProd K)) : FnOk P w K mg base CX0 7 f fd ["value", "make"] (spVRef K) := by
  refine F.ok sc_value_refusal (fun vs H Q E h => ?_) (fun cdv A outer s H vs Q E hr h => ⟨_, (pss_cons (ps_set (i := 2) sc_value_refusal.nd rfl (.inl rfl) (pe_callD D_make_refusal hr (by decide) (pa_cons (pv 1) pa_nil)))
      (pss_cons (ps_if (pt_cmpR op_gt (pe_callB (lenS (K := K)) (by rfl) M.b_len PySem.boot_len (pa_cons (pv 2) pa_nil)) pe_int (nomark _)) (pss_one (ps_ret (pv 2))) pss_nil)
      (pss_cons (ps_if (pt_cmpR op_ge (pv 0) (pe_callD D_product_of_ratios hr (by decide) (pa_cons (pv 1) pa_nil)) (nomark _)) (pss_one (ps_ret (pe_lst (pa_cons (pe_un un_neg pe_int) pa_nil)))) pss_nil)
      (pss_one (ps_ret (pe_lst pa_nil)))))), ?_⟩)
  · obtain ⟨v, l, u, rfl, _⟩ := h
    rfl
  · obtain ⟨v, l, u, rfl, hmk, q⟩ := h
    refine q_asgL (xs := (refs (mfault l)).map V.int) (el_c1 (S := ⟨fun H v (_ : Unit) => MkAt K H v l, fun e h => h.mono e⟩) (b := ()) (er_ev (ev_var rfl) hmk) fun x H1 e hx Q q E => ⟨x, l, rfl, hx, q⟩) fun p H1 hp e1 h1 => ?_
    refine q_when (b := decide (0 < ((refs (mfault l)).map V.int).length)) (et_is (et_test (ev_op (ev_len (ev_var rfl) (sq_of h1)) ev_c rv_I0)) cast_lt0) (fun hn H2 e2 => ?_) (fun hn H2 e2 => ?_)
    · have hm : mfault l ≠ [] := fun z => by
        rw [refs_nil z] at hn
        cases hn
      exact s_ret (ev_var rfl) fun H3 e3 => ret_goL q (Ex.refl _) hp (e1.trans (e2.trans e3)) ((e2.trans e3) _ _ h1) (by rw [refs_bad hm]; unfold vrefs; rw [if_neg hm])
    · have hm : mfault l = [] := Classical.byContradiction fun z => by
        rw [refs_bad z] at hn
        cases hn
      have wf := whole_facts (mfault_nil hm).1
      have h2 := hmk.mono (e1.trans e2)
      refine q_when (b := decide (prodR (cuts l) ≤ u)) (et_is (et_test (ev_op (ev_var rfl) (ev_c1 (S := seqR K natR) (v := natV (prodR (cuts l))) (er_ev (ev_var rfl) h2.1) fun x H1 e hx Q q E => ⟨x, l, rfl, hx, wf.2.2, hmk.2.1, hmk.2.2, q⟩) rv_I0)) cast_le) (fun hu H3 e3 => ?_) (fun hu H3 e3 => ?_)
      · exact s_retL (xs := [.int (-4)]) (el_lst (ea_cons (ev_un ev_c ru_neg) ea_nil) (by decide)) fun r H4 hr e4 h4 => ret_goL q ((e1.trans e2).trans e3) hr e4 h4 (by unfold vrefs below4; rw [if_pos hm, if_neg (Nat.not_lt.mpr (of_decide_eq_true hu))]; rfl)
      · exact s_retL (xs := []) (el_lst ea_nil (by decide)) fun r H4 hr e4 h4 => ret_goL q ((e1.trans e2).trans e3) hr e4 h4 (by unfold vrefs below4; rw [if_pos hm, if_pos (Nat.lt_of_not_le (of_decide_eq_false hu))]; rfl)
/-! ### the calls -/
/-- the make's or the standing's refusal, told or none -/
theorem srefs_pos {l st : List Nat} {f : List (List Nat) → List Nat → List Int} (h : 0 < ((srefs l st).map V.int).length) : srefs l st = onStanding l st f := by
  unfold srefs at h ⊢
  unfold onStanding onMake
  by_cases hm : mfault l = []
  · rw [if_pos hm] at h
    rw [if_pos hm, if_pos hm]
    by_cases hs : sfault (cuts l) st = []
    · rw [refs_nil hs] at h
      cases h
    · rw [refs_bad hs]
      exact (if_neg hs).symm
  · rw [if_neg hm, if_neg hm]
theorem srefs_zero {l st : List Nat} (h : ¬0 < ((srefs l st).map V.int).length) : mfault l = [] ∧ sfault (cuts l) st = [] := by
  by_cases hm : mfault l = []
  · refine ⟨hm, Classical.byContradiction fun z => h ?_⟩
    unfold srefs
    rw [if_pos hm, refs_bad z, refusal_v]
    simp
  · refine absurd ?_ h
    unfold srefs
    rw [if_neg hm, refusal_v]
    simp
theorem on_ok {l st : List Nat} {f : List (List Nat) → List Nat → List Int} (hm : mfault l = []) (hs : sfault (cuts l) st = []) : onStanding l st f = f (cuts l) st := by
  unfold onStanding onMake
  rw [if_pos hm]
  exact if_pos hs
theorem vrefs_pos {l : List Nat} {u : Nat} {f : List (List Nat) → List Int} (h : 0 < ((vrefs l u).map V.int).length) : vrefs l u = onMake l fun gs => below4 gs u (f gs) := by
  unfold vrefs at h ⊢
  unfold onMake
  by_cases hm : mfault l = []
  · rw [if_pos hm] at h
    rw [if_pos hm, if_pos hm]
    unfold below4 at h ⊢
    by_cases hu : u < prodR (cuts l)
    · rw [if_pos hu] at h
      cases h
    · rw [if_neg hu]
      exact (if_neg hu).symm
  · rw [if_neg hm, if_neg hm]
theorem vrefs_zero {l : List Nat} {u : Nat} (h : ¬0 < ((vrefs l u).map V.int).length) : mfault l = [] ∧ u < prodR (cuts l) := by
  by_cases hm : mfault l = []
  · refine ⟨hm, Classical.byContradiction fun z => h ?_⟩
    unfold vrefs below4
    rw [if_pos hm, if_neg z]
    decide
  · refine absurd ?_ h
    unfold vrefs
    rw [if_neg hm, refusal_v]
    simp
theorem below_ok {l : List Nat} {u : Nat} {f : List (List Nat) → List Int} (hm : mfault l = []) (hu : u < prodR (cuts l)) : (onMake l fun gs => below4 gs u (f gs)) = f (cuts l) := by
  unfold onMake below4
  rw [if_pos hm]
  exact if_pos hu
theorem ok_show {f : Addr} {fd : FuncData} (F : Fun K "show" "show" s_show f fd) (M : Mg mg) (D_value_refusal : Def P w K mg base "value_refusal" 7 ["value", "make"] (spVRef K)) (D_standing_in_form : Def P w K mg base "standing_in_form" 4 ["value", "make"] (spShownOf K)) : FnOk P w K mg base CX0 8 f fd ["value", "make"] (spShow K) := by
  refine F.ok sc_show (fun vs H Q E h => ?_) (fun cdv A outer s H vs Q E hr h => ⟨_, (pss_cons (ps_set (i := 2) sc_show.nd rfl (.inl rfl) (pe_callD D_value_refusal hr (by decide) (pa_cons (pv 0) (pa_cons (pv 1) pa_nil))))
      (pss_cons (ps_if (pt_cmpR op_gt (pe_callB (lenS (K := K)) (by rfl) M.b_len PySem.boot_len (pa_cons (pv 2) pa_nil)) pe_int (nomark _)) (pss_one (ps_ret (pv 2))) pss_nil)
      (pss_one (ps_ret (pe_op op_cat (pe_lst (pa_cons pe_int pa_nil)) (pe_callD D_standing_in_form hr (by decide) (pa_cons (pv 0) (pa_cons (pv 1) pa_nil)))))))), ?_⟩)
  · obtain ⟨v, l, u, rfl, _⟩ := h
    rfl
  · obtain ⟨v, l, u, rfl, hmk, q⟩ := h
    refine q_asgL (xs := (vrefs l u).map V.int) (el_c2 (S := natR) (T := ⟨fun H v (_ : Unit) => MkAt K H v l, fun e h => h.mono e⟩) (c := ()) (er_nat (ev_var rfl)) (er_ev (ev_var rfl) hmk) fun x y H1 e hx hy Q q E => ⟨y, l, u, by rw [show x = natV u from hx], hy, q⟩) fun p H1 hp e1 h1 => ?_
    refine q_when (b := decide (0 < ((vrefs l u).map V.int).length)) (et_is (et_test (ev_op (ev_len (ev_var rfl) (sq_of h1)) ev_c rv_I0)) cast_lt0) (fun hn H2 e2 => ?_) (fun hn H2 e2 => ?_)
    · exact s_ret (ev_var rfl) fun H3 e3 => ret_goL q (Ex.refl _) hp (e1.trans (e2.trans e3)) ((e2.trans e3) _ _ h1) (by rw [vrefs_pos (of_decide_eq_true hn)])
    · obtain ⟨hm, hu⟩ := vrefs_zero (of_decide_eq_false hn)
      have h2 := hmk.mono (e1.trans e2)
      exact s_retL (el_cat2 (xs := [natV 0]) (zs := (shown3 (cuts l) u).map natV) (el_lst (ea_cons ev_c ea_nil) (by decide)) (el_flat (en_c2 (S := natR) (T := ⟨fun H v (_ : Unit) => MkAt K H v l, fun e h => h.mono e⟩) (c := ()) (er_nat (ev_var rfl)) (er_ev (ev_var rfl) h2) fun x y H1 e hx hy Q q E => ⟨y, l, u, by rw [show x = natV u from hx], hy, hm, q⟩)) (by rw [List.length_map, shown3_len _ _ (fit_of hm), cuts_len]; have := hmk.2.1; simp; omega)) fun r H3 hr e3 h3 => ret_goL q (e1.trans e2) hr e3 h3 (by rw [below_ok hm hu, nums_v]; rfl)
end
/-! ### the request -/
theorem ints_nats {ns : List Int} (h : ∀ x ∈ ns, 0 ≤ x) : ns.map V.int = (ns.map Int.toNat).map natV := by
  rw [List.map_map]
  refine List.map_congr_left fun x hx => ?_
  show V.int x = V.int ((x.toNat : Nat) : Int)
  rw [Int.toNat_of_nonneg (h x hx)]
theorem req_list {ns : List Int} {m : Nat} {hi : Int} (h : (Codec.inLen 0 m ns && ns.all (Codec.inInt 0 hi)) = true) : ns.length ≤ m ∧ ∀ x ∈ ns, 0 ≤ x ∧ x ≤ hi := by
  rw [Bool.and_eq_true] at h
  refine ⟨(Codec.inNat_iff.mp h.1).2, fun x hx => Codec.inInt_iff.mp (List.all_eq_true.mp h.2 x hx)⟩
theorem req_at {K : PySem.W.Frag} {H : Hp} {p : Addr} {ns : List Int} {m : Nat} (hs : SqL K H p (ns.map V.int)) (h : ns.length ≤ m ∧ ∀ x ∈ ns, 0 ≤ x ∧ x ≤ 4294967295) :
    (seqR K natR).at_ H (.ref p) (ns.map Int.toNat) ∧ (ns.map Int.toNat).length ≤ m ∧ ∀ x ∈ ns.map Int.toNat, x < 4294967296 := by
  refine ⟨nats_at.mpr ⟨p, rfl, ints_nats (fun x hx => (h.2 x hx).1) ▸ hs⟩, by rw [List.length_map]; exact h.1, fun x hx => ?_⟩
  obtain ⟨y, hy, rfl⟩ := List.mem_map.mp hx
  have := h.2 y hy
  omega
theorem int_args {i : Int} (h : 0 ≤ i) (xs : List V) : V.int i :: xs = natV i.toNat :: xs := by
  show _ = V.int ((i.toNat : Nat) : Int) :: xs
  rw [Int.toNat_of_nonneg h]
theorem all_mk {P : Program} {w : World} {K : PySem.W.Frag} {h : Heap} {mg : Str → Option Value} {fa f0 f1 f2 f3 f4 f5 f6 f7 f8 f9 f10 f11 f12 f13 f14 f15 f16 f17 f18 f19 f20 : Addr} (X : K.In h) (G : h.Ns mainGlobals mg) (hfa : mg "show" = some (.ref fa))
    {od0 an0 od1 an1 od2 an2 od3 an3 od4 an4 od5 an5 od6 an6 od7 an7 od8 an8 od9 an9 od10 an10 od11 an11 od12 an12 od13 an13 od14 an14 od15 an15 od16 an16 od17 an17 od18 an18 od19 an19 od20 an20 : Option Addr} {sl0 sl1 sl2 sl3 sl4 sl5 sl6 sl7 sl8 sl9 sl10 sl11 sl12 sl13 sl14 sl15 sl16 sl17 sl18 sl19 sl20 : Array (Option Value)} {oc0 kV0 dc0 pm0 cd0 ct0 oc1 kV1 dc1 pm1 cd1 ct1 oc2 kV2 dc2 pm2 cd2 ct2 oc3 kV3 dc3 pm3 cd3 ct3 oc4 kV4 dc4 pm4 cd4 ct4 oc5 kV5 dc5 pm5 cd5 ct5 oc6 kV6 dc6 pm6 cd6 ct6 oc7 kV7 dc7 pm7 cd7 ct7 oc8 kV8 dc8 pm8 cd8 ct8 oc9 kV9 dc9 pm9 cd9 ct9 oc10 kV10 dc10 pm10 cd10 ct10 oc11 kV11 dc11 pm11 cd11 ct11 oc12 kV12 dc12 pm12 cd12 ct12 oc13 kV13 dc13 pm13 cd13 ct13 oc14 kV14 dc14 pm14 cd14 ct14 oc15 kV15 dc15 pm15 cd15 ct15 oc16 kV16 dc16 pm16 cd16 ct16 oc17 kV17 dc17 pm17 cd17 ct17 oc18 kV18 dc18 pm18 cd18 ct18 oc19 kV19 dc19 pm19 cd19 ct19 oc20 kV20 dc20 pm20 cd20 ct20 : Value}
    {tk_LEAST_RATIO tk_MOST_BEADS tk_MOST_RATIO tk_MOST_RODS tk_MOST_WORTH tk_MOST_WORTH_TOGETHER tk_NUMBERS_A_ROD : Tok}
    (a0 : PySem.W.nsIn K mainGlobals "refused_for" = some (some (.ref f0))) (l0 : K.lookup f0 = some ⟨oc0, od0, .func (PySem.W.fnOf "refused_for" "refused_for" (defArgs s_refused_for) (defBody s_refused_for) (defScope s_refused_for) .none kV0 dc0 pm0 an0 cd0 ct0), sl0⟩) (c0 : PySem.W.codeIn K cd0 "refused_for" = true) (k0 : PySem.W.keepIn K (.ref f0) = true)
    (a1 : PySem.W.nsIn K mainGlobals "has_whole_rods" = some (some (.ref f1))) (l1 : K.lookup f1 = some ⟨oc1, od1, .func (PySem.W.fnOf "has_whole_rods" "has_whole_rods" (defArgs s_has_whole_rods) (defBody s_has_whole_rods) (defScope s_has_whole_rods) .none kV1 dc1 pm1 an1 cd1 ct1), sl1⟩) (c1 : PySem.W.codeIn K cd1 "has_whole_rods" = true) (k1 : PySem.W.keepIn K (.ref f1) = true)
    (a2 : PySem.W.nsIn K mainGlobals "rods_of" = some (some (.ref f2))) (l2 : K.lookup f2 = some ⟨oc2, od2, .func (PySem.W.fnOf "rods_of" "rods_of" (defArgs s_rods_of) (defBody s_rods_of) (defScope s_rods_of) .none kV2 dc2 pm2 an2 cd2 ct2), sl2⟩) (c2 : PySem.W.codeIn K cd2 "rods_of" = true) (k2 : PySem.W.keepIn K (.ref f2) = true)
    (a3 : PySem.W.nsIn K mainGlobals "decks_of" = some (some (.ref f3))) (l3 : K.lookup f3 = some ⟨oc3, od3, .func (PySem.W.fnOf "decks_of" "decks_of" (defArgs s_decks_of) (defBody s_decks_of) (defScope s_decks_of) .none kV3 dc3 pm3 an3 cd3 ct3), sl3⟩) (c3 : PySem.W.codeIn K cd3 "decks_of" = true) (k3 : PySem.W.keepIn K (.ref f3) = true)
    (a4 : PySem.W.nsIn K mainGlobals "decks_are_in_turn" = some (some (.ref f4))) (l4 : K.lookup f4 = some ⟨oc4, od4, .func (PySem.W.fnOf "decks_are_in_turn" "decks_are_in_turn" (defArgs s_decks_are_in_turn) (defBody s_decks_are_in_turn) (defScope s_decks_are_in_turn) .none kV4 dc4 pm4 an4 cd4 ct4), sl4⟩) (c4 : PySem.W.codeIn K cd4 "decks_are_in_turn" = true) (k4 : PySem.W.keepIn K (.ref f4) = true)
    (a5 : PySem.W.nsIn K mainGlobals "deck_is_sound" = some (some (.ref f5))) (l5 : K.lookup f5 = some ⟨oc5, od5, .func (PySem.W.fnOf "deck_is_sound" "deck_is_sound" (defArgs s_deck_is_sound) (defBody s_deck_is_sound) (defScope s_deck_is_sound) .none kV5 dc5 pm5 an5 cd5 ct5), sl5⟩) (c5 : PySem.W.codeIn K cd5 "deck_is_sound" = true) (k5 : PySem.W.keepIn K (.ref f5) = true)
    (a6 : PySem.W.nsIn K mainGlobals "numbers_are_sound" = some (some (.ref f6))) (l6 : K.lookup f6 = some ⟨oc6, od6, .func (PySem.W.fnOf "numbers_are_sound" "numbers_are_sound" (defArgs s_numbers_are_sound) (defBody s_numbers_are_sound) (defScope s_numbers_are_sound) .none kV6 dc6 pm6 an6 cd6 ct6), sl6⟩) (c6 : PySem.W.codeIn K cd6 "numbers_are_sound" = true) (k6 : PySem.W.keepIn K (.ref f6) = true)
    (a7 : PySem.W.nsIn K mainGlobals "worth_together" = some (some (.ref f7))) (l7 : K.lookup f7 = some ⟨oc7, od7, .func (PySem.W.fnOf "worth_together" "worth_together" (defArgs s_worth_together) (defBody s_worth_together) (defScope s_worth_together) .none kV7 dc7 pm7 an7 cd7 ct7), sl7⟩) (c7 : PySem.W.codeIn K cd7 "worth_together" = true) (k7 : PySem.W.keepIn K (.ref f7) = true)
    (a8 : PySem.W.nsIn K mainGlobals "pushable_counts" = some (some (.ref f8))) (l8 : K.lookup f8 = some ⟨oc8, od8, .func (PySem.W.fnOf "pushable_counts" "pushable_counts" (defArgs s_pushable_counts) (defBody s_pushable_counts) (defScope s_pushable_counts) .none kV8 dc8 pm8 an8 cd8 ct8), sl8⟩) (c8 : PySem.W.codeIn K cd8 "pushable_counts" = true) (k8 : PySem.W.keepIn K (.ref f8) = true)
    (a9 : PySem.W.nsIn K mainGlobals "each_digit_can_be_pushed" = some (some (.ref f9))) (l9 : K.lookup f9 = some ⟨oc9, od9, .func (PySem.W.fnOf "each_digit_can_be_pushed" "each_digit_can_be_pushed" (defArgs s_each_digit_can_be_pushed) (defBody s_each_digit_can_be_pushed) (defScope s_each_digit_can_be_pushed) .none kV9 dc9 pm9 an9 cd9 ct9), sl9⟩) (c9 : PySem.W.codeIn K cd9 "each_digit_can_be_pushed" = true) (k9 : PySem.W.keepIn K (.ref f9) = true)
    (a10 : PySem.W.nsIn K mainGlobals "broken_rule" = some (some (.ref f10))) (l10 : K.lookup f10 = some ⟨oc10, od10, .func (PySem.W.fnOf "broken_rule" "broken_rule" (defArgs s_broken_rule) (defBody s_broken_rule) (defScope s_broken_rule) .none kV10 dc10 pm10 an10 cd10 ct10), sl10⟩) (c10 : PySem.W.codeIn K cd10 "broken_rule" = true) (k10 : PySem.W.keepIn K (.ref f10) = true)
    (a11 : PySem.W.nsIn K mainGlobals "make_fault" = some (some (.ref f11))) (l11 : K.lookup f11 = some ⟨oc11, od11, .func (PySem.W.fnOf "make_fault" "make_fault" (defArgs s_make_fault) (defBody s_make_fault) (defScope s_make_fault) .none kV11 dc11 pm11 an11 cd11 ct11), sl11⟩) (c11 : PySem.W.codeIn K cd11 "make_fault" = true) (k11 : PySem.W.keepIn K (.ref f11) = true)
    (a12 : PySem.W.nsIn K mainGlobals "make_refusal" = some (some (.ref f12))) (l12 : K.lookup f12 = some ⟨oc12, od12, .func (PySem.W.fnOf "make_refusal" "make_refusal" (defArgs s_make_refusal) (defBody s_make_refusal) (defScope s_make_refusal) .none kV12 dc12 pm12 an12 cd12 ct12), sl12⟩) (c12 : PySem.W.codeIn K cd12 "make_refusal" = true) (k12 : PySem.W.keepIn K (.ref f12) = true)
    (a13 : PySem.W.nsIn K mainGlobals "product_of_ratios" = some (some (.ref f13))) (l13 : K.lookup f13 = some ⟨oc13, od13, .func (PySem.W.fnOf "product_of_ratios" "product_of_ratios" (defArgs s_product_of_ratios) (defBody s_product_of_ratios) (defScope s_product_of_ratios) .none kV13 dc13 pm13 an13 cd13 ct13), sl13⟩) (c13 : PySem.W.codeIn K cd13 "product_of_ratios" = true) (k13 : PySem.W.keepIn K (.ref f13) = true)
    (a14 : PySem.W.nsIn K mainGlobals "value_refusal" = some (some (.ref f14))) (l14 : K.lookup f14 = some ⟨oc14, od14, .func (PySem.W.fnOf "value_refusal" "value_refusal" (defArgs s_value_refusal) (defBody s_value_refusal) (defScope s_value_refusal) .none kV14 dc14 pm14 an14 cd14 ct14), sl14⟩) (c14 : PySem.W.codeIn K cd14 "value_refusal" = true) (k14 : PySem.W.keepIn K (.ref f14) = true)
    (a15 : PySem.W.nsIn K mainGlobals "digits_of" = some (some (.ref f15))) (l15 : K.lookup f15 = some ⟨oc15, od15, .func (PySem.W.fnOf "digits_of" "digits_of" (defArgs s_digits_of) (defBody s_digits_of) (defScope s_digits_of) .none kV15 dc15 pm15 an15 cd15 ct15), sl15⟩) (c15 : PySem.W.codeIn K cd15 "digits_of" = true) (k15 : PySem.W.keepIn K (.ref f15) = true)
    (a16 : PySem.W.nsIn K mainGlobals "most_pushed" = some (some (.ref f16))) (l16 : K.lookup f16 = some ⟨oc16, od16, .func (PySem.W.fnOf "most_pushed" "most_pushed" (defArgs s_most_pushed) (defBody s_most_pushed) (defScope s_most_pushed) .none kV16 dc16 pm16 an16 cd16 ct16), sl16⟩) (c16 : PySem.W.codeIn K cd16 "most_pushed" = true) (k16 : PySem.W.keepIn K (.ref f16) = true)
    (a17 : PySem.W.nsIn K mainGlobals "count_of" = some (some (.ref f17))) (l17 : K.lookup f17 = some ⟨oc17, od17, .func (PySem.W.fnOf "count_of" "count_of" (defArgs s_count_of) (defBody s_count_of) (defScope s_count_of) .none kV17 dc17 pm17 an17 cd17 ct17), sl17⟩) (c17 : PySem.W.codeIn K cd17 "count_of" = true) (k17 : PySem.W.keepIn K (.ref f17) = true)
    (a18 : PySem.W.nsIn K mainGlobals "form_of" = some (some (.ref f18))) (l18 : K.lookup f18 = some ⟨oc18, od18, .func (PySem.W.fnOf "form_of" "form_of" (defArgs s_form_of) (defBody s_form_of) (defScope s_form_of) .none kV18 dc18 pm18 an18 cd18 ct18), sl18⟩) (c18 : PySem.W.codeIn K cd18 "form_of" = true) (k18 : PySem.W.keepIn K (.ref f18) = true)
    (a19 : PySem.W.nsIn K mainGlobals "standing_in_form" = some (some (.ref f19))) (l19 : K.lookup f19 = some ⟨oc19, od19, .func (PySem.W.fnOf "standing_in_form" "standing_in_form" (defArgs s_standing_in_form) (defBody s_standing_in_form) (defScope s_standing_in_form) .none kV19 dc19 pm19 an19 cd19 ct19), sl19⟩) (c19 : PySem.W.codeIn K cd19 "standing_in_form" = true) (k19 : PySem.W.keepIn K (.ref f19) = true)
    (a20 : PySem.W.nsIn K mainGlobals "show" = some (some (.ref f20))) (l20 : K.lookup f20 = some ⟨oc20, od20, .func (PySem.W.fnOf "show" "show" (defArgs s_show) (defBody s_show) (defScope s_show) .none kV20 dc20 pm20 an20 cd20 ct20), sl20⟩) (c20 : PySem.W.codeIn K cd20 "show" = true) (k20 : PySem.W.keepIn K (.ref f20) = true)
    (g_LEAST_RATIO : PySem.W.nsIn K mainGlobals "LEAST_RATIO" = some (some (.int 2 tk_LEAST_RATIO)))
    (g_MOST_BEADS : PySem.W.nsIn K mainGlobals "MOST_BEADS" = some (some (.int 15 tk_MOST_BEADS)))
    (g_MOST_RATIO : PySem.W.nsIn K mainGlobals "MOST_RATIO" = some (some (.int 20 tk_MOST_RATIO)))
    (g_MOST_RODS : PySem.W.nsIn K mainGlobals "MOST_RODS" = some (some (.int 64 tk_MOST_RODS)))
    (g_MOST_WORTH : PySem.W.nsIn K mainGlobals "MOST_WORTH" = some (some (.int 63 tk_MOST_WORTH)))
    (g_MOST_WORTH_TOGETHER : PySem.W.nsIn K mainGlobals "MOST_WORTH_TOGETHER" = some (some (.int 255 tk_MOST_WORTH_TOGETHER)))
    (g_NUMBERS_A_ROD : PySem.W.nsIn K mainGlobals "NUMBERS_A_ROD" = some (some (.int 7 tk_NUMBERS_A_ROD)))
    (z_enumerate : PySem.W.nsIn K mainGlobals "enumerate" = some none)
    (z_len : PySem.W.nsIn K mainGlobals "len" = some none)
    (z_min : PySem.W.nsIn K mainGlobals "min" = some none)
    (z_range : PySem.W.nsIn K mainGlobals "range" = some none)
    (z_sum : PySem.W.nsIn K mainGlobals "sum" = some none)
    (z_zip : PySem.W.nsIn K mainGlobals "zip" = some none)
    : ∃ fd : FuncData, (∀ (s : Shared) (us : List Value), us.length = (["value", "make"] : List Str).length → BindsTo s fd ⟨us, []⟩ ((["value", "make"] : List Str).zip us)) ∧ ∀ base : Heap, K.In base → base.Ns mainGlobals mg → FnOk P w K mg base CX0 8 fa fd ["value", "make"] (spShow K) := by
  have e := hfa.symm.trans (PySem.W.mg_of X G a20)
  cases e
  have M : Mg mg := ⟨⟨_, PySem.W.mg_of X G g_LEAST_RATIO⟩, ⟨_, PySem.W.mg_of X G g_MOST_BEADS⟩, ⟨_, PySem.W.mg_of X G g_MOST_RATIO⟩, ⟨_, PySem.W.mg_of X G g_MOST_RODS⟩, ⟨_, PySem.W.mg_of X G g_MOST_WORTH⟩, ⟨_, PySem.W.mg_of X G g_MOST_WORTH_TOGETHER⟩, ⟨_, PySem.W.mg_of X G g_NUMBERS_A_ROD⟩, PySem.W.mg_none_of X G z_enumerate, PySem.W.mg_none_of X G z_len, PySem.W.mg_none_of X G z_min, PySem.W.mg_none_of X G z_range, PySem.W.mg_none_of X G z_sum, PySem.W.mg_none_of X G z_zip⟩
  have F0 := fun_mk (st := s_refused_for) l0 c0 k0
  have D_refused_for : ∀ base : Heap, Def P w K mg base "refused_for" 1 ["fault"] (spRefused) := fun base => ⟨_, _, PySem.W.mg_of X G a0, k0, F0.binds (ps := ["fault"]) (fun _ _ _ _ _ _ us hl => match us, hl with | [_], _ => rfl), ok_refused_for F0 M⟩
  have F1 := fun_mk (st := s_has_whole_rods) l1 c1 k1
  have D_has_whole_rods : ∀ base : Heap, Def P w K mg base "has_whole_rods" 1 ["make"] (spWhole K) := fun base => ⟨_, _, PySem.W.mg_of X G a1, k1, F1.binds (ps := ["make"]) (fun _ _ _ _ _ _ us hl => match us, hl with | [_], _ => rfl), ok_has_whole_rods F1 M⟩
  have F2 := fun_mk (st := s_rods_of) l2 c2 k2
  have D_rods_of : ∀ base : Heap, Def P w K mg base "rods_of" 1 ["make"] (spRods K) := fun base => ⟨_, _, PySem.W.mg_of X G a2, k2, F2.binds (ps := ["make"]) (fun _ _ _ _ _ _ us hl => match us, hl with | [_], _ => rfl), ok_rods_of F2 M⟩
  have F3 := fun_mk (st := s_decks_of) l3 c3 k3
  have D_decks_of : ∀ base : Heap, Def P w K mg base "decks_of" 1 ["rod"] (spDecks K) := fun base => ⟨_, _, PySem.W.mg_of X G a3, k3, F3.binds (ps := ["rod"]) (fun _ _ _ _ _ _ us hl => match us, hl with | [_], _ => rfl), ok_decks_of F3 M⟩
  have F4 := fun_mk (st := s_decks_are_in_turn) l4 c4 k4
  have D_decks_are_in_turn : ∀ base : Heap, Def P w K mg base "decks_are_in_turn" 2 ["rod"] (spTurn K) := fun base => ⟨_, _, PySem.W.mg_of X G a4, k4, F4.binds (ps := ["rod"]) (fun _ _ _ _ _ _ us hl => match us, hl with | [_], _ => rfl), ok_decks_are_in_turn F4 M (D_decks_of base)⟩
  have F5 := fun_mk (st := s_deck_is_sound) l5 c5 k5
  have D_deck_is_sound : ∀ base : Heap, Def P w K mg base "deck_is_sound" 1 ["beads", "worth"] (spSound) := fun base => ⟨_, _, PySem.W.mg_of X G a5, k5, F5.binds (ps := ["beads", "worth"]) (fun _ _ _ _ _ _ us hl => match us, hl with | [_, _], _ => rfl), ok_deck_is_sound F5 M⟩
  have F6 := fun_mk (st := s_numbers_are_sound) l6 c6 k6
  have D_numbers_are_sound : ∀ base : Heap, Def P w K mg base "numbers_are_sound" 3 ["rod"] (spNums K) := fun base => ⟨_, _, PySem.W.mg_of X G a6, k6, F6.binds (ps := ["rod"]) (fun _ _ _ _ _ _ us hl => match us, hl with | [_], _ => rfl), ok_numbers_are_sound F6 M (D_decks_of base) (D_decks_are_in_turn base) (D_deck_is_sound base)⟩
  have F7 := fun_mk (st := s_worth_together) l7 c7 k7
  have D_worth_together : ∀ base : Heap, Def P w K mg base "worth_together" 2 ["rod"] (spWorth K) := fun base => ⟨_, _, PySem.W.mg_of X G a7, k7, F7.binds (ps := ["rod"]) (fun _ _ _ _ _ _ us hl => match us, hl with | [_], _ => rfl), ok_worth_together F7 M (D_decks_of base)⟩
  have F8 := fun_mk (st := s_pushable_counts) l8 c8 k8
  have D_pushable_counts : ∀ base : Heap, Def P w K mg base "pushable_counts" 2 ["rod"] (spCounts K) := fun base => ⟨_, _, PySem.W.mg_of X G a8, k8, F8.binds (ps := ["rod"]) (fun _ _ _ _ _ _ us hl => match us, hl with | [_], _ => rfl), ok_pushable_counts F8 M (D_decks_of base)⟩
  have F9 := fun_mk (st := s_each_digit_can_be_pushed) l9 c9 k9
  have D_each_digit_can_be_pushed : ∀ base : Heap, Def P w K mg base "each_digit_can_be_pushed" 3 ["rod"] (spEach K) := fun base => ⟨_, _, PySem.W.mg_of X G a9, k9, F9.binds (ps := ["rod"]) (fun _ _ _ _ _ _ us hl => match us, hl with | [_], _ => rfl), ok_each_digit_can_be_pushed F9 M (D_pushable_counts base)⟩
  have F10 := fun_mk (st := s_broken_rule) l10 c10 k10
  have D_broken_rule : ∀ base : Heap, Def P w K mg base "broken_rule" 4 ["rod"] (spBroken K) := fun base => ⟨_, _, PySem.W.mg_of X G a10, k10, F10.binds (ps := ["rod"]) (fun _ _ _ _ _ _ us hl => match us, hl with | [_], _ => rfl), ok_broken_rule F10 M (D_numbers_are_sound base) (D_worth_together base) (D_each_digit_can_be_pushed base)⟩
  have F11 := fun_mk (st := s_make_fault) l11 c11 k11
  have D_make_fault : ∀ base : Heap, Def P w K mg base "make_fault" 5 ["make"] (spFault K) := fun base => ⟨_, _, PySem.W.mg_of X G a11, k11, F11.binds (ps := ["make"]) (fun _ _ _ _ _ _ us hl => match us, hl with | [_], _ => rfl), ok_make_fault F11 M (D_has_whole_rods base) (D_rods_of base) (D_broken_rule base)⟩
  have F12 := fun_mk (st := s_make_refusal) l12 c12 k12
  have D_make_refusal : ∀ base : Heap, Def P w K mg base "make_refusal" 6 ["make"] (spMRef K) := fun base => ⟨_, _, PySem.W.mg_of X G a12, k12, F12.binds (ps := ["make"]) (fun _ _ _ _ _ _ us hl => match us, hl with | [_], _ => rfl), ok_make_refusal F12 M (D_refused_for base) (D_make_fault base)⟩
  have F13 := fun_mk (st := s_product_of_ratios) l13 c13 k13
  have D_product_of_ratios : ∀ base : Heap, Def P w K mg base "product_of_ratios" 2 ["make"] (spProd K) := fun base => ⟨_, _, PySem.W.mg_of X G a13, k13, F13.binds (ps := ["make"]) (fun _ _ _ _ _ _ us hl => match us, hl with | [_], _ => rfl), ok_product_of_ratios F13 M (D_rods_of base)⟩
  have F14 := fun_mk (st := s_value_refusal) l14 c14 k14
  have D_value_refusal : ∀ base : Heap, Def P w K mg base "value_refusal" 7 ["value", "make"] (spVRef K) := fun base => ⟨_, _, PySem.W.mg_of X G a14, k14, F14.binds (ps := ["value", "make"]) (fun _ _ _ _ _ _ us hl => match us, hl with | [_, _], _ => rfl), ok_value_refusal F14 M (D_make_refusal base) (D_product_of_ratios base)⟩
  have F15 := fun_mk (st := s_digits_of) l15 c15 k15
  have D_digits_of : ∀ base : Heap, Def P w K mg base "digits_of" 2 ["value", "make"] (spDigitsOf K) := fun base => ⟨_, _, PySem.W.mg_of X G a15, k15, F15.binds (ps := ["value", "make"]) (fun _ _ _ _ _ _ us hl => match us, hl with | [_, _], _ => rfl), ok_digits_of F15 M (D_rods_of base)⟩
  have F16 := fun_mk (st := s_most_pushed) l16 c16 k16
  have D_most_pushed : ∀ base : Heap, Def P w K mg base "most_pushed" 1 ["deck", "count"] (spMost) := fun base => ⟨_, _, PySem.W.mg_of X G a16, k16, F16.binds (ps := ["deck", "count"]) (fun _ _ _ _ _ _ us hl => match us, hl with | [_, _], _ => rfl), ok_most_pushed F16 M⟩
  have F17 := fun_mk (st := s_count_of) l17 c17 k17
  have D_count_of : ∀ base : Heap, Def P w K mg base "count_of" 2 ["rod", "push"] (spCount K) := fun base => ⟨_, _, PySem.W.mg_of X G a17, k17, F17.binds (ps := ["rod", "push"]) (fun _ _ _ _ _ _ us hl => match us, hl with | [_, _], _ => rfl), ok_count_of F17 M (D_decks_of base)⟩
  have F18 := fun_mk (st := s_form_of) l18 c18 k18
  have D_form_of : ∀ base : Heap, Def P w K mg base "form_of" 3 ["rod", "digit"] (spFormOf K) := fun base => ⟨_, _, PySem.W.mg_of X G a18, k18, F18.binds (ps := ["rod", "digit"]) (fun _ _ _ _ _ _ us hl => match us, hl with | [_, _], _ => rfl), ok_form_of F18 M (D_decks_of base) (D_most_pushed base) (D_count_of base)⟩
  have F19 := fun_mk (st := s_standing_in_form) l19 c19 k19
  have D_standing_in_form : ∀ base : Heap, Def P w K mg base "standing_in_form" 4 ["value", "make"] (spShownOf K) := fun base => ⟨_, _, PySem.W.mg_of X G a19, k19, F19.binds (ps := ["value", "make"]) (fun _ _ _ _ _ _ us hl => match us, hl with | [_, _], _ => rfl), ok_standing_in_form F19 M (D_rods_of base) (D_digits_of base) (D_form_of base)⟩
  have F20 := fun_mk (st := s_show) l20 c20 k20
  exact ⟨PySem.W.fnOf "show" "show" (defArgs s_show) (defBody s_show) (defScope s_show) .none kV20 dc20 pm20 an20 cd20 ct20, fun s us hu => match us, hu with | [_, _], _ => .of_eq rfl, fun base _ _ => ok_show F20 M (D_value_refusal base) (D_standing_in_form base)⟩
end Bf
open PySem PySem.W PyProof.Rows
set_option maxRecDepth 100000 in
set_option maxHeartbeats 0 in
theorem PySem.Challenge.cw_beadframes_s05_show_holds : PySem.Challenge.rw_beadframes_s05_show.Holds := by
  w_on; k_headS; (case hw => exact ⟨[.int 0, .list []], by decide +kernel, by decide +kernel⟩)
  k_fillS
  refine L2.walk_specK (r := PySem.Challenge.rw_beadframes_s05_show) (k := 8) (CX := L2.CX0) (ps := ["value", "make"]) (sp := fun K => Bf.spShow K) (by decide +kernel) rfl rfl ⟨rfl, by decide, by decide⟩ (fun w h Y => PySem.W.kIn_of Y) ?F ?S (fun _ _ _ _ z => z)
  case F =>
    intro w mg fa h Y KX G hmg
    refine' Bf.all_mk KX G hmg ?a0 ?l0 ?c0 ?k0 ?a1 ?l1 ?c1 ?k1 ?a2 ?l2 ?c2 ?k2 ?a3 ?l3 ?c3 ?k3 ?a4 ?l4 ?c4 ?k4 ?a5 ?l5 ?c5 ?k5 ?a6 ?l6 ?c6 ?k6 ?a7 ?l7 ?c7 ?k7 ?a8 ?l8 ?c8 ?k8 ?a9 ?l9 ?c9 ?k9 ?a10 ?l10 ?c10 ?k10 ?a11 ?l11 ?c11 ?k11 ?a12 ?l12 ?c12 ?k12 ?a13 ?l13 ?c13 ?k13 ?a14 ?l14 ?c14 ?k14 ?a15 ?l15 ?c15 ?k15 ?a16 ?l16 ?c16 ?k16 ?a17 ?l17 ?c17 ?k17 ?a18 ?l18 ?c18 ?k18 ?a19 ?l19 ?c19 ?k19 ?a20 ?l20 ?c20 ?k20 ?g_LEAST_RATIO ?g_MOST_BEADS ?g_MOST_RATIO ?g_MOST_RODS ?g_MOST_WORTH ?g_MOST_WORTH_TOGETHER ?g_NUMBERS_A_ROD ?z_enumerate ?z_len ?z_min ?z_range ?z_sum ?z_zip
    (case a0 => k_is)
    (case l0 => k_is)
    (case c0 => k_is)
    (case k0 => k_is)
    (case a1 => k_is)
    (case l1 => k_is)
    (case c1 => k_is)
    (case k1 => k_is)
    (case a2 => k_is)
    (case l2 => k_is)
    (case c2 => k_is)
    (case k2 => k_is)
    (case a3 => k_is)
    (case l3 => k_is)
    (case c3 => k_is)
    (case k3 => k_is)
    (case a4 => k_is)
    (case l4 => k_is)
    (case c4 => k_is)
    (case k4 => k_is)
    (case a5 => k_is)
    (case l5 => k_is)
    (case c5 => k_is)
    (case k5 => k_is)
    (case a6 => k_is)
    (case l6 => k_is)
    (case c6 => k_is)
    (case k6 => k_is)
    (case a7 => k_is)
    (case l7 => k_is)
    (case c7 => k_is)
    (case k7 => k_is)
    (case a8 => k_is)
    (case l8 => k_is)
    (case c8 => k_is)
    (case k8 => k_is)
    (case a9 => k_is)
    (case l9 => k_is)
    (case c9 => k_is)
    (case k9 => k_is)
    (case a10 => k_is)
    (case l10 => k_is)
    (case c10 => k_is)
    (case k10 => k_is)
    (case a11 => k_is)
    (case l11 => k_is)
    (case c11 => k_is)
    (case k11 => k_is)
    (case a12 => k_is)
    (case l12 => k_is)
    (case c12 => k_is)
    (case k12 => k_is)
    (case a13 => k_is)
    (case l13 => k_is)
    (case c13 => k_is)
    (case k13 => k_is)
    (case a14 => k_is)
    (case l14 => k_is)
    (case c14 => k_is)
    (case k14 => k_is)
    (case a15 => k_is)
    (case l15 => k_is)
    (case c15 => k_is)
    (case k15 => k_is)
    (case a16 => k_is)
    (case l16 => k_is)
    (case c16 => k_is)
    (case k16 => k_is)
    (case a17 => k_is)
    (case l17 => k_is)
    (case c17 => k_is)
    (case k17 => k_is)
    (case a18 => k_is)
    (case l18 => k_is)
    (case c18 => k_is)
    (case k18 => k_is)
    (case a19 => k_is)
    (case l19 => k_is)
    (case c19 => k_is)
    (case k19 => k_is)
    (case a20 => k_is)
    (case l20 => k_is)
    (case c20 => k_is)
    (case k20 => k_is)
    (case g_LEAST_RATIO => k_is)
    (case g_MOST_BEADS => k_is)
    (case g_MOST_RATIO => k_is)
    (case g_MOST_RODS => k_is)
    (case g_MOST_WORTH => k_is)
    (case g_MOST_WORTH_TOGETHER => k_is)
    (case g_NUMBERS_A_ROD => k_is)
    (case z_enumerate => k_is)
    (case z_len => k_is)
    (case z_min => k_is)
    (case z_range => k_is)
    (case z_sum => k_is)
    (case z_zip => k_is)
  case S =>
    intro K H xs a hO hwi hask hx
    cases hx with
    | cons h1 h2 =>
      cases h2 with
      | cons h2 h3 =>
      cases h3
      cases h2 with
      | lst hs ha =>
        have e := L2.ints_dw a.2.1 _ ha
        subst e
        have q : (Codec.inInt 0 9999999999999999999999999999999999999999999999999999999999999999999999999999999999999999999999999999 a.1 && ((Codec.inLen 0 700 a.2.1 && a.2.1.all (Codec.inInt 0 4294967295)) && true)) = true := hwi
        have q1 := (Bool.and_eq_true_iff.mp q).1
        have q2 := (Bool.and_eq_true_iff.mp (Bool.and_eq_true_iff.mp q).2).1
        obtain ⟨r1, r2, r3⟩ := Bf.req_at hs (Bf.req_list q2)
        have v0 := (Codec.inInt_iff.mp q1).1
        cases h1
        exact ⟨_, _, a.1.toNat, Bf.int_args v0 _, ⟨r1, r2, r3⟩, fun p H2 hp e2 h2 => .lst (L2.SqL.of (show H2 p = some (.lst ((PyYqacaa.show_ a.1 a.2.1).map L2.V.int)) by rw [Bf.show_eq]; exact h2)) (L2.dw_ints _)⟩
#print axioms PySem.Challenge.cw_beadframes_s05_show_holds
