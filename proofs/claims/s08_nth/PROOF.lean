import PyProof.Rows.All
import Wide.All
import OpenK.AllK
import Wide.FinOn
import Open.SpecLaws
import KE.OsGo
import HandS.ForMost
import HandS.ForSpec
import HandS.WideBits
import HandS.Evl
import HandS.ForDict
import HandS.Zip
import PyProof.EqLayable
import HandS.Style
import HandS.CallLocal
import KE.GoesMore
import KE.KDictZip
import KE.KItemsList
import HandS.Iter
import HandS.Rev
import HandS.ListItems
import PySem.Challenge.RW_beadframes_s08_nth
set_option Elab.async false
set_option maxRecDepth 100000
set_option maxHeartbeats 4000000
set_option exponentiation.threshold 3000
namespace Bf
open Na

/-! ### one rod's seven numbers -/
def sound (b w : Nat) : Bool := if b = 0 ∨ w = 0 then b == w else decide (b ≤ 15) && decide (w ≤ 63)
def ix (g : List Nat) (j : Nat) : Nat := g.getD j 0
def decks (g : List Nat) : List (Nat × Nat) := [(ix g 1, ix g 2), (ix g 3, ix g 4), (ix g 5, ix g 6)]
def worthT (g : List Nat) : Nat := (decks g).foldl (fun t d => t + d.1 * d.2) 0
def inTurn (g : List Nat) : Bool := if ix g 1 = 0 then false else decide (0 < ix g 3) || decide (ix g 5 = 0)
def numsSound (g : List Nat) : Bool := if ix g 0 < 2 ∨ 20 < ix g 0 then false else if (decks g).all (fun d => sound d.1 d.2) then inTurn g else false
def more (w : Nat) : Nat → Nat → Nat
  | 0, c => c
  | k + 1, c => let x := more w k c
    x ||| (x <<< w)
def counts (g : List Nat) : Nat := (decks g).foldl (fun c d => more d.2 d.1 c) 1
def allPushed (g : List Nat) : Bool := (counts g &&& (2 ^ ix g 0 - 1)) == 2 ^ ix g 0 - 1
def broken (g : List Nat) : Nat := if numsSound g = false then 2 else if 255 < worthT g then 3 else if allPushed g = false then 4 else 0

/-! ### decks -/
def mk (d : Nat × Nat) : Deck := ⟨d.1, d.2⟩
theorem rodOf_decks (g : List Nat) : (rodOf g).decks = ((decks g).filter fun d => d.1 != 0).map mk := by
  unfold rodOf decks mk
  show List.map (fun j => (⟨ix g (1 + 2 * j), ix g (2 + 2 * j)⟩ : Deck)) (List.filter (fun j => ix g (1 + 2 * j) != 0) [0, 1, 2]) = _
  by_cases h1 : ix g 1 = 0 <;> by_cases h3 : ix g 3 = 0 <;> by_cases h5 : ix g 5 = 0 <;> simp [h1, h3, h5, List.filter_cons, List.filter_nil]
theorem rodOf_ratio (g : List Nat) : (rodOf g).ratio = ix g 0 := rfl

theorem total_cons (x : Nat) (l : List Nat) : total (x :: l) = x + total l := rfl
theorem most_eq (g : List Nat) : (rodOf g).most = worthT g := by
  unfold Rod.most
  rw [rodOf_decks]
  unfold worthT decks mk
  by_cases h1 : ix g 1 = 0 <;> by_cases h3 : ix g 3 = 0 <;> by_cases h5 : ix g 5 = 0 <;>
    simp [h1, h3, h5, List.filter_cons, List.filter_nil, total_cons, total] <;> omega

theorem beq_zero {a : Nat} (h : ¬a = 0) : (a == 0) = false := by simp [h]
theorem good_eq (g : List Nat) : rodGood g = numsSound g := by
  unfold rodGood Rod.formed_
  rw [rodOf_decks, rodOf_ratio]
  unfold numsSound inTurn sound decks mk Deck.good
  show (ix g 1 != 0 && ([0, 1, 2] : List Nat).all (fun j => (ix g (1 + 2 * j) == 0) == (ix g (2 + 2 * j) == 0)) && ((ix g 3 != 0 || ix g 5 == 0) && _)) = _
  simp only [List.all_cons, List.all_nil, Nat.mul_zero, Nat.add_zero, Nat.mul_one]
  generalize ix g 0 = r
  generalize ix g 1 = a
  generalize ix g 2 = b
  generalize ix g 3 = c
  generalize ix g 4 = d
  generalize ix g 5 = e
  generalize ix g 6 = f
  rw [Bool.eq_iff_iff]
  by_cases h1 : a = 0 <;> by_cases h2 : b = 0 <;> by_cases h3 : c = 0 <;> by_cases h4 : d = 0 <;> by_cases h5 : e = 0 <;> by_cases h6 : f = 0 <;>
    simp [h1, h2, h3, h4, h5, h6, List.filter_cons, List.filter_nil] <;> (try simp only [beq_zero h1, beq_zero h2, true_and, and_true]) <;> (try simp only [beq_zero h3, beq_zero h4, true_and, and_true]) <;> (try simp only [beq_zero h5, beq_zero h6, true_and, and_true]) <;> omega

/-! ### what can be pushed, as bits -/
theorem more_bit (w : Nat) : ∀ (k c n : Nat), (more w k c).testBit n = true ↔ ∃ j, j ≤ k ∧ j * w ≤ n ∧ c.testBit (n - j * w) = true
  | 0, c, n => by
    constructor
    · intro h
      exact ⟨0, Nat.le_refl _, by omega, by simpa [more] using h⟩
    · rintro ⟨j, hj, hn, h⟩
      obtain rfl : j = 0 := by omega
      simpa [more] using h
  | k + 1, c, n => by
    show ((more w k c) ||| (more w k c) <<< w).testBit n = true ↔ _
    rw [Nat.testBit_or, Nat.testBit_shiftLeft, Bool.or_eq_true, Bool.and_eq_true, decide_eq_true_iff, more_bit w k c n, more_bit w k c (n - w)]
    constructor
    · rintro (⟨j, hj, hn, h⟩ | ⟨hw, j, hj, hn, h⟩)
      · exact ⟨j, by omega, hn, h⟩
      · refine ⟨j + 1, by omega, ?_, ?_⟩
        · rw [Nat.succ_mul]; omega
        · rw [Nat.succ_mul, show n - (j * w + w) = n - w - j * w by omega]; exact h
    · rintro ⟨j, hj, hn, h⟩
      by_cases hk : j ≤ k
      · exact Or.inl ⟨j, hk, hn, h⟩
      · obtain rfl : j = k + 1 := by omega
        rw [Nat.succ_mul] at hn h
        exact Or.inr ⟨by omega, k, Nat.le_refl _, by omega, by rw [show n - w - k * w = n - (k * w + w) by omega]; exact h⟩

theorem worthOf_cons (d : Deck) (r : List Deck) (k : Nat) (p : Push) : worthOf (d :: r) (k :: p) = k * d.worth + worthOf r p := rfl
theorem mem_pushes_cons {d : Deck} {r : List Deck} {q : Push} : q ∈ pushes (d :: r) ↔ ∃ k p, k ≤ d.beads ∧ p ∈ pushes r ∧ q = k :: p := by
  show q ∈ (List.range (d.beads + 1)).flatMap _ ↔ _
  rw [List.mem_flatMap]
  constructor
  · rintro ⟨k, hk, h⟩
    obtain ⟨p, hp, e⟩ := List.mem_map.mp h
    exact ⟨k, p, by have := List.mem_range.mp hk; omega, hp, e.symm⟩
  · rintro ⟨k, p, hk, hp, e⟩
    exact ⟨k, List.mem_range.mpr (by omega), List.mem_map.mpr ⟨p, hp, e.symm⟩⟩
theorem fold_bit : ∀ (l : List (Nat × Nat)) (c n : Nat), ((l.foldl (fun c d => more d.2 d.1 c) c).testBit n = true ↔
    ∃ m p, c.testBit m = true ∧ p ∈ pushes (l.map mk) ∧ n = m + worthOf (l.map mk) p)
  | [], c, n => by
    constructor
    · intro h
      exact ⟨n, [], h, List.mem_singleton.mpr rfl, rfl⟩
    · rintro ⟨m, p, h, hp, e⟩
      obtain rfl := List.mem_singleton.mp hp
      obtain rfl : n = m := e
      exact h
  | d :: l, c, n => by
    rw [List.foldl_cons, fold_bit l]
    constructor
    · rintro ⟨m, p, h, hp, e⟩
      obtain ⟨j, hj, hm, hb⟩ := (more_bit _ _ _ _).mp h
      refine ⟨m - j * d.2, j :: p, hb, mem_pushes_cons.mpr ⟨j, p, hj, hp, rfl⟩, ?_⟩
      show n = m - j * d.2 + (j * d.2 + worthOf (l.map mk) p)
      omega
    · rintro ⟨m, q, h, hq, e⟩
      obtain ⟨k, p, hk, hp, rfl⟩ := mem_pushes_cons.mp hq
      have e' : n = m + (k * d.2 + worthOf (l.map mk) p) := e
      refine ⟨m + k * d.2, p, (more_bit _ _ _ _).mpr ⟨k, hk, by omega, by rw [Nat.add_sub_cancel]; exact h⟩, hp, by omega⟩
theorem fold_skip : ∀ (l : List (Nat × Nat)) (c : Nat), l.foldl (fun c d => more d.2 d.1 c) c = (l.filter fun d => d.1 != 0).foldl (fun c d => more d.2 d.1 c) c
  | [], _ => rfl
  | d :: l, c => by
    rw [List.foldl_cons, fold_skip l]
    by_cases h : d.1 = 0
    · rw [List.filter_cons, if_neg (by simp [h]), h]
      rfl
    · rw [List.filter_cons, if_pos (by simp [h]), List.foldl_cons]
theorem one_bit (m : Nat) : Nat.testBit 1 m = true ↔ m = 0 := by
  cases m with
  | zero => simp
  | succ m => simp [Nat.testBit_succ]
theorem counts_bit (g : List Nat) (n : Nat) : (counts g).testBit n = true ↔ ∃ p ∈ pushes (rodOf g).decks, worthOf (rodOf g).decks p = n := by
  unfold counts
  rw [fold_skip, fold_bit, rodOf_decks]
  constructor
  · rintro ⟨m, p, h, hp, e⟩
    obtain rfl := (one_bit m).mp h
    exact ⟨p, hp, by omega⟩
  · rintro ⟨p, hp, e⟩
    exact ⟨0, p, by decide, hp, by omega⟩
theorem mask_bits (c r : Nat) : ((c &&& (2 ^ r - 1)) == 2 ^ r - 1) = true ↔ ∀ d, d < r → c.testBit d = true := by
  rw [beq_iff_eq]
  constructor
  · intro h d hd
    have e := congrArg (fun x => Nat.testBit x d) h
    simp only [Nat.testBit_and, Nat.testBit_two_pow_sub_one, decide_eq_true hd, Bool.and_true] at e
    exact e
  · intro h
    apply Nat.eq_of_testBit_eq
    intro d
    rw [Nat.testBit_and, Nat.testBit_two_pow_sub_one]
    by_cases hd : d < r
    · rw [h d hd]; simp
    · simp [hd]
theorem whole_eq (g : List Nat) : (rodOf g).whole = allPushed g := by
  rw [Bool.eq_iff_iff]
  unfold allPushed
  rw [mask_bits]
  unfold Rod.whole
  rw [List.all_eq_true, rodOf_ratio]
  constructor
  · intro h d hd
    obtain ⟨p, hp, e⟩ := List.any_eq_true.mp (h d (List.mem_range.mpr hd))
    exact (counts_bit g d).mpr ⟨p, hp, beq_iff_eq.mp e⟩
  · intro h d hd
    obtain ⟨p, hp, e⟩ := (counts_bit g d).mp (h d (List.mem_range.mp hd))
    exact List.any_eq_true.mpr ⟨p, hp, beq_iff_eq.mpr e⟩
theorem wrong_eq (g : List Nat) : rodWrong g = broken g := by
  unfold rodWrong broken
  rw [good_eq, most_eq, whole_eq]
end Bf
namespace Bf
open Na
/-! ### the list as rods -/
theorem drop_nil_of {l : List Nat} {n : Nat} (h : l.length ≤ n) : l.drop n = [] := List.drop_eq_nil_of_le h
def cuts (l : List Nat) : List (List Nat) := (List.range (l.length / 7)).map fun i => (l.drop (7 * i)).take 7
theorem by_cuts : ∀ (n : Nat) (l : List Nat), l.length % 7 = 0 → l.length / 7 < n → by_ 7 n l = cuts l
  | 0, l, _, h => by omega
  | n + 1, l, h0, h => by
    show (if l = [] then [] else l.take 7 :: by_ 7 n (l.drop 7)) = cuts l
    by_cases e : l = []
    · rw [if_pos e, e]
      rfl
    · rw [if_neg e]
      have hl : 0 < l.length := List.length_pos_iff.mpr e
      have h7 : 7 ≤ l.length := by omega
      rw [by_cuts n (l.drop 7) (by rw [List.length_drop]; omega) (by rw [List.length_drop]; omega)]
      unfold cuts
      rw [List.length_drop, show l.length / 7 = (l.length - 7) / 7 + 1 by omega, List.range_succ_eq_map, List.map_cons, List.map_map]
      refine congrArg (List.cons (l.take 7)) (List.map_congr_left fun i _ => ?_)
      rw [List.drop_drop]
      show (l.drop (7 + 7 * i)).take 7 = (l.drop (7 * (i + 1))).take 7
      rw [show 7 * (i + 1) = 7 + 7 * i by omega]
theorem groups_cuts {l : List Nat} (h : l.length % 7 = 0) : groups 7 l = cuts l := by_cuts _ l h (by omega)
theorem cuts_len (l : List Nat) : (cuts l).length = l.length / 7 := by
  unfold cuts
  rw [List.length_map, List.length_range]
theorem cuts_at {l : List Nat} {i : Nat} (h : i < l.length / 7) : (cuts l)[i]? = some ((l.drop (7 * i)).take 7) := by
  unfold cuts
  rw [List.getElem?_map, List.getElem?_range h]
  rfl
theorem cuts_seven {l : List Nat} {g : List Nat} (h : g ∈ cuts l) : g.length = 7 := by
  obtain ⟨i, hi, rfl⟩ := List.mem_map.mp h
  rw [List.length_take, List.length_drop]
  have := List.mem_range.mp hi
  omega
theorem cuts_mem {l : List Nat} {g : List Nat} (h : g ∈ cuts l) : ∀ x ∈ g, x ∈ l := by
  obtain ⟨i, hi, rfl⟩ := List.mem_map.mp h
  exact fun x hx => List.mem_of_mem_drop (List.mem_of_mem_take hx)

/-! ### the make's fault -/
def mfault (l : List Nat) : List Nat := match makeOf l with
  | .error e => [e.rule, e.place]
  | .ok _ => []
def wholeRods (l : List Nat) : Bool := if l.length = 0 ∨ 448 < l.length then false else l.length % 7 == 0
theorem whole_facts {l : List Nat} (h : wholeRods l = true) : 0 < l.length ∧ l.length ≤ 448 ∧ l.length % 7 = 0 := by
  unfold wholeRods at h
  split at h
  · cases h
  · have := beq_iff_eq.mp h
    omega
theorem makeOf_bad {l : List Nat} (h : wholeRods l = false) : makeOf l = .error ⟨1, 0⟩ := by
  unfold makeOf
  refine if_pos ?_
  unfold wholeRods at h
  show l.length % 7 ≠ 0 ∨ l.length = 0 ∨ 448 < l.length
  split at h
  · omega
  · have : ¬ l.length % 7 = 0 := by simpa using h
    exact Or.inl this
theorem makeOf_whole {l : List Nat} (h : wholeRods l = true) : makeOf l = match (cuts l).findIdx? fun (g : List Nat) => broken g != 0 with
    | some i => .error ⟨broken ((cuts l).getD i []), i⟩
    | none => .ok ((cuts l).map rodOf) := by
  obtain ⟨h1, h2, h3⟩ := whole_facts h
  unfold makeOf
  rw [if_neg (show ¬ (l.length % 7 ≠ 0 ∨ l.length = 0 ∨ 7 * RODS < l.length) by
    show ¬ (l.length % 7 ≠ 0 ∨ l.length = 0 ∨ 448 < l.length)
    omega), groups_cuts h3, show rodWrong = broken from funext wrong_eq]
  cases (cuts l).findIdx? (fun (g : List Nat) => broken g != 0) <;> rfl
theorem mfault_bad {l : List Nat} (h : wholeRods l = false) : mfault l = [1, 0] := by
  unfold mfault
  rw [makeOf_bad h]
theorem makeOf_at {l : List Nat} (h : wholeRods l = true) {i : Nat} {g : List Nat} (hi : (cuts l)[i]? = some g) (hb : broken g ≠ 0) (ha : ∀ (j : Nat) (g' : List Nat), j < i → (cuts l)[j]? = some g' → broken g' = 0) : makeOf l = .error ⟨broken g, i⟩ := by
  rw [makeOf_whole h]
  have hlt : i < (cuts l).length := (List.getElem?_eq_some_iff.mp hi).1
  have e : (cuts l).findIdx? (fun (g : List Nat) => broken g != 0) = some i := by
    rw [List.findIdx?_eq_some_iff_getElem]
    refine ⟨hlt, ?_, ?_⟩
    · rw [(List.getElem?_eq_some_iff.mp hi).2]
      simpa using hb
    · intro j hj
      have := ha j _ hj (List.getElem?_eq_getElem (by omega))
      simp [this]
  rw [e]
  show Except.error (⟨broken ((cuts l).getD i []), i⟩ : Fault) = _
  rw [List.getD_eq_getElem?_getD, hi]
  rfl
theorem mfault_at {l : List Nat} (h : wholeRods l = true) {i : Nat} {g : List Nat} (hi : (cuts l)[i]? = some g) (hb : broken g ≠ 0) (ha : ∀ (j : Nat) (g' : List Nat), j < i → (cuts l)[j]? = some g' → broken g' = 0) : mfault l = [broken g, i] := by
  unfold mfault
  rw [makeOf_at h hi hb ha]
theorem makeOf_ok {l : List Nat} (h : wholeRods l = true) (ha : ∀ (j : Nat) (g : List Nat), (cuts l)[j]? = some g → broken g = 0) : makeOf l = .ok ((cuts l).map rodOf) := by
  rw [makeOf_whole h]
  have e : (cuts l).findIdx? (fun (g : List Nat) => broken g != 0) = none := by
    rw [List.findIdx?_eq_none_iff]
    intro g hg
    obtain ⟨j, hj⟩ := List.getElem?_of_mem hg
    simp [ha j g hj]
  rw [e]
theorem mfault_ok {l : List Nat} (h : wholeRods l = true) (ha : ∀ (j : Nat) (g : List Nat), (cuts l)[j]? = some g → broken g = 0) : mfault l = [] := by
  unfold mfault
  rw [makeOf_ok h ha]
/-- a make: no fault -/
theorem mfault_nil {l : List Nat} (h : mfault l = []) : wholeRods l = true ∧ makeOf l = .ok ((cuts l).map rodOf) ∧ ∀ g ∈ cuts l, broken g = 0 := by
  cases hw : wholeRods l with
  | false =>
    rw [mfault_bad hw] at h
    cases h
  | true =>
    have key : ∀ (j : Nat) (g : List Nat), (cuts l)[j]? = some g → broken g = 0 := by
      cases e : (cuts l).findIdx? (fun (g : List Nat) => broken g != 0) with
      | none =>
        rw [List.findIdx?_eq_none_iff] at e
        intro j g hj
        simpa using e g (List.mem_of_getElem? hj)
      | some i =>
        unfold mfault at h
        rw [makeOf_whole hw, e] at h
        cases h
    refine ⟨rfl, makeOf_ok hw key, fun g hg => ?_⟩
    obtain ⟨j, hj⟩ := List.getElem?_of_mem hg
    exact key j g hj
theorem makeOf_err {l : List Nat} (h : mfault l ≠ []) : ∃ e, makeOf l = .error e ∧ mfault l = [e.rule, e.place] := by
  unfold mfault at h ⊢
  cases e : makeOf l with
  | error f => exact ⟨f, rfl, rfl⟩
  | ok m =>
    rw [e] at h
    exact absurd rfl h
/-! ### judge -/
def judged (l : List Nat) : List Int := if mfault l = [] then [0] else -5 :: (mfault l).map (fun n : Nat => (n : Int))
theorem judge_eq (ns : List Int) : PyYqacaa.judge ns = judged (ns.map Int.toNat) := by
  show BdNeutral.told (Bd.ofMake (ns.map Int.toNat) fun _ => .nums []) = _
  unfold judged Bd.ofMake
  by_cases h : mfault (ns.map Int.toNat) = []
  · rw [if_pos h, (mfault_nil h).2.1]
    rfl
  · obtain ⟨e, h1, h2⟩ := makeOf_err h
    rw [if_neg h, h1, h2]
    rfl
/-! ### span -/
def prodR (gs : List (List Nat)) : Nat := gs.foldl (fun p g => p * ix g 0) 1
theorem prod_span : ∀ (gs : List (List Nat)) (p : Nat), gs.foldl (fun p g => p * ix g 0) p = p * Na.span (gs.map rodOf)
  | [], p => (Nat.mul_one p).symm
  | g :: gs, p => by
    rw [List.foldl_cons, prod_span gs]
    show p * ix g 0 * _ = p * (ix g 0 * Na.span (gs.map rodOf))
    rw [Nat.mul_assoc]
def spanned (l : List Nat) : List Int := if mfault l = [] then [0, (prodR (cuts l) : Int)] else -5 :: (mfault l).map (fun n : Nat => (n : Int))
theorem span_eq (ns : List Int) : PyYqacaa.span ns = spanned (ns.map Int.toNat) := by
  show BdNeutral.told (Bd.ofMake (ns.map Int.toNat) fun m => .nums [Na.span m]) = _
  unfold spanned Bd.ofMake
  by_cases h : mfault (ns.map Int.toNat) = []
  · rw [if_pos h, (mfault_nil h).2.1]
    unfold prodR
    rw [prod_span, Nat.one_mul]
    rfl
  · obtain ⟨e, h1, h2⟩ := makeOf_err h
    rw [if_neg h, h1, h2]
    rfl
end Bf
namespace Bf
open Na
/-! ### bounds and single turns -/
theorem sound_le {b w : Nat} (h : sound b w = true) : b ≤ 15 ∧ w ≤ 63 := by
  unfold sound at h
  split at h
  · rename_i c
    have e := beq_iff_eq.mp h
    omega
  · simp at h
    exact h
theorem nums_facts {g : List Nat} (h : numsSound g = true) : 2 ≤ ix g 0 ∧ ix g 0 ≤ 20 ∧ (∀ d ∈ decks g, sound d.1 d.2 = true) ∧ inTurn g = true := by
  unfold numsSound at h
  split at h
  · cases h
  · split at h
    · rename_i c a
      exact ⟨by omega, by omega, fun d hd => List.all_eq_true.mp a d hd, h⟩
    · cases h
theorem more_lt {w m : Nat} : ∀ (k c : Nat), c < 2 ^ m → more w k c < 2 ^ (m + w * k)
  | 0, c, h => h
  | k + 1, c, h => by
    have ih := more_lt (w := w) k c h
    show (more w k c) ||| (more w k c) <<< w < _
    rw [Nat.mul_succ, ← Nat.add_assoc]
    refine Nat.or_lt_two_pow ?_ ?_
    · exact Nat.lt_of_lt_of_le ih (Nat.pow_le_pow_right (by decide) (by omega))
    · rw [Nat.shiftLeft_eq, Nat.pow_add 2 (m + w * k) w]
      exact Nat.mul_lt_mul_of_pos_right ih (Nat.two_pow_pos w)
theorem more_lt' {w m k c : Nat} (h : c < 2 ^ m) (hk : k ≤ 15) (hw : w ≤ 63) : more w k c < 2 ^ (m + 945) :=
  Nat.lt_of_lt_of_le (more_lt k c h) (Nat.pow_le_pow_right (by decide) (by
    have := Nat.mul_le_mul hw hk
    omega))
theorem fold_lt : ∀ (l : List (Nat × Nat)) (c m : Nat), c < 2 ^ m → (∀ d ∈ l, sound d.1 d.2 = true) → l.foldl (fun c d => more d.2 d.1 c) c < 2 ^ (m + 945 * l.length)
  | [], c, m, h, _ => h
  | d :: l, c, m, h, hs => by
    have s := sound_le (hs d (List.mem_cons_self ..))
    have := fold_lt l (more d.2 d.1 c) (m + 945) (more_lt' h s.1 s.2) fun x hx => hs x (List.mem_cons_of_mem _ hx)
    rw [List.foldl_cons, List.length_cons]
    rw [show m + 945 * (l.length + 1) = m + 945 + 945 * l.length by omega]
    exact this
theorem worthT_le {g : List Nat} (h7 : g.length = 7) (h : ∀ x ∈ g, x < 4294967296) (j : Nat) : ix g j < 4294967296 := by
  unfold ix
  rw [List.getD_eq_getElem?_getD]
  cases e : g[j]? with
  | none => exact (by decide : 0 < 4294967296)
  | some x => exact h x (List.mem_of_getElem? e)
theorem decks_lt {g : List Nat} (h7 : g.length = 7) (h : ∀ x ∈ g, x < 4294967296) {d : Nat × Nat} (hd : d ∈ decks g) : d.1 < 4294967296 ∧ d.2 < 4294967296 := by
  have k := worthT_le h7 h
  unfold decks at hd
  simp only [List.mem_cons, List.not_mem_nil, or_false] at hd
  rcases hd with rfl | rfl | rfl
  · exact ⟨k 1, k 2⟩
  · exact ⟨k 3, k 4⟩
  · exact ⟨k 5, k 6⟩
theorem prod_lt : ∀ (gs : List (List Nat)) (p m : Nat), p < 2 ^ m → (∀ g ∈ gs, ix g 0 < 2 ^ 32) → gs.foldl (fun p g => p * ix g 0) p < 2 ^ (m + 32 * gs.length)
  | [], p, m, h, _ => h
  | g :: gs, p, m, h, hs => by
    have := prod_lt gs (p * ix g 0) (m + 32) (by
      rw [Nat.pow_add]
      have a := hs g (List.mem_cons_self ..)
      exact Nat.mul_lt_mul_of_lt_of_le h (Nat.le_of_lt a) (by decide)) fun x hx => hs x (List.mem_cons_of_mem _ hx)
    rw [List.foldl_cons, List.length_cons, show m + 32 * (gs.length + 1) = m + 32 + 32 * gs.length by omega]
    exact this
theorem mem_take {α : Type} {l : List α} {i : Nat} {x : α} (h : x ∈ l.take i) : x ∈ l := List.mem_of_mem_take h
theorem nums_false {g : List Nat} {d : Nat × Nat} (hd : d ∈ decks g) (h : sound d.1 d.2 = false) : numsSound g = false := by
  cases e : numsSound g with
  | false => rfl
  | true =>
    have := (nums_facts e).2.2.1 d hd
    rw [h] at this
    cases this
theorem nums_ratio {g : List Nat} (h : (decide (ix g 0 < 2) || decide (20 < ix g 0)) = true) : numsSound g = false := by
  unfold numsSound
  rw [if_pos (by simpa using h)]
theorem nums_else {g : List Nat} (h : (decide (ix g 0 < 2) || decide (20 < ix g 0)) = false) (ha : ∀ d ∈ decks g, sound d.1 d.2 = true) : numsSound g = inTurn g := by
  unfold numsSound
  rw [if_neg (by simpa using h), if_pos (List.all_eq_true.mpr ha)]
end Bf
namespace Bf
open Na

/-! ### sums -/
def sumBy {α : Type} (f : α → Nat) : List α → Nat
  | [] => 0
  | x :: l => f x + sumBy f l
theorem total_map {α : Type} (f : α → Nat) : ∀ l : List α, total (l.map f) = sumBy f l
  | [] => rfl
  | x :: l => congrArg (f x + ·) (total_map f l)
theorem sumBy_append {α : Type} (f : α → Nat) : ∀ l m : List α, sumBy f (l ++ m) = sumBy f l + sumBy f m
  | [], m => (Nat.zero_add _).symm
  | x :: l, m => by
    show f x + sumBy f (l ++ m) = f x + sumBy f l + sumBy f m
    rw [sumBy_append f l m, Nat.add_assoc]
theorem sumBy_congr {α : Type} {f g : α → Nat} : ∀ {l : List α}, (∀ x ∈ l, f x = g x) → sumBy f l = sumBy g l
  | [], _ => rfl
  | x :: l, h => by
    show f x + sumBy f l = g x + sumBy g l
    rw [h x (List.mem_cons_self ..), sumBy_congr fun y hy => h y (List.mem_cons_of_mem _ hy)]
theorem sumBy_zero {α : Type} {f : α → Nat} {l : List α} (h : ∀ x ∈ l, f x = 0) : sumBy f l = 0 := by
  induction l with
  | nil => rfl
  | cons x l ih =>
    show f x + sumBy f l = 0
    rw [h x (List.mem_cons_self ..), ih fun y hy => h y (List.mem_cons_of_mem _ hy)]
theorem sumBy_add {α : Type} (f g : α → Nat) : ∀ l : List α, sumBy (fun x => f x + g x) l = sumBy f l + sumBy g l
  | [] => rfl
  | x :: l => by
    show f x + g x + sumBy (fun x => f x + g x) l = f x + sumBy f l + (g x + sumBy g l)
    rw [sumBy_add f g l]
    omega
theorem sumBy_mul {α : Type} (f : α → Nat) (c : Nat) : ∀ l : List α, sumBy (fun x => c * f x) l = c * sumBy f l
  | [] => rfl
  | x :: l => by
    show c * f x + sumBy (fun x => c * f x) l = c * (f x + sumBy f l)
    rw [sumBy_mul f c l, Nat.mul_add]
theorem sumBy_filter {α : Type} (f : α → Nat) (p : α → Bool) : ∀ l : List α, sumBy f (l.filter p) = sumBy (fun x => if p x = true then f x else 0) l
  | [] => rfl
  | x :: l => by
    rw [List.filter_cons]
    show _ = (if p x = true then f x else 0) + sumBy (fun x => if p x = true then f x else 0) l
    split
    · show f x + sumBy f (l.filter p) = _
      rw [sumBy_filter f p l]
    · rw [sumBy_filter f p l, Nat.zero_add]
theorem sumBy_const {α : Type} (c : Nat) : ∀ l : List α, sumBy (fun _ => c) l = l.length * c
  | [] => (Nat.zero_mul c).symm
  | x :: l => by
    show c + sumBy (fun _ => c) l = (l.length + 1) * c
    rw [sumBy_const c l, Nat.succ_mul, Nat.add_comm]
theorem sumBy_map {α β : Type} (f : β → Nat) (g : α → β) : ∀ l : List α, sumBy f (l.map g) = sumBy (fun x => f (g x)) l
  | [] => rfl
  | x :: l => congrArg (f (g x) + ·) (sumBy_map f g l)
theorem sumBy_flat {α β : Type} (f : β → Nat) (g : α → List β) : ∀ l : List α, sumBy f (l.flatMap g) = sumBy (fun x => sumBy f (g x)) l
  | [] => rfl
  | x :: l => by
    rw [List.flatMap_cons, sumBy_append, sumBy_flat f g l]
    rfl
/-- sums may be taken in either order -/
theorem sumBy_comm {α β : Type} (f : α → β → Nat) (l : List α) (m : List β) : sumBy (fun x => sumBy (f x) m) l = sumBy (fun y => sumBy (fun x => f x y) l) m := by
  induction l with
  | nil =>
    show 0 = sumBy (fun _ => 0) m
    rw [sumBy_const, Nat.mul_zero]
  | cons x l ih =>
    show sumBy (f x) m + sumBy (fun x => sumBy (f x) m) l = sumBy (fun y => f x y + sumBy (fun x => f x y) l) m
    rw [ih, sumBy_add]
/-- just one of 0 .. n - 1 is w -/
theorem sumBy_one {n w : Nat} (f : Nat → Nat) (h : w < n) : sumBy (fun k => if k = w then f k else 0) (List.range n) = f w := by
  induction n with
  | zero => omega
  | succ n ih =>
    rw [List.range_succ, sumBy_append]
    show _ + ((if n = w then f n else 0) + 0) = _
    by_cases e : n = w
    · rw [if_pos e, e, sumBy_zero fun k hk => if_neg (by have := List.mem_range.mp hk; omega), Nat.zero_add, Nat.add_zero]
    · rw [if_neg e, ih (by omega), Nat.add_zero]

/-! ### pushes -/
theorem worth_most : ∀ (l : List Deck) (p : Push), p ∈ pushes l → worthOf l p ≤ total (l.map fun d => d.beads * d.worth)
  | [], p, h => Nat.zero_le _
  | d :: r, q, h => by
    obtain ⟨k, p, hk, hp, rfl⟩ := mem_pushes_cons.mp h
    show k * d.worth + worthOf r p ≤ d.beads * d.worth + total (r.map _)
    exact Nat.add_le_add (Nat.mul_le_mul_right _ hk) (worth_most r p hp)
theorem push_len : ∀ (l : List Deck) (p : Push), p ∈ pushes l → p.length = l.length
  | [], p, h => by
    obtain rfl := List.mem_singleton.mp h
    rfl
  | d :: r, q, h => by
    obtain ⟨k, p, hk, hp, rfl⟩ := mem_pushes_cons.mp h
    exact congrArg (· + 1) (push_len r p hp)

/-! ### a rod's tally -/
theorem tally_sum (r : Rod) (g : Nat → Nat) : sumBy (fun (y : Nat × (Nat × Nat)) => y.2.1 * g y.1) (tally r) = sumBy (fun p => g (worthOf r.decks p)) (pushes r.decks) := by
  have hm : ∀ p ∈ pushes r.decks, worthOf r.decks p < r.most + 1 := fun p hp => Nat.lt_succ_of_le (worth_most _ _ hp)
  have step : ∀ ws : List Nat, sumBy (fun (y : Nat × (Nat × Nat)) => y.2.1 * g y.1) (ws.filterMap fun (w : Nat) => match (pushes r.decks).filter fun (p : Push) => worthOf r.decks p == w with
      | [] => none
      | p :: l => some (w, (l.length + 1, l.foldl (fun (b : Nat) (q : Push) => min b (total q)) (total p)))) = sumBy (fun w => sumBy (fun p => if worthOf r.decks p = w then g w else 0) (pushes r.decks)) ws := by
    intro ws
    induction ws with
    | nil => rfl
    | cons w ws ih =>
      have hc : sumBy (fun p => if worthOf r.decks p = w then g w else 0) (pushes r.decks) = ((pushes r.decks).filter fun (p : Push) => worthOf r.decks p == w).length * g w := by
        rw [← sumBy_const, sumBy_filter]
        exact sumBy_congr fun p _ => by simp
      rw [List.filterMap_cons]
      cases e : (pushes r.decks).filter fun (p : Push) => worthOf r.decks p == w with
      | nil =>
        rw [e] at hc
        show sumBy _ (ws.filterMap _) = sumBy (fun p => if worthOf r.decks p = w then g w else 0) (pushes r.decks) + _
        rw [ih, hc]
        simp
      | cons p l =>
        rw [e] at hc
        show (l.length + 1) * g w + sumBy _ (ws.filterMap _) = sumBy (fun p => if worthOf r.decks p = w then g w else 0) (pushes r.decks) + _
        rw [ih, hc]
        rfl
  refine (step (List.range (r.most + 1))).trans ?_
  rw [sumBy_comm]
  refine sumBy_congr fun p hp => ?_
  rw [show (fun (w : Nat) => if worthOf r.decks p = w then g w else 0) = (fun w => if w = worthOf r.decks p then g w else 0) from funext fun w => by
    by_cases e : w = worthOf r.decks p
    · rw [if_pos e, if_pos e.symm]
    · rw [if_neg e, if_neg fun h => e h.symm]]
  exact sumBy_one g (hm p hp)

/-! ### numbers with their ways -/
/-- each entry's ways, times f of its number -/
def wt (f : Nat → Nat) (l : List (Nat × Nat)) : Nat := sumBy (fun (x : Nat × Nat) => x.2 * f x.1) l
theorem wt_put (f : Nat → Nat) (u c : Nat) : ∀ l : List (Nat × Nat), wt f (putWith (fun a b => a + b) u c l) = wt f l + c * f u
  | [] => by
    show c * f u + 0 = 0 + c * f u
    omega
  | x :: l => by
    show wt f (if x.1 = u then (u, x.2 + c) :: l else x :: putWith (fun a b => a + b) u c l) = _
    split
    · rename_i e
      show (x.2 + c) * f u + wt f l = x.2 * f x.1 + wt f l + c * f u
      rw [e, Nat.add_mul]
      omega
    · show x.2 * f x.1 + wt f (putWith (fun a b => a + b) u c l) = x.2 * f x.1 + wt f l + c * f u
      rw [wt_put f u c l]
      omega
/-- what f is of what's left above a rod that shows w; 0 where nothing can be left -/
def above (r : Rod) (f : Nat → Nat) (u w : Nat) : Nat := match leftOver r u w with
  | some v => f v
  | none => 0
theorem wt_up1 (r : Rod) (f : Nat → Nat) (x : Nat × Nat) : ∀ (t : List (Nat × (Nat × Nat))) (z : List (Nat × Nat)), wt f (t.foldl (fun (z : List (Nat × Nat)) (y : Nat × (Nat × Nat)) => match leftOver r x.1 y.1 with
    | some u => putWith (fun (a b : Nat) => a + b) u (x.2 * y.2.1) z
    | none => z) z) = wt f z + x.2 * sumBy (fun (y : Nat × (Nat × Nat)) => y.2.1 * above r f x.1 y.1) t
  | [], z => by
    show wt f z = wt f z + x.2 * 0
    omega
  | y :: t, z => by
    rw [List.foldl_cons, wt_up1 r f x t]
    show _ = wt f z + x.2 * (y.2.1 * above r f x.1 y.1 + sumBy _ t)
    unfold above
    cases leftOver r x.1 y.1 with
    | none =>
      show wt f z + _ = wt f z + x.2 * (y.2.1 * 0 + _)
      rw [Nat.mul_zero, Nat.zero_add]
    | some u =>
      show wt f (putWith (fun (a b : Nat) => a + b) u (x.2 * y.2.1) z) + _ = wt f z + x.2 * (y.2.1 * f u + _)
      rw [wt_put, Nat.mul_add, Nat.mul_assoc]
      omega
/-- f behind a rod more -/
def upF (r : Rod) (f : Nat → Nat) (u : Nat) : Nat := sumBy (fun p => above r f u (worthOf r.decks p)) (pushes r.decks)
theorem wt_oneUp (r : Rod) (f : Nat → Nat) (l : List (Nat × Nat)) : wt f (oneUp r l) = wt (upF r f) l := by
  have key : ∀ (l z : List (Nat × Nat)), wt f (l.foldl (fun (z : List (Nat × Nat)) (x : Nat × Nat) => (tally r).foldl (fun (z : List (Nat × Nat)) (y : Nat × (Nat × Nat)) => match leftOver r x.1 y.1 with
      | some u => putWith (fun (a b : Nat) => a + b) u (x.2 * y.2.1) z
      | none => z) z) z) = wt f z + wt (upF r f) l := by
    intro l
    induction l with
    | nil => intro z; rfl
    | cons x l ih =>
      intro z
      rw [List.foldl_cons, ih, wt_up1, tally_sum r (fun w => above r f x.1 w)]
      show _ = wt f z + (x.2 * upF r f x.1 + wt (upF r f) l)
      unfold upF
      omega
  have := key l []
  rw [show wt f [] = 0 from rfl, Nat.zero_add] at this
  exact this
/-- **in how many ways**, rod by rod -/
def cntF (f : Nat → Nat) : Make → Nat → Nat
  | [], u => f u
  | r :: m, u => upF r (cntF f m) u
theorem wt_fold (f : Nat → Nat) : ∀ (m : Make) (l : List (Nat × Nat)), wt f (m.foldl (fun (l : List (Nat × Nat)) (r : Rod) => oneUp r l) l) = wt (cntF f m) l
  | [], l => rfl
  | r :: m, l => by
    rw [List.foldl_cons, wt_fold f m, wt_oneUp]
    rfl
/-! each number stands once -/
theorem put_keys (f : Nat → Nat → Nat) (u c : Nat) : ∀ l : List (Nat × Nat), (putWith f u c l).map (·.1) = if u ∈ l.map (·.1) then l.map (·.1) else l.map (·.1) ++ [u]
  | [] => rfl
  | x :: l => by
    have ih := put_keys f u c l
    show ((if x.1 = u then (u, f x.2 c) :: l else x :: putWith f u c l)).map (·.1) = _
    by_cases e : x.1 = u
    · rw [if_pos e, if_pos (by simp [e])]
      show u :: l.map (·.1) = x.1 :: l.map (·.1)
      rw [e]
    · rw [if_neg e]
      show x.1 :: (putWith f u c l).map (·.1) = _
      rw [ih]
      by_cases h : u ∈ l.map (·.1)
      · rw [if_pos h, List.map_cons, if_pos (List.mem_cons_of_mem _ h)]
      · rw [if_neg h, List.map_cons, if_neg (by simp only [List.map_cons, List.mem_cons, not_or]; exact ⟨fun h => e h.symm, h⟩)]
        rfl
theorem put_nodup (f : Nat → Nat → Nat) (u c : Nat) (l : List (Nat × Nat)) (h : (l.map (·.1)).Nodup) : ((putWith f u c l).map (·.1)).Nodup := by
  rw [put_keys]
  split
  · exact h
  · rename_i hu
    rw [List.nodup_append]
    exact ⟨h, by simp, fun a ha b hb e => by
      have : b = u := by simpa using hb
      exact hu (this ▸ e ▸ ha)⟩
theorem fold_keep {α β : Type} {P : β → Prop} {g : β → α → β} (hg : ∀ b a, P b → P (g b a)) : ∀ (l : List α) (b : β), P b → P (l.foldl g b)
  | [], _, h => h
  | a :: l, b, h => fold_keep hg l (g b a) (hg b a h)
theorem oneUp_nodup (r : Rod) (l : List (Nat × Nat)) : ((oneUp r l).map (·.1)).Nodup := by
  unfold oneUp
  refine fold_keep (P := fun (z : List (Nat × Nat)) => (z.map (·.1)).Nodup) (fun z x hz => ?_) l [] List.nodup_nil
  refine fold_keep (P := fun (z : List (Nat × Nat)) => (z.map (·.1)).Nodup) (fun z y hz => ?_) _ z hz
  split
  · exact put_nodup _ _ _ _ hz
  · exact hz
theorem oneUpLeast_nodup (r : Rod) (l : List (Nat × Nat)) : ((oneUpLeast r l).map (·.1)).Nodup := by
  unfold oneUpLeast
  refine fold_keep (P := fun (z : List (Nat × Nat)) => (z.map (·.1)).Nodup) (fun z x hz => ?_) l [] List.nodup_nil
  refine fold_keep (P := fun (z : List (Nat × Nat)) => (z.map (·.1)).Nodup) (fun z y hz => ?_) _ z hz
  split
  · exact put_nodup _ _ _ _ hz
  · exact hz
def isZero (u : Nat) : Nat := if u = 0 then 1 else 0
theorem nothing_wt : ∀ (l : List (Nat × Nat)), (l.map (·.1)).Nodup → (nothingLeft l).getD 0 = wt isZero l
  | [], _ => rfl
  | x :: l, h => by
    obtain ⟨h1, h2⟩ := List.nodup_cons.mp h
    unfold nothingLeft
    rw [List.find?_cons]
    by_cases e : x.1 = 0
    · have : (x.1 == 0) = true := by simp [e]
      rw [this]
      show x.2 = x.2 * isZero x.1 + wt isZero l
      have z : wt isZero l = 0 := sumBy_zero fun y hy => by
        have : y.1 ≠ 0 := fun h0 => h1 (List.mem_map.mpr ⟨y, hy, h0.trans e.symm⟩)
        unfold isZero
        rw [if_neg this, Nat.mul_zero]
      rw [z]
      unfold isZero
      rw [if_pos e]
      omega
    · have : (x.1 == 0) = false := by simp [e]
      rw [this]
      show (nothingLeft l).getD 0 = x.2 * isZero x.1 + wt isZero l
      rw [nothing_wt l h2]
      unfold isZero
      rw [if_neg e]
      omega
/-- **the specification's ways are the ways counted rod by rod** -/
theorem ways_cnt (m : Make) (v : Nat) : ways m v = cntF isZero m v := by
  unfold ways
  have nd : ∀ (m : Make) (l : List (Nat × Nat)), (l.map (·.1)).Nodup → ((m.foldl (fun (l : List (Nat × Nat)) (r : Rod) => oneUp r l) l).map (·.1)).Nodup := fun m l h => fold_keep (P := fun (z : List (Nat × Nat)) => (z.map (·.1)).Nodup) (fun z r _ => oneUp_nodup r z) m l h
  rw [nothing_wt _ (nd m _ (by simp)), wt_fold]
  show 1 * cntF isZero m v + 0 = _
  omega
end Bf
namespace Bf
open Na
/-! ### the least of some, where there's any -/
def mn : Option Nat → Option Nat → Option Nat
  | none, b => b
  | some a, none => some a
  | some a, some b => some (min a b)
theorem mn_none (a : Option Nat) : mn a none = a := by cases a <;> rfl
theorem mn_comm (a b : Option Nat) : mn a b = mn b a := by
  cases a <;> cases b <;> first | rfl | exact congrArg some (Nat.min_comm _ _)
theorem mn_assoc (a b c : Option Nat) : mn (mn a b) c = mn a (mn b c) := by
  cases a <;> cases b <;> cases c <;> first | rfl | exact congrArg some (Nat.min_assoc _ _ _)
def plusO (c : Nat) (a : Option Nat) : Option Nat := a.map (c + ·)
theorem plus_mn (c : Nat) (a b : Option Nat) : plusO c (mn a b) = mn (plusO c a) (plusO c b) := by
  cases a <;> cases b <;> first | rfl | exact congrArg some (by show c + min _ _ = min (c + _) (c + _); omega)
theorem plus_plus (c d : Nat) (a : Option Nat) : plusO c (plusO d a) = plusO (c + d) a := by
  cases a with
  | none => rfl
  | some a => exact congrArg some (Nat.add_assoc c d a).symm
theorem plus_min (c d : Nat) (a : Option Nat) : plusO (min c d) a = mn (plusO c a) (plusO d a) := by
  cases a with
  | none => rfl
  | some a => exact congrArg some (by show min c d + a = min (c + a) (d + a); omega)
def minBy {α : Type} (f : α → Option Nat) : List α → Option Nat
  | [] => none
  | x :: l => mn (f x) (minBy f l)
theorem minBy_append {α : Type} (f : α → Option Nat) : ∀ l m : List α, minBy f (l ++ m) = mn (minBy f l) (minBy f m)
  | [], m => rfl
  | x :: l, m => by
    show mn (f x) (minBy f (l ++ m)) = mn (mn (f x) (minBy f l)) (minBy f m)
    rw [minBy_append f l m, mn_assoc]
theorem minBy_congr {α : Type} {f g : α → Option Nat} : ∀ {l : List α}, (∀ x ∈ l, f x = g x) → minBy f l = minBy g l
  | [], _ => rfl
  | x :: l, h => by
    show mn (f x) (minBy f l) = mn (g x) (minBy g l)
    rw [h x (List.mem_cons_self ..), minBy_congr fun y hy => h y (List.mem_cons_of_mem _ hy)]
theorem minBy_none {α : Type} {f : α → Option Nat} {l : List α} (h : ∀ x ∈ l, f x = none) : minBy f l = none := by
  induction l with
  | nil => rfl
  | cons x l ih =>
    show mn (f x) (minBy f l) = none
    rw [h x (List.mem_cons_self ..), ih fun y hy => h y (List.mem_cons_of_mem _ hy)]
    rfl
theorem minBy_mn {α : Type} (f g : α → Option Nat) : ∀ l : List α, minBy (fun x => mn (f x) (g x)) l = mn (minBy f l) (minBy g l)
  | [] => rfl
  | x :: l => by
    show mn (mn (f x) (g x)) (minBy (fun x => mn (f x) (g x)) l) = mn (mn (f x) (minBy f l)) (mn (g x) (minBy g l))
    rw [minBy_mn f g l, mn_assoc, mn_assoc, ← mn_assoc (g x), mn_comm (g x) (minBy f l), mn_assoc]
theorem minBy_plus {α : Type} (f : α → Option Nat) (c : Nat) : ∀ l : List α, minBy (fun x => plusO c (f x)) l = plusO c (minBy f l)
  | [] => rfl
  | x :: l => by
    show mn (plusO c (f x)) (minBy (fun x => plusO c (f x)) l) = plusO c (mn (f x) (minBy f l))
    rw [minBy_plus f c l, plus_mn]
theorem minBy_comm {α β : Type} (f : α → β → Option Nat) (l : List α) (m : List β) : minBy (fun x => minBy (f x) m) l = minBy (fun y => minBy (fun x => f x y) l) m := by
  induction l with
  | nil => exact (minBy_none fun _ _ => rfl).symm
  | cons x l ih =>
    show mn (minBy (f x) m) (minBy (fun x => minBy (f x) m) l) = minBy (fun y => mn (f x y) (minBy (fun x => f x y) l)) m
    rw [ih, minBy_mn]
theorem minBy_filter {α : Type} (f : α → Option Nat) (p : α → Bool) : ∀ l : List α, minBy f (l.filter p) = minBy (fun x => if p x = true then f x else none) l
  | [] => rfl
  | x :: l => by
    rw [List.filter_cons]
    show _ = mn (if p x = true then f x else none) (minBy (fun x => if p x = true then f x else none) l)
    split
    · show mn (f x) (minBy f (l.filter p)) = _
      rw [minBy_filter f p l]
    · rw [minBy_filter f p l]
      rfl
theorem minBy_one {n w : Nat} (f : Nat → Option Nat) (h : w < n) : minBy (fun k => if k = w then f k else none) (List.range n) = f w := by
  induction n with
  | zero => omega
  | succ n ih =>
    rw [List.range_succ, minBy_append]
    show mn _ (mn (if n = w then f n else none) none) = _
    rw [mn_none]
    by_cases e : n = w
    · rw [if_pos e, e, minBy_none fun k hk => if_neg (by have := List.mem_range.mp hk; omega)]
      rfl
    · rw [if_neg e, mn_none, ih (by omega)]
/-- how the least stands to the members -/
theorem minBy_mem {α : Type} {f : α → Option Nat} {b : Nat} : ∀ {l : List α}, minBy f l = some b → ∃ x ∈ l, f x = some b
  | [], h => by cases h
  | x :: l, h => by
    have h' : mn (f x) (minBy f l) = some b := h
    cases e : f x with
    | none =>
      rw [e] at h'
      obtain ⟨y, hy, k⟩ := minBy_mem (l := l) h'
      exact ⟨y, List.mem_cons_of_mem _ hy, k⟩
    | some a =>
      cases e2 : minBy f l with
      | none =>
        rw [e, e2] at h'
        obtain rfl := Option.some.inj h'
        exact ⟨x, List.mem_cons_self .., e⟩
      | some c =>
        rw [e, e2] at h'
        have h2 : min a c = b := Option.some.inj h'
        by_cases hac : a ≤ c
        · exact ⟨x, List.mem_cons_self .., by rw [e]; exact congrArg some (by omega)⟩
        · obtain ⟨y, hy, k⟩ := minBy_mem (l := l) e2
          exact ⟨y, List.mem_cons_of_mem _ hy, by rw [k]; exact congrArg some (by omega)⟩
theorem minBy_le {α : Type} {f : α → Option Nat} {a : Nat} : ∀ {l : List α} {x : α}, x ∈ l → f x = some a → ∃ b, minBy f l = some b ∧ b ≤ a
  | y :: l, x, hx, h => by
    show ∃ b, mn (f y) (minBy f l) = some b ∧ b ≤ a
    rcases List.mem_cons.mp hx with e | e
    · subst e
      rw [h]
      cases minBy f l with
      | none => exact ⟨a, rfl, Nat.le_refl _⟩
      | some c => exact ⟨min a c, rfl, Nat.min_le_left _ _⟩
    · obtain ⟨b, hb, hle⟩ := minBy_le e h
      rw [hb]
      cases f y with
      | none => exact ⟨b, rfl, hle⟩
      | some c => exact ⟨min c b, rfl, Nat.le_trans (Nat.min_le_right _ _) hle⟩
theorem fold_min (g : Push → Nat) : ∀ (l : List Push) (b : Nat), some (l.foldl (fun (b : Nat) (q : Push) => min b (g q)) b) = mn (some b) (minBy (fun p => some (g p)) l)
  | [], b => rfl
  | p :: l, b => by
    rw [List.foldl_cons, fold_min g l]
    show mn (some (min b (g p))) _ = mn (some b) (mn (some (g p)) _)
    rw [← mn_assoc]
    rfl
theorem tally_min (r : Rod) (g : Nat → Option Nat) : minBy (fun (y : Nat × (Nat × Nat)) => plusO y.2.2 (g y.1)) (tally r) = minBy (fun p => plusO (total p) (g (worthOf r.decks p))) (pushes r.decks) := by
  have hm : ∀ p ∈ pushes r.decks, worthOf r.decks p < r.most + 1 := fun p hp => Nat.lt_succ_of_le (worth_most _ _ hp)
  have step : ∀ ws : List Nat, minBy (fun (y : Nat × (Nat × Nat)) => plusO y.2.2 (g y.1)) (ws.filterMap fun (w : Nat) => match (pushes r.decks).filter fun (p : Push) => worthOf r.decks p == w with
      | [] => none
      | p :: l => some (w, (l.length + 1, l.foldl (fun (b : Nat) (q : Push) => min b (total q)) (total p)))) = minBy (fun w => minBy (fun p => if worthOf r.decks p = w then plusO (total p) (g w) else none) (pushes r.decks)) ws := by
    intro ws
    induction ws with
    | nil => rfl
    | cons w ws ih =>
      have hc : minBy (fun p => if worthOf r.decks p = w then plusO (total p) (g w) else none) (pushes r.decks) = minBy (fun p => plusO (total p) (g w)) ((pushes r.decks).filter fun (p : Push) => worthOf r.decks p == w) := by
        rw [minBy_filter]
        exact minBy_congr fun p _ => by simp
      rw [List.filterMap_cons]
      cases e : (pushes r.decks).filter fun (p : Push) => worthOf r.decks p == w with
      | nil =>
        rw [e] at hc
        show minBy _ (ws.filterMap _) = mn (minBy (fun p => if worthOf r.decks p = w then plusO (total p) (g w) else none) (pushes r.decks)) _
        rw [ih, hc]
        rfl
      | cons p l =>
        rw [e] at hc
        show mn (plusO (l.foldl (fun (b : Nat) (q : Push) => min b (total q)) (total p)) (g w)) (minBy _ (ws.filterMap _)) = mn (minBy (fun p => if worthOf r.decks p = w then plusO (total p) (g w) else none) (pushes r.decks)) _
        rw [ih, hc]
        refine congrArg (mn · _) ?_
        have fm : ∀ (l : List Push) (b : Nat), plusO (l.foldl (fun (b : Nat) (q : Push) => min b (total q)) b) (g w) = mn (plusO b (g w)) (minBy (fun p => plusO (total p) (g w)) l) := by
          intro l
          induction l with
          | nil => intro b; exact (mn_none _).symm
          | cons q l ih2 =>
            intro b
            rw [List.foldl_cons, ih2, plus_min, mn_assoc]
            rfl
        rw [fm]
        rfl
  refine (step (List.range (r.most + 1))).trans ?_
  rw [minBy_comm]
  refine minBy_congr fun p hp => ?_
  rw [show (fun (w : Nat) => if worthOf r.decks p = w then plusO (total p) (g w) else none) = (fun w => if w = worthOf r.decks p then plusO (total p) (g w) else none) from funext fun w => by
    by_cases e : w = worthOf r.decks p
    · rw [if_pos e, if_pos e.symm]
    · rw [if_neg e, if_neg fun h => e h.symm]]
  exact minBy_one (fun w => plusO (total p) (g w)) (hm p hp)

/-! ### numbers with the fewest beads so far -/
def lt_ (f : Nat → Option Nat) (l : List (Nat × Nat)) : Option Nat := minBy (fun (x : Nat × Nat) => plusO x.2 (f x.1)) l
theorem lt_put (f : Nat → Option Nat) (u c : Nat) : ∀ l : List (Nat × Nat), lt_ f (putWith min u c l) = mn (lt_ f l) (plusO c (f u))
  | [] => mn_none _
  | x :: l => by
    show lt_ f (if x.1 = u then (u, min x.2 c) :: l else x :: putWith min u c l) = _
    split
    · rename_i e
      show mn (plusO (min x.2 c) (f u)) (lt_ f l) = mn (mn (plusO x.2 (f x.1)) (lt_ f l)) (plusO c (f u))
      rw [e, plus_min, mn_assoc, mn_comm (plusO c (f u)), ← mn_assoc]
    · show mn (plusO x.2 (f x.1)) (lt_ f (putWith min u c l)) = mn (mn (plusO x.2 (f x.1)) (lt_ f l)) (plusO c (f u))
      rw [lt_put f u c l, mn_assoc]
def aboveL (r : Rod) (f : Nat → Option Nat) (u w : Nat) : Option Nat := match leftOver r u w with
  | some v => f v
  | none => none
theorem lt_up1 (r : Rod) (f : Nat → Option Nat) (x : Nat × Nat) : ∀ (t : List (Nat × (Nat × Nat))) (z : List (Nat × Nat)), lt_ f (t.foldl (fun (z : List (Nat × Nat)) (y : Nat × (Nat × Nat)) => match leftOver r x.1 y.1 with
    | some u => putWith min u (x.2 + y.2.2) z
    | none => z) z) = mn (lt_ f z) (plusO x.2 (minBy (fun (y : Nat × (Nat × Nat)) => plusO y.2.2 (aboveL r f x.1 y.1)) t))
  | [], z => (mn_none _).symm
  | y :: t, z => by
    rw [List.foldl_cons, lt_up1 r f x t]
    show _ = mn (lt_ f z) (plusO x.2 (mn (plusO y.2.2 (aboveL r f x.1 y.1)) (minBy _ t)))
    unfold aboveL
    cases leftOver r x.1 y.1 with
    | none => rfl
    | some u =>
      show mn (lt_ f (putWith min u (x.2 + y.2.2) z)) _ = mn (lt_ f z) (plusO x.2 (mn (plusO y.2.2 (f u)) _))
      rw [lt_put, plus_mn, plus_plus, mn_assoc]
def upL (r : Rod) (f : Nat → Option Nat) (u : Nat) : Option Nat := minBy (fun p => plusO (total p) (aboveL r f u (worthOf r.decks p))) (pushes r.decks)
theorem lt_oneUp (r : Rod) (f : Nat → Option Nat) (l : List (Nat × Nat)) : lt_ f (oneUpLeast r l) = lt_ (upL r f) l := by
  have key : ∀ (l z : List (Nat × Nat)), lt_ f (l.foldl (fun (z : List (Nat × Nat)) (x : Nat × Nat) => (tally r).foldl (fun (z : List (Nat × Nat)) (y : Nat × (Nat × Nat)) => match leftOver r x.1 y.1 with
      | some u => putWith min u (x.2 + y.2.2) z
      | none => z) z) z) = mn (lt_ f z) (lt_ (upL r f) l) := by
    intro l
    induction l with
    | nil => intro z; exact (mn_none _).symm
    | cons x l ih =>
      intro z
      rw [List.foldl_cons, ih, lt_up1, tally_min r (fun w => aboveL r f x.1 w), mn_assoc]
      rfl
  exact key l []
def leastF (f : Nat → Option Nat) : Make → Nat → Option Nat
  | [], u => f u
  | r :: m, u => upL r (leastF f m) u
theorem lt_fold (f : Nat → Option Nat) : ∀ (m : Make) (l : List (Nat × Nat)), lt_ f (m.foldl (fun (l : List (Nat × Nat)) (r : Rod) => oneUpLeast r l) l) = lt_ (leastF f m) l
  | [], l => rfl
  | r :: m, l => by
    rw [List.foldl_cons, lt_fold f m, lt_oneUp]
    rfl
def zeroL (u : Nat) : Option Nat := if u = 0 then some 0 else none
theorem nothing_lt : ∀ (l : List (Nat × Nat)), (l.map (·.1)).Nodup → nothingLeft l = lt_ zeroL l
  | [], _ => rfl
  | x :: l, h => by
    obtain ⟨h1, h2⟩ := List.nodup_cons.mp h
    unfold nothingLeft
    rw [List.find?_cons]
    by_cases e : x.1 = 0
    · have : (x.1 == 0) = true := by simp [e]
      rw [this]
      show some x.2 = mn (plusO x.2 (zeroL x.1)) (lt_ zeroL l)
      have z : lt_ zeroL l = none := minBy_none fun y hy => by
        have : y.1 ≠ 0 := fun h0 => h1 (List.mem_map.mpr ⟨y, hy, h0.trans e.symm⟩)
        unfold zeroL
        rw [if_neg this]
        rfl
      rw [z, mn_none]
      unfold zeroL
      rw [if_pos e]
      rfl
    · have : (x.1 == 0) = false := by simp [e]
      rw [this]
      show nothingLeft l = mn (plusO x.2 (zeroL x.1)) (lt_ zeroL l)
      rw [nothing_lt l h2]
      unfold zeroL
      rw [if_neg e]
      rfl
/-- **the specification's fewest beads are the fewest, rod by rod** -/
theorem least_min (m : Make) (v : Nat) : leastBeads m v = leastF zeroL m v := by
  unfold leastBeads
  have nd : ∀ (m : Make) (l : List (Nat × Nat)), (l.map (·.1)).Nodup → ((m.foldl (fun (l : List (Nat × Nat)) (r : Rod) => oneUpLeast r l) l).map (·.1)).Nodup := fun m l h => fold_keep (P := fun (z : List (Nat × Nat)) => (z.map (·.1)).Nodup) (fun z r _ => oneUpLeast_nodup r z) m l h
  rw [nothing_lt _ (nd m _ (by simp)), lt_fold]
  show mn (plusO 0 (leastF zeroL m v)) none = _
  rw [mn_none]
  unfold plusO
  cases leastF zeroL m v with
  | none => rfl
  | some a => exact congrArg some (Nat.zero_add a)
end Bf
namespace Bf
open Na
/-! ### the order of pushes -/
theorem below_self : ∀ p : List Nat, below p p = false
  | [] => rfl
  | x :: p => by
    show (decide (x < x) || (x == x && below p p)) = false
    rw [below_self p]
    simp
theorem below_cons {x y : Nat} {p q : List Nat} : below (x :: p) (y :: q) = true ↔ x < y ∨ (x = y ∧ below p q = true) := by
  show (decide (x < y) || (x == y && below p q)) = true ↔ _
  simp
theorem below_trans : ∀ {p q r : List Nat}, below p q = true → below q r = true → below p r = true
  | [], _, _, h, _ => by
    cases h
  | _ :: _, [], _, h, _ => by cases h
  | _ :: _, _ :: _, [], _, h => by cases h
  | x :: p, y :: q, z :: r, h1, h2 => by
    rw [below_cons] at h1 h2 ⊢
    rcases h1 with a | ⟨a, b⟩ <;> rcases h2 with c | ⟨c, d⟩
    · exact .inl (by omega)
    · exact .inl (by omega)
    · exact .inl (by omega)
    · exact .inr ⟨by omega, below_trans b d⟩
theorem below_total : ∀ {p q : List Nat}, p.length = q.length → below p q = true ∨ p = q ∨ below q p = true
  | [], [], _ => .inr (.inl rfl)
  | [], _ :: _, h => by cases h
  | _ :: _, [], h => by cases h
  | x :: p, y :: q, h => by
    rw [below_cons, below_cons]
    have h' : p.length = q.length := Nat.succ.inj h
    rcases Nat.lt_trichotomy x y with a | a | a
    · exact .inl (.inl a)
    · rcases below_total h' with b | b | b
      · exact .inl (.inr ⟨a, b⟩)
      · exact .inr (.inl (by rw [a, b]))
      · exact .inr (.inr (.inr ⟨a.symm, b⟩))
    · exact .inr (.inr (.inl a))
theorem nicer_iff {p q : Push} : nicer p q = true ↔ total p < total q ∨ (total p = total q ∧ below q p = true) := by
  unfold nicer
  simp
theorem nicer_self (p : Push) : nicer p p = false := by
  cases e : nicer p p with
  | false => rfl
  | true =>
    rcases nicer_iff.mp e with h | ⟨_, h⟩
    · omega
    · rw [below_self] at h
      cases h
theorem nicer_trans {p q r : Push} (h1 : nicer p q = true) (h2 : nicer q r = true) : nicer p r = true := by
  rw [nicer_iff] at h1 h2 ⊢
  rcases h1 with a | ⟨a, b⟩ <;> rcases h2 with c | ⟨c, d⟩
  · exact .inl (by omega)
  · exact .inl (by omega)
  · exact .inl (by omega)
  · exact .inr ⟨by omega, below_trans d b⟩
theorem nicer_total {p q : Push} (h : p.length = q.length) : nicer p q = true ∨ p = q ∨ nicer q p = true := by
  rw [nicer_iff, nicer_iff]
  rcases Nat.lt_trichotomy (total p) (total q) with a | a | a
  · exact .inl (.inl a)
  · rcases below_total h with b | b | b
    · exact .inr (.inr (.inr ⟨a.symm, b⟩))
    · exact .inr (.inl b)
    · exact .inl (.inr ⟨a, b⟩)
  · exact .inr (.inr (.inl a))
/-! ### the nicest of some -/
def nicestFrom (a : Push) (l : List Push) : Push := l.foldl (fun q p => if nicer p q = true then p else q) a
theorem nicest_cons (a : Push) (l : List Push) : nicest (a :: l) = some (nicestFrom a l) := by
  have key : ∀ (l : List Push) (a : Push), l.foldl (fun (a : Option Push) (p : Push) => match a with
      | none => some p
      | some q => if nicer p q = true then some p else some q) (some a) = some (nicestFrom a l) := by
    intro l
    induction l with
    | nil => intro a; rfl
    | cons p l ih =>
      intro a
      rw [List.foldl_cons]
      show List.foldl _ (if nicer p a = true then some p else some a) l = some (nicestFrom (if nicer p a = true then p else a) l)
      split
      · exact ih p
      · exact ih a
  exact key l a
theorem nicestFrom_mem : ∀ (l : List Push) (a : Push), nicestFrom a l ∈ a :: l
  | [], a => List.mem_singleton.mpr rfl
  | p :: l, a => by
    show nicestFrom (if nicer p a = true then p else a) l ∈ _
    have := nicestFrom_mem l (if nicer p a = true then p else a)
    rcases List.mem_cons.mp this with h | h
    · rw [h]
      split
      · exact List.mem_cons_of_mem _ (List.mem_cons_self ..)
      · exact List.mem_cons_self ..
    · exact List.mem_cons_of_mem _ (List.mem_cons_of_mem _ h)
theorem nicestFrom_le : ∀ (l : List Push) (a : Push), nicestFrom a l = a ∨ nicer (nicestFrom a l) a = true
| [], a => .inl rfl
| p :: l, a => by
  show nicestFrom (if nicer p a = true then p else a) l = a ∨ nicer (nicestFrom (if nicer p a = true then p else a) l) a = true
  by_cases h : nicer p a = true
  · rw [if_pos h]
    rcases nicestFrom_le l p with z | z
    · rw [z]
      exact .inr h
    · exact .inr (nicer_trans z h)
  · rw [if_neg h]
    exact nicestFrom_le l a
theorem nicestFrom_best : ∀ (l : List Push) (a : Push), ∀ q ∈ a :: l, nicer q (nicestFrom a l) = false
  | [], a, q, hq => by
    obtain rfl := List.mem_singleton.mp hq
    exact nicer_self q
  | p :: l, a, q, hq => by
    show nicer q (nicestFrom (if nicer p a = true then p else a) l) = false
    have ih := nicestFrom_best l (if nicer p a = true then p else a)
    have hb := ih _ (List.mem_cons_self ..)
    rcases List.mem_cons.mp hq with e | e
    · subst e
      by_cases h : nicer p q = true
      · rw [if_pos h] at hb ih ⊢
        cases k : nicer q (nicestFrom p l) with
        | false => rfl
        | true =>
          have := nicer_trans h k
          rw [hb] at this
          cases this
      · rw [if_neg h] at hb ⊢
        exact hb
    · rcases List.mem_cons.mp e with e | e
      · subst e
        by_cases h : nicer q a = true
        · rw [if_pos h] at hb ⊢
          exact hb
        · rw [if_neg h] at hb ih ⊢
          cases k : nicer q (nicestFrom a l) with
          | false => rfl
          | true =>
            have : nicer q a = true := by
              rcases nicestFrom_le l a with z | z
              · rw [z] at k
                exact k
              · exact nicer_trans k z
            exact absurd this h
      · exact ih q (List.mem_cons_of_mem _ e)
/-- **the nicest**: one of them, and none is nicer; of as long ones there's just one such -/
theorem nicest_is {l : List Push} {p : Push} (hl : ∀ q ∈ l, q.length = p.length) (hp : p ∈ l) (hb : ∀ q ∈ l, nicer q p = false) : nicest l = some p := by
  cases l with
  | nil => cases hp
  | cons a l =>
    rw [nicest_cons]
    have h1 := nicestFrom_mem l a
    have h2 := nicestFrom_best l a p hp
    have h3 := hb _ h1
    rcases nicer_total (hl _ h1) with k | k | k
    · rw [h3] at k
      cases k
    · rw [k]
    · rw [h2] at k
      cases k
theorem nicest_some {l : List Push} (h : l ≠ []) : ∃ p, nicest l = some p ∧ p ∈ l ∧ ∀ q ∈ l, nicer q p = false := by
  cases l with
  | nil => exact absurd rfl h
  | cons a l => exact ⟨_, nicest_cons a l, nicestFrom_mem l a, nicestFrom_best l a⟩
theorem form_is {r : Rod} {d : Nat} {p : Push} (hp : p ∈ pushes r.decks) (hw : worthOf r.decks p = d) (hb : ∀ q ∈ pushes r.decks, worthOf r.decks q = d → nicer q p = false) : formOf r d = p := by
  have hl := push_len _ _ hp
  unfold formOf
  rw [nicest_is (p := p) (fun q hq => by
    rw [push_len _ _ (List.mem_filter.mp hq).1, hl]) (List.mem_filter.mpr ⟨hp, by simp [hw]⟩) (fun q hq => by
    obtain ⟨h1, h2⟩ := List.mem_filter.mp hq
    exact hb q h1 (beq_iff_eq.mp h2))]
  rfl
/-- of a rod that's whole each digit has a form -/
theorem form_some {r : Rod} {d : Nat} (h : r.whole = true) (hd : d < r.ratio) : formOf r d ∈ pushes r.decks ∧ worthOf r.decks (formOf r d) = d ∧ ∀ q ∈ pushes r.decks, worthOf r.decks q = d → nicer q (formOf r d) = false := by
  unfold Rod.whole at h
  obtain ⟨p, hp, e⟩ := List.any_eq_true.mp (List.all_eq_true.mp h d (List.mem_range.mpr hd))
  have hne : (pushes r.decks).filter (fun (p : Push) => worthOf r.decks p == d) ≠ [] := fun z => by
    have : p ∈ (pushes r.decks).filter (fun (p : Push) => worthOf r.decks p == d) := List.mem_filter.mpr ⟨hp, e⟩
    rw [z] at this
    cases this
  obtain ⟨f, hf, hm, hb⟩ := nicest_some hne
  have ef : formOf r d = f := by
    unfold formOf
    rw [hf]
    rfl
  rw [ef]
  obtain ⟨h1, h2⟩ := List.mem_filter.mp hm
  exact ⟨h1, beq_iff_eq.mp h2, fun q hq hw => hb q (List.mem_filter.mpr ⟨hq, by simp [hw]⟩)⟩
end Bf
namespace Bf
open Na
/-! ### a rod's decks, those that aren't there among them -/
def dn (g : List Nat) : Nat := if ix g 3 = 0 then 1 else if ix g 5 = 0 then 2 else 3
def D3 (g : List Nat) : List Deck := (decks g).map mk
def pad (n : Nat) (p : Push) : Push := p ++ List.replicate n 0
theorem dn_le (g : List Nat) : dn g ≤ 3 := by
  unfold dn
  split
  · decide
  · split <;> decide
theorem turn_facts {g : List Nat} (h : inTurn g = true) : ix g 1 ≠ 0 ∧ (ix g 5 ≠ 0 → ix g 3 ≠ 0) := by
  unfold inTurn at h
  split at h
  · cases h
  · rename_i c
    simp at h
    exact ⟨c, fun k => by omega⟩
theorem sound_zero {b w : Nat} (h : sound b w = true) (hb : b = 0) : w = 0 := by
  unfold sound at h
  rw [if_pos (.inl hb)] at h
  have := beq_iff_eq.mp h
  omega
/-- the decks that are there come first; behind them none has beads or worth -/
theorem good_decks {g : List Nat} (h : numsSound g = true) : (rodOf g).decks.length = dn g ∧ D3 g = (rodOf g).decks ++ List.replicate (3 - dn g) ⟨0, 0⟩ := by
  obtain ⟨_, _, hs, ht⟩ := nums_facts h
  obtain ⟨h1, h2⟩ := turn_facts ht
  have s3 := sound_zero (hs (ix g 3, ix g 4) (by unfold decks; simp))
  have s5 := sound_zero (hs (ix g 5, ix g 6) (by unfold decks; simp))
  rw [rodOf_decks]
  unfold D3 dn decks
  simp only [List.filter_cons, List.filter_nil, List.map_cons, List.map_nil, bne_iff_ne, ne_eq]
  rw [if_pos h1]
  by_cases c3 : ix g 3 = 0
  · have c5 : ix g 5 = 0 := by
      by_cases c5 : ix g 5 = 0
      · exact c5
      · exact absurd c3 (h2 c5)
    have z4 : ix g 4 = 0 := s3 c3
    have z6 : ix g 6 = 0 := s5 c5
    simp [c3, c5, z4, z6, mk, List.replicate]
  · by_cases c5 : ix g 5 = 0
    · have z6 : ix g 6 = 0 := s5 c5
      simp [c3, c5, z6, mk, List.replicate]
    · simp [c3, c5, mk, List.replicate]
theorem pushes_zero : ∀ n : Nat, pushes (List.replicate n (⟨0, 0⟩ : Deck)) = [List.replicate n 0]
  | 0 => rfl
  | n + 1 => by
    show (List.range 1).flatMap (fun (k : Nat) => (pushes (List.replicate n (⟨0, 0⟩ : Deck))).map fun (p : Push) => k :: p) = _
    rw [pushes_zero n]
    rfl
theorem pushes_pad (n : Nat) : ∀ ds : List Deck, pushes (ds ++ List.replicate n ⟨0, 0⟩) = (pushes ds).map (pad n)
  | [] => pushes_zero n
  | d :: ds => by
    show (List.range (d.beads + 1)).flatMap (fun (k : Nat) => (pushes (ds ++ List.replicate n ⟨0, 0⟩)).map fun (p : Push) => k :: p) = ((List.range (d.beads + 1)).flatMap (fun (k : Nat) => (pushes ds).map fun (p : Push) => k :: p)).map (pad n)
    rw [pushes_pad n ds, List.map_flatMap]
    refine congrArg (fun f => List.flatMap f (List.range (d.beads + 1))) (funext fun k => ?_)
    rw [List.map_map, List.map_map]
    rfl
theorem p3_pushes {g : List Nat} (h : numsSound g = true) : pushes (D3 g) = (pushes (rodOf g).decks).map (pad (3 - dn g)) := by
  rw [(good_decks h).2, pushes_pad]
theorem total_append : ∀ p q : List Nat, total (p ++ q) = total p + total q
  | [], q => (Nat.zero_add _).symm
  | x :: p, q => by
    show x + total (p ++ q) = x + total p + total q
    rw [total_append p q, Nat.add_assoc]
theorem total_zeros : ∀ n : Nat, total (List.replicate n 0) = 0
  | 0 => rfl
  | n + 1 => by
    show 0 + total (List.replicate n 0) = 0
    rw [total_zeros n]
theorem total_pad (n : Nat) (p : Push) : total (pad n p) = total p := by
  unfold pad
  rw [total_append, total_zeros, Nat.add_zero]
theorem worth_zeros : ∀ (n : Nat) (p : Push), worthOf (List.replicate n (⟨0, 0⟩ : Deck)) p = 0
  | 0, _ => rfl
  | n + 1, [] => rfl
  | n + 1, x :: p => by
    show x * 0 + worthOf (List.replicate n ⟨0, 0⟩) p = 0
    rw [worth_zeros n p]
    omega
theorem worth_append : ∀ (l : List Deck) (p : Push) (l' : List Deck) (q : Push), p.length = l.length → worthOf (l ++ l') (p ++ q) = worthOf l p + worthOf l' q
  | [], [], l', q, _ => (Nat.zero_add _).symm
  | [], _ :: _, _, _, h => by cases h
  | _ :: _, [], _, _, h => by cases h
  | d :: l, x :: p, l', q, h => by
    show x * d.worth + worthOf (l ++ l') (p ++ q) = x * d.worth + worthOf l p + worthOf l' q
    rw [worth_append l p l' q (Nat.succ.inj h), Nat.add_assoc]
theorem worth_pad {g : List Nat} (h : numsSound g = true) {p : Push} (hp : p.length = dn g) : worthOf (D3 g) (pad (3 - dn g) p) = worthOf (rodOf g).decks p := by
  obtain ⟨h1, h2⟩ := good_decks h
  rw [h2]
  unfold pad
  rw [worth_append _ _ _ _ (hp.trans h1.symm), worth_zeros, Nat.add_zero]
theorem below_append : ∀ (p q r : List Nat), p.length = q.length → below (p ++ r) (q ++ r) = below p q
  | [], [], r, _ => below_self r
  | [], _ :: _, _, h => by cases h
  | _ :: _, [], _, h => by cases h
  | x :: p, y :: q, r, h => by
    show (decide (x < y) || (x == y && below (p ++ r) (q ++ r))) = (decide (x < y) || (x == y && below p q))
    rw [below_append p q r (Nat.succ.inj h)]
theorem nicer_pad {n : Nat} {p q : Push} (h : p.length = q.length) : nicer (pad n p) (pad n q) = nicer p q := by
  unfold nicer
  rw [total_pad, total_pad]
  unfold pad
  rw [below_append _ _ _ h.symm]
/-- as the answer tells a push: three numbers -/
theorem told_pad {p : Push} (h : p.length ≤ 3) : (List.range 3).map (fun (j : Nat) => p.getD j 0) = pad (3 - p.length) p := by
  match p, h with
  | [], _ => rfl
  | [a], _ => rfl
  | [a, b], _ => rfl
  | [a, b, c], _ => rfl
  | a :: b :: c :: d :: r, h => exact absurd h (by simp)
/-- the nicest of all three decks' pushes of a count, told by three numbers -/
def form3 (g : List Nat) (d : Nat) : Push := pad (3 - dn g) (formOf (rodOf g) d)
theorem form3_is {g : List Nat} (h : numsSound g = true) {d : Nat} {t : Push} (ht : t ∈ pushes (D3 g)) (hw : worthOf (D3 g) t = d) (hb : ∀ q ∈ pushes (D3 g), worthOf (D3 g) q = d → nicer q t = false) : form3 g d = t := by
  rw [p3_pushes h] at ht hb
  obtain ⟨p, hp, rfl⟩ := List.mem_map.mp ht
  have hl : p.length = dn g := (push_len _ _ hp).trans (good_decks h).1
  rw [worth_pad h hl] at hw
  unfold form3
  rw [form_is hp hw fun q hq hq2 => by
    have lq : q.length = dn g := (push_len _ _ hq).trans (good_decks h).1
    have := hb (pad (3 - dn g) q) (List.mem_map.mpr ⟨q, hq, rfl⟩) (by rw [worth_pad h lq]; exact hq2)
    rw [nicer_pad (lq.trans hl.symm)] at this
    exact this]
theorem form3_some {g : List Nat} (h : numsSound g = true) (ha : allPushed g = true) {d : Nat} (hd : d < ix g 0) : form3 g d ∈ pushes (D3 g) ∧ worthOf (D3 g) (form3 g d) = d ∧ ∀ q ∈ pushes (D3 g), worthOf (D3 g) q = d → nicer q (form3 g d) = false := by
  have hw : (rodOf g).whole = true := by
    rw [whole_eq]
    exact ha
  obtain ⟨h1, h2, h3⟩ := form_some hw (by rw [rodOf_ratio]; exact hd)
  have hl : (formOf (rodOf g) d).length = dn g := (push_len _ _ h1).trans (good_decks h).1
  unfold form3
  refine ⟨?_, ?_, fun q hq hq2 => ?_⟩
  · rw [p3_pushes h]
    exact List.mem_map.mpr ⟨_, h1, rfl⟩
  · rw [worth_pad h hl]
    exact h2
  · rw [p3_pushes h] at hq
    obtain ⟨p, hp, rfl⟩ := List.mem_map.mp hq
    have lp : p.length = dn g := (push_len _ _ hp).trans (good_decks h).1
    rw [worth_pad h lp] at hq2
    rw [nicer_pad (lp.trans hl.symm)]
    exact h3 p hp hq2
end Bf
namespace Bf
open Na
/-! ### standings -/
def AllGood (gs : List (List Nat)) : Prop := ∀ g ∈ gs, numsSound g = true
theorem broken_sound {g : List Nat} (h : broken g = 0) : numsSound g = true ∧ worthT g ≤ 255 ∧ allPushed g = true := by
  unfold broken at h
  split at h
  · cases h
  · split at h
    · cases h
    · split at h
      · cases h
      · rename_i a b c
        exact ⟨by simpa using a, by omega, by simpa using c⟩
theorem good_of {l : List Nat} (h : mfault l = []) : AllGood (cuts l) := fun g hg => (broken_sound ((mfault_nil h).2.2 g hg)).1
theorem there_rod {g : List Nat} (h : numsSound g = true) {j : Nat} (hj : j < 3) : (((rodOf g).decks[j]?).map fun (d : Deck) => d.beads).getD 0 = ix g (1 + 2 * j) := by
  obtain ⟨h1, h2⟩ := good_decks h
  have e : ((D3 g)[j]?.map fun (d : Deck) => d.beads).getD 0 = ix g (1 + 2 * j) := by
    match j, hj with
    | 0, _ => rfl
    | 1, _ => rfl
    | 2, _ => rfl
  rw [← e, h2]
  by_cases c : j < (rodOf g).decks.length
  · rw [List.getElem?_append_left c]
  · rw [List.getElem?_append_right (by omega), List.getElem?_eq_none_iff.mpr (by omega : (rodOf g).decks.length ≤ j), List.getElem?_replicate]
    split <;> rfl
theorem there_at {gs : List (List Nat)} (h : AllGood gs) {k : Nat} {g : List Nat} (hk : gs[k / 3]? = some g) : thereAt (gs.map rodOf) k = ix g (1 + 2 * (k % 3)) := by
  unfold thereAt
  rw [List.getElem?_map, hk]
  exact there_rod (h g (List.mem_of_getElem? hk)) (by omega)
/-- too many beads at a place -/
def over (gs : List (List Nat)) (st : List Nat) (k : Nat) : Bool := decide (ix (gs.getD (k / 3) []) (1 + 2 * (k % 3)) < st.getD k 0)
def sfault (gs : List (List Nat)) (st : List Nat) : List Nat := if st.length ≠ 3 * gs.length then [5, st.length] else match (List.range st.length).find? (over gs st) with
  | some k => [5, k]
  | none => []
/-- a standing's rods, each deck that's there -/
def stOf : List (List Nat) → List Nat → Standing
  | [], _ => []
  | g :: gs, st => (List.range (rodOf g).decks.length).map (fun (j : Nat) => st.getD j 0) :: stOf gs (st.drop 3)
theorem find_congr {α : Type} {p q : α → Bool} : ∀ {l : List α}, (∀ x ∈ l, p x = q x) → l.find? p = l.find? q
  | [], _ => rfl
  | x :: l, h => by
    rw [List.find?_cons, List.find?_cons, h x (List.mem_cons_self ..), find_congr fun y hy => h y (List.mem_cons_of_mem _ hy)]
theorem zip_stOf (st : List Nat) : ∀ (gs : List (List Nat)) (i : Nat), ((gs.map rodOf).zipIdx i).map (fun (x : Rod × Nat) => (List.range x.1.decks.length).map fun (j : Nat) => st.getD (3 * x.2 + j) 0) = stOf gs (st.drop (3 * i))
  | [], _ => rfl
  | g :: gs, i => by
    rw [List.map_cons, List.zipIdx_cons, List.map_cons, zip_stOf st gs (i + 1)]
    show _ = (List.range (rodOf g).decks.length).map (fun (j : Nat) => (st.drop (3 * i)).getD j 0) :: stOf gs ((st.drop (3 * i)).drop 3)
    rw [List.drop_drop]
    refine congr (congrArg List.cons (List.map_congr_left fun j _ => ?_)) (by rw [show 3 * (i + 1) = 3 * i + 3 by omega])
    rw [List.getD_eq_getElem?_getD, List.getD_eq_getElem?_getD, List.getElem?_drop]
theorem over_there {gs : List (List Nat)} (h : AllGood gs) {st : List Nat} (hl : st.length = 3 * gs.length) : (List.range st.length).find? (fun (k : Nat) => decide (thereAt (gs.map rodOf) k < st.getD k 0)) = (List.range st.length).find? (over gs st) :=
  find_congr fun k hk => by
    have hk' : k / 3 < gs.length := by
      have := List.mem_range.mp hk
      omega
    unfold over
    rw [there_at h (List.getElem?_eq_getElem hk'), show gs.getD (k / 3) [] = gs[k / 3] by rw [List.getD_eq_getElem?_getD, List.getElem?_eq_getElem hk']; rfl]
theorem standing_bad {gs : List (List Nat)} (h : AllGood gs) {st : List Nat} (hf : sfault gs st ≠ []) : ∃ e, standingOf (gs.map rodOf) st = .error e ∧ sfault gs st = [e.rule, e.place] := by
  unfold sfault at hf ⊢
  unfold standingOf
  rw [List.length_map]
  by_cases hl : st.length ≠ 3 * gs.length
  · rw [if_pos hl, if_pos hl]
    exact ⟨_, rfl, rfl⟩
  · rw [if_neg hl] at hf
    rw [if_neg hl, if_neg hl, over_there h (Decidable.not_not.mp hl)]
    cases e : (List.range st.length).find? (over gs st) with
    | none =>
      rw [e] at hf
      exact absurd rfl hf
    | some k => exact ⟨_, rfl, rfl⟩
theorem standing_ok {gs : List (List Nat)} (h : AllGood gs) {st : List Nat} (hf : sfault gs st = []) : standingOf (gs.map rodOf) st = .ok (stOf gs st) ∧ st.length = 3 * gs.length ∧ ∀ (k : Nat), k < st.length → over gs st k = false := by
  unfold sfault at hf
  unfold standingOf
  rw [List.length_map]
  by_cases hl : st.length ≠ 3 * gs.length
  · rw [if_pos hl] at hf
    cases hf
  · have hl' := Decidable.not_not.mp hl
    rw [if_neg hl] at hf
    rw [if_neg hl, over_there h hl']
    cases e : (List.range st.length).find? (over gs st) with
    | some k =>
      rw [e] at hf
      cases hf
    | none =>
      refine ⟨congrArg Except.ok (zip_stOf st gs 0), hl', fun k hk => ?_⟩
      rw [List.find?_eq_none] at e
      have := e k (List.mem_range.mpr hk)
      simpa using this
/-- the first place with too many beads -/
theorem sfault_at {gs : List (List Nat)} {st : List Nat} (hl : st.length = 3 * gs.length) {k : Nat} (hk : k < st.length) (ho : over gs st k = true) (hb : ∀ j, j < k → over gs st j = false) : sfault gs st = [5, k] := by
  unfold sfault
  rw [if_neg (by simpa using hl)]
  have e : (List.range st.length).find? (over gs st) = some k := by
    rw [List.find?_range_eq_some]
    exact ⟨ho, List.mem_range.mpr hk, fun j hj => by simpa using hb j hj⟩
  rw [e]
theorem sfault_none {gs : List (List Nat)} {st : List Nat} (hl : st.length = 3 * gs.length) (hb : ∀ j, j < st.length → over gs st j = false) : sfault gs st = [] := by
  unfold sfault
  rw [if_neg (by simpa using hl)]
  have e : (List.range st.length).find? (over gs st) = none := by
    rw [List.find?_eq_none]
    intro j hj
    rw [hb j (List.mem_range.mp hj)]
    decide
  rw [e]
theorem sfault_len {gs : List (List Nat)} {st : List Nat} (hl : st.length ≠ 3 * gs.length) : sfault gs st = [5, st.length] := by
  unfold sfault
  rw [if_pos hl]
/-- a rod's count by three numbers -/
def count3 (g : List Nat) (a b c : Nat) : Nat := a * ix g 2 + b * ix g 4 + c * ix g 6
theorem getD_range {st : List Nat} {n : Nat} (j : Nat) : ((List.range n).map (fun (j : Nat) => st.getD j 0)).getD j 0 = if j < n then st.getD j 0 else 0 := by
  rw [List.getD_eq_getElem?_getD, List.getElem?_map]
  by_cases h : j < n
  · rw [List.getElem?_range h, if_pos h]
    rfl
  · rw [List.getElem?_eq_none_iff.mpr (by rw [List.length_range]; omega), if_neg h]
    rfl
/-- the three numbers of a rod that has no more beads pushed than there are -/
theorem pad_three {g : List Nat} (h : numsSound g = true) {st : List Nat} (hb : ∀ j, j < 3 → st.getD j 0 ≤ ix g (1 + 2 * j)) :
    pad (3 - dn g) ((List.range (rodOf g).decks.length).map fun (j : Nat) => st.getD j 0) = [st.getD 0 0, st.getD 1 0, st.getD 2 0] := by
  obtain ⟨_, _, hs, ht⟩ := nums_facts h
  obtain ⟨h1, h2⟩ := turn_facts ht
  have b1 : st.getD 1 0 ≤ ix g 3 := hb 1 (by decide)
  have b2 : st.getD 2 0 ≤ ix g 5 := hb 2 (by decide)
  rw [(good_decks h).1]
  unfold dn
  by_cases c3 : ix g 3 = 0
  · have c5 : ix g 5 = 0 := by
      by_cases c5 : ix g 5 = 0
      · exact c5
      · exact absurd c3 (h2 c5)
    rw [if_pos c3, show st.getD 1 0 = 0 by omega, show st.getD 2 0 = 0 by omega]
    rfl
  · rw [if_neg c3]
    by_cases c5 : ix g 5 = 0
    · rw [if_pos c5, show st.getD 2 0 = 0 by omega]
      rfl
    · rw [if_neg c5]
      rfl
theorem worth_three (g : List Nat) (a b c : Nat) : worthOf (D3 g) [a, b, c] = count3 g a b c := by
  show a * ix g 2 + (b * ix g 4 + (c * ix g 6 + 0)) = _
  unfold count3
  omega
theorem mem_p3 {g : List Nat} {q : Push} : q ∈ pushes (D3 g) ↔ ∃ a b c, a ≤ ix g 1 ∧ b ≤ ix g 3 ∧ c ≤ ix g 5 ∧ q = [a, b, c] := by
  show q ∈ pushes [(⟨ix g 1, ix g 2⟩ : Deck), ⟨ix g 3, ix g 4⟩, ⟨ix g 5, ix g 6⟩] ↔ _
  rw [mem_pushes_cons]
  constructor
  · rintro ⟨a, p, ha, hp, rfl⟩
    obtain ⟨b, p2, hb, hp2, rfl⟩ := mem_pushes_cons.mp hp
    obtain ⟨c, p3, hc, hp3, rfl⟩ := mem_pushes_cons.mp hp2
    obtain rfl := List.mem_singleton.mp hp3
    exact ⟨a, b, c, ha, hb, hc, rfl⟩
  · rintro ⟨a, b, c, ha, hb, hc, rfl⟩
    exact ⟨a, [b, c], ha, mem_pushes_cons.mpr ⟨b, [c], hb, mem_pushes_cons.mpr ⟨c, [], hc, List.mem_singleton.mpr rfl, rfl⟩, rfl⟩, rfl⟩
/-- the worth of a rod's pushed beads, by the list's own numbers -/
theorem worth_row {g : List Nat} (h : numsSound g = true) {st : List Nat} (hb : ∀ j, j < 3 → st.getD j 0 ≤ ix g (1 + 2 * j)) :
    worthOf (rodOf g).decks ((List.range (rodOf g).decks.length).map fun (j : Nat) => st.getD j 0) = count3 g (st.getD 0 0) (st.getD 1 0) (st.getD 2 0) := by
  have hl : ((List.range (rodOf g).decks.length).map fun (j : Nat) => st.getD j 0).length = dn g := by
    rw [List.length_map, List.length_range]
    exact (good_decks h).1
  rw [← worth_pad h hl, pad_three h hb, worth_three]
/-! values -/
def rawVal : List (List Nat) → List Nat → Nat
  | [], _ => 0
  | g :: gs, st => count3 g (st.getD 0 0) (st.getD 1 0) (st.getD 2 0) + ix g 0 * rawVal gs (st.drop 3)
/-- no more beads pushed than there are, rod by rod -/
def Fits : List (List Nat) → List Nat → Prop
  | [], _ => True
  | g :: gs, st => (∀ j, j < 3 → st.getD j 0 ≤ ix g (1 + 2 * j)) ∧ Fits gs (st.drop 3)
theorem fits_of : ∀ (gs : List (List Nat)) (st : List Nat), (∀ (k : Nat), k < 3 * gs.length → over gs st k = false) → Fits gs st
  | [], _, _ => trivial
  | g :: gs, st, h => by
    refine ⟨fun j hj => ?_, fits_of gs (st.drop 3) fun k hk => ?_⟩
    · have := h j (by rw [List.length_cons]; omega)
      unfold over at this
      rw [show j / 3 = 0 by omega, show j % 3 = j by omega] at this
      have := of_decide_eq_false this
      exact Nat.le_of_not_lt this
    · have := h (k + 3) (by rw [List.length_cons]; omega)
      unfold over at this ⊢
      rw [show (k + 3) / 3 = k / 3 + 1 by omega, show (k + 3) % 3 = k % 3 by omega] at this
      rw [show (st.drop 3).getD k 0 = st.getD (k + 3) 0 by rw [List.getD_eq_getElem?_getD, List.getElem?_drop, List.getD_eq_getElem?_getD, Nat.add_comm]]
      exact this
theorem value_raw : ∀ (gs : List (List Nat)) (st : List Nat), AllGood gs → Fits gs st → value (gs.map rodOf) (stOf gs st) = rawVal gs st
  | [], _, _, _ => rfl
  | g :: gs, st, h, hf => by
    show worthOf (rodOf g).decks ((List.range (rodOf g).decks.length).map fun (j : Nat) => st.getD j 0) + (rodOf g).ratio * value (gs.map rodOf) (stOf gs (st.drop 3)) = _
    rw [worth_row (h g (List.mem_cons_self ..)) hf.1, value_raw gs (st.drop 3) (fun x hx => h x (List.mem_cons_of_mem _ hx)) hf.2]
    rfl
end Bf
namespace Bf
open Na
def refusal (f : List Nat) : List Int := -5 :: f.map (fun n : Nat => (n : Int))
def nums (l : List Nat) : List Int := 0 :: l.map (fun n : Nat => (n : Int))
/-- the answer of a call on a make -/
def onMake (l : List Nat) (f : List (List Nat) → List Int) : List Int := if mfault l = [] then f (cuts l) else refusal (mfault l)
theorem ofMake_eq {l : List Nat} {F : Make → Bd.Answer} {f : List (List Nat) → List Int} (h : mfault l = [] → BdNeutral.told (F ((cuts l).map rodOf)) = f (cuts l)) : BdNeutral.told (Bd.ofMake l F) = onMake l f := by
  unfold onMake Bd.ofMake
  by_cases e : mfault l = []
  · rw [if_pos e, (mfault_nil e).2.1]
    exact h e
  · obtain ⟨x, h1, h2⟩ := makeOf_err e
    rw [if_neg e, h1, h2]
    rfl
def onStanding (l st : List Nat) (f : List (List Nat) → List Nat → List Int) : List Int := onMake l fun gs => if sfault gs st = [] then f gs st else refusal (sfault gs st)
theorem ofStanding_eq {l st : List Nat} {F : Make → Standing → Bd.Answer} {f : List (List Nat) → List Nat → List Int} (h : mfault l = [] → sfault (cuts l) st = [] → BdNeutral.told (F ((cuts l).map rodOf) (stOf (cuts l) st)) = f (cuts l) st) :
    BdNeutral.told (Bd.ofStanding l st F) = onStanding l st f := by
  refine ofMake_eq fun hm => ?_
  by_cases e : sfault (cuts l) st = []
  · rw [if_pos e, (standing_ok (good_of hm) e).1]
    exact h hm e
  · obtain ⟨x, h1, h2⟩ := standing_bad (good_of hm) e
    rw [if_neg e, h1, h2]
    rfl
theorem told_nums (l : List Nat) : BdNeutral.told (.nums l) = nums l := rfl
theorem span_prod (gs : List (List Nat)) : Na.span (gs.map rodOf) = prodR gs := by
  unfold prodR
  rw [prod_span, Nat.one_mul]
/-! ### value -/
theorem fits_ok {gs : List (List Nat)} (h : AllGood gs) {st : List Nat} (hf : sfault gs st = []) : Fits gs st := by
  obtain ⟨_, h2, h3⟩ := standing_ok h hf
  exact fits_of gs st fun k hk => h3 k (by omega)
theorem value_eq (ns ss : List Int) : PyYqacaa.value ns ss = onStanding (ns.map Int.toNat) (ss.map Int.toNat) fun gs st => nums [rawVal gs st] := by
  show BdNeutral.told (Bd.ofStanding (ns.map Int.toNat) (ss.map Int.toNat) fun m s => .nums [Na.value m s]) = _
  exact ofStanding_eq fun hm hs => by rw [value_raw _ _ (good_of hm) (fits_ok (good_of hm) hs), told_nums]
/-! ### digits -/
def digs : List (List Nat) → Nat → List Nat
  | [], _ => []
  | g :: gs, v => v % ix g 0 :: digs gs (v / ix g 0)
theorem digs_eq : ∀ (gs : List (List Nat)) (v : Nat), Na.digits (gs.map rodOf) v = digs gs v
  | [], _ => rfl
  | g :: gs, v => by
    show v % ix g 0 :: Na.digits (gs.map rodOf) (v / ix g 0) = _
    rw [digs_eq gs]
    rfl
def below4 (gs : List (List Nat)) (v : Nat) (f : List Int) : List Int := if v < prodR gs then f else [-4]
theorem digits_eq (v : Int) (ns : List Int) : PyYqacaa.digits v ns = onMake (ns.map Int.toNat) fun gs => below4 gs v.toNat (nums (digs gs v.toNat)) := by
  show BdNeutral.told (Bd.ofMake (ns.map Int.toNat) fun m => if v.toNat < Na.span m then .nums (Na.digits m v.toNat) else .refused 4) = _
  refine ofMake_eq fun hm => ?_
  rw [span_prod, digs_eq]
  unfold below4
  split <;> rfl
/-! ### show -/
def shown3 : List (List Nat) → Nat → List Nat
  | [], _ => []
  | g :: gs, v => form3 g (v % ix g 0) ++ shown3 gs (v / ix g 0)
def AllFit (gs : List (List Nat)) : Prop := ∀ g ∈ gs, broken g = 0
theorem fit_of {l : List Nat} (h : mfault l = []) : AllFit (cuts l) := (mfault_nil h).2.2
theorem form_len {g : List Nat} (h : broken g = 0) {d : Nat} (hd : d < ix g 0) : (formOf (rodOf g) d).length = dn g := by
  obtain ⟨h1, _, h3⟩ := broken_sound h
  have hw : (rodOf g).whole = true := by
    rw [whole_eq]
    exact h3
  exact (push_len _ _ (form_some hw (by rw [rodOf_ratio]; exact hd)).1).trans (good_decks h1).1
theorem ratio_pos {g : List Nat} (h : broken g = 0) : 0 < ix g 0 := by
  have := (nums_facts (broken_sound h).1).1
  omega
theorem show_raw : ∀ (gs : List (List Nat)) (v : Nat), AllFit gs → standingNumbers (Na.shown (gs.map rodOf) v) = shown3 gs v
  | [], _, _ => rfl
  | g :: gs, v, h => by
    have hg := h g (List.mem_cons_self ..)
    show standingNumbers (formOf (rodOf g) (v % ix g 0) :: Na.shown (gs.map rodOf) (v / ix g 0)) = _
    show (List.range 3).map (fun (j : Nat) => (formOf (rodOf g) (v % ix g 0)).getD j 0) ++ standingNumbers (Na.shown (gs.map rodOf) (v / ix g 0)) = form3 g (v % ix g 0) ++ shown3 gs (v / ix g 0)
    have hl := form_len hg (Nat.mod_lt v (ratio_pos hg))
    rw [told_pad (by rw [hl]; exact dn_le g), hl, show_raw gs _ fun x hx => h x (List.mem_cons_of_mem _ hx)]
    rfl
theorem show_eq (v : Int) (ns : List Int) : PyYqacaa.show_ v ns = onMake (ns.map Int.toNat) fun gs => below4 gs v.toNat (nums (shown3 gs v.toNat)) := by
  show BdNeutral.told (Bd.ofMake (ns.map Int.toNat) fun m => if v.toNat < Na.span m then .nums (standingNumbers (Na.shown m v.toNat)) else .refused 4) = _
  refine ofMake_eq fun hm => ?_
  rw [span_prod, show_raw _ _ (fit_of hm)]
  unfold below4
  split <;> rfl
/-! ### formed -/
def three (st : List Nat) : Push := [st.getD 0 0, st.getD 1 0, st.getD 2 0]
def cnt3 (g st : List Nat) : Nat := count3 g (st.getD 0 0) (st.getD 1 0) (st.getD 2 0)
def inForm3 : List (List Nat) → List Nat → Bool
  | [], _ => true
  | g :: gs, st => (decide (cnt3 g st < ix g 0) && decide (three st = form3 g (cnt3 g st))) && inForm3 gs (st.drop 3)
theorem pad_inj {n : Nat} {p q : Push} (h : p.length = q.length) (e : pad n p = pad n q) : p = q := (List.append_inj e h).1
theorem formed_row {g : List Nat} (hb : broken g = 0) {st : List Nat} (hf : ∀ j, j < 3 → st.getD j 0 ≤ ix g (1 + 2 * j)) :
    (decide (worthOf (rodOf g).decks ((List.range (rodOf g).decks.length).map fun (j : Nat) => st.getD j 0) < (rodOf g).ratio) && ((List.range (rodOf g).decks.length).map fun (j : Nat) => st.getD j 0) == formOf (rodOf g) (worthOf (rodOf g).decks ((List.range (rodOf g).decks.length).map fun (j : Nat) => st.getD j 0))) = (decide (cnt3 g st < ix g 0) && decide (three st = form3 g (cnt3 g st))) := by
  have hs := (broken_sound hb).1
  rw [worth_row hs hf, rodOf_ratio]
  show (decide (cnt3 g st < ix g 0) && _) = _
  by_cases hd : cnt3 g st < ix g 0
  · rw [decide_eq_true hd, Bool.true_and, Bool.true_and]
    have hl : ((List.range (rodOf g).decks.length).map fun (j : Nat) => st.getD j 0).length = dn g := by
      rw [List.length_map, List.length_range]
      exact (good_decks hs).1
    have e3 : three st = pad (3 - dn g) ((List.range (rodOf g).decks.length).map fun (j : Nat) => st.getD j 0) := (pad_three hs hf).symm
    rw [Bool.eq_iff_iff, beq_iff_eq, decide_eq_true_iff, e3]
    unfold form3
    constructor
    · intro e
      exact congrArg (pad (3 - dn g)) e
    · intro e
      exact pad_inj (hl.trans (form_len hb hd).symm) e
  · rw [decide_eq_false hd, Bool.false_and, Bool.false_and]
theorem stOf_len : ∀ (gs : List (List Nat)) (st : List Nat), (stOf gs st).length = gs.length
  | [], _ => rfl
  | g :: gs, st => congrArg (· + 1) (stOf_len gs (st.drop 3))
theorem formed_raw : ∀ (gs : List (List Nat)) (st : List Nat), AllFit gs → Fits gs st → (List.zip (gs.map rodOf) (stOf gs st)).all (fun (x : Rod × Push) => decide (worthOf x.1.decks x.2 < x.1.ratio) && x.2 == formOf x.1 (worthOf x.1.decks x.2)) = inForm3 gs st
  | [], _, _, _ => rfl
  | g :: gs, st, h, hf => by
    show ((decide (worthOf (rodOf g).decks ((List.range (rodOf g).decks.length).map fun (j : Nat) => st.getD j 0) < (rodOf g).ratio) && ((List.range (rodOf g).decks.length).map fun (j : Nat) => st.getD j 0) == formOf (rodOf g) (worthOf (rodOf g).decks ((List.range (rodOf g).decks.length).map fun (j : Nat) => st.getD j 0))) && (List.zip (gs.map rodOf) (stOf gs (st.drop 3))).all _) = _
    rw [formed_row (h g (List.mem_cons_self ..)) hf.1, formed_raw gs (st.drop 3) (fun x hx => h x (List.mem_cons_of_mem _ hx)) hf.2]
    rfl
theorem formed_eq (ns ss : List Int) : PyYqacaa.formed ns ss = onStanding (ns.map Int.toNat) (ss.map Int.toNat) fun gs st => [if inForm3 gs st = true then 1 else 0] := by
  show BdNeutral.told (Bd.ofStanding (ns.map Int.toNat) (ss.map Int.toNat) fun m s => .number (if Na.formed m s = true then 1 else 0)) = _
  refine ofStanding_eq fun hm hs => ?_
  have e : Na.formed ((cuts (ns.map Int.toNat)).map rodOf) (stOf (cuts (ns.map Int.toNat)) (ss.map Int.toNat)) = inForm3 (cuts (ns.map Int.toNat)) (ss.map Int.toNat) := by
    unfold Na.formed
    rw [stOf_len, List.length_map, beq_self_eq_true, Bool.true_and]
    exact formed_raw _ _ (fit_of hm) (fits_ok (good_of hm) hs)
  rw [e]
  split <;> rfl
/-! ### ways -/
theorem waysCall_eq (v : Int) (ns : List Int) : PyYqacaa.ways v ns = onMake (ns.map Int.toNat) fun gs => nums [cntF isZero (gs.map rodOf) v.toNat] := by
  show BdNeutral.told (Bd.ofMake (ns.map Int.toNat) fun m => .nums [Na.ways m v.toNat]) = _
  exact ofMake_eq fun hm => by rw [ways_cnt, told_nums]
/-- a rod more, by all three decks' pushes -/
def up3 (g : List Nat) (f : Nat → Nat) (u : Nat) : Nat := sumBy (fun p => above (rodOf g) f u (worthOf (D3 g) p)) (pushes (D3 g))
def cnt3F (f : Nat → Nat) : List (List Nat) → Nat → Nat
  | [], u => f u
  | g :: gs, u => up3 g (cnt3F f gs) u
theorem up3_eq {g : List Nat} (h : numsSound g = true) (f : Nat → Nat) (u : Nat) : upF (rodOf g) f u = up3 g f u := by
  unfold upF up3
  rw [p3_pushes h, sumBy_map]
  refine sumBy_congr fun p hp => ?_
  rw [worth_pad h ((push_len _ _ hp).trans (good_decks h).1)]
theorem cnt3F_eq (f : Nat → Nat) : ∀ (gs : List (List Nat)), AllGood gs → cntF f (gs.map rodOf) = cnt3F f gs
  | [], _ => rfl
  | g :: gs, h => by
    funext u
    show upF (rodOf g) (cntF f (gs.map rodOf)) u = up3 g (cnt3F f gs) u
    rw [cnt3F_eq f gs fun x hx => h x (List.mem_cons_of_mem _ hx), up3_eq (h g (List.mem_cons_self ..))]
end Bf
namespace Bf
open Na
theorem AllGood.take {gs : List (List Nat)} (h : AllGood gs) (i : Nat) : AllGood (gs.take i) := fun g hg => h g (List.mem_of_mem_take hg)
theorem ways_raw {gs : List (List Nat)} (h : AllGood gs) (v : Nat) : ways (gs.map rodOf) v = cnt3F isZero gs v := by
  rw [ways_cnt, cnt3F_eq _ _ h]
theorem ways_take {gs : List (List Nat)} (h : AllGood gs) (i v : Nat) : ways ((gs.map rodOf).take i) v = cnt3F isZero (gs.take i) v := by
  rw [← List.map_take, ways_raw (h.take i)]
theorem place_raw (gs : List (List Nat)) (i : Nat) : place (gs.map rodOf) i = prodR (gs.take i) := by
  unfold place
  rw [← List.map_take, span_prod]
theorem ways_eq3 (v : Int) (ns : List Int) : PyYqacaa.ways v ns = onMake (ns.map Int.toNat) fun gs => nums [cnt3F isZero gs v.toNat] := by
  show BdNeutral.told (Bd.ofMake (ns.map Int.toNat) fun m => .nums [Na.ways m v.toNat]) = _
  exact ofMake_eq fun hm => by rw [ways_raw (good_of hm), told_nums]
/-! ### nth -/
/-- f: in how many ways the rods to the right stand for what's left; q: the rod's place -/
def pick3 (f : Nat → Nat) (q : Nat) (g : List Nat) (v : Nat) : List Push → Nat → Option (Push × Nat)
  | [], _ => none
  | p :: r, k => if v < worthOf (D3 g) p * q then pick3 f q g v r k else if k < f (v - worthOf (D3 g) p * q) then some (p, k) else pick3 f q g v r (k - f (v - worthOf (D3 g) p * q))
def nth3 (gs : List (List Nat)) : Nat → Nat → Nat → Option (List Nat)
  | 0, v, k => if v = 0 ∧ k = 0 then some [] else none
  | i + 1, v, k => match gs[i]? with
    | none => none
    | some g => match pick3 (cnt3F isZero (gs.take i)) (prodR (gs.take i)) g v (pushes (D3 g)) k with
      | none => none
      | some (p, j) => (nth3 gs i (v - worthOf (D3 g) p * prodR (gs.take i)) j).map fun s => s ++ p
theorem pick_raw {gs : List (List Nat)} (h : AllGood gs) {g : List Nat} (hg : numsSound g = true) (i v : Nat) : ∀ (l : List Push) (k : Nat), (∀ p ∈ l, p.length = dn g) →
    pick3 (cnt3F isZero (gs.take i)) (prodR (gs.take i)) g v (l.map (pad (3 - dn g))) k = (pick ((gs.map rodOf).take i) (place (gs.map rodOf) i) (rodOf g).decks v l k).map fun x => (pad (3 - dn g) x.1, x.2)
  | [], _, _ => rfl
  | p :: l, k, hl => by
    have hp := hl p (List.mem_cons_self ..)
    have ih := fun k => pick_raw h hg i v l k fun q hq => hl q (List.mem_cons_of_mem _ hq)
    show (if v < worthOf (D3 g) (pad (3 - dn g) p) * prodR (gs.take i) then _ else _) = Option.map _ (if v < worthOf (rodOf g).decks p * place (gs.map rodOf) i then _ else _)
    rw [worth_pad hg hp, place_raw]
    split
    · rw [← place_raw]
      rw [place_raw]
      have := ih k
      rw [place_raw] at this
      exact this
    · show (if k < cnt3F isZero (gs.take i) (v - worthOf (rodOf g).decks p * prodR (gs.take i)) then _ else _) = Option.map _ (if k < ways ((gs.map rodOf).take i) (v - worthOf (rodOf g).decks p * prodR (gs.take i)) then _ else _)
      rw [ways_take h]
      split
      · rfl
      · have := ih (k - cnt3F isZero (gs.take i) (v - worthOf (rodOf g).decks p * prodR (gs.take i)))
        rw [place_raw] at this
        exact this
theorem pick_mem {rest : Make} {q : Nat} {l : List Deck} {v : Nat} {p : Push} {j : Nat} : ∀ {ps : List Push} {k : Nat}, pick rest q l v ps k = some (p, j) → p ∈ ps
  | [], _, h => by cases h
  | x :: ps, k, h => by
    have h' : (if v < worthOf l x * q then pick rest q l v ps k else if k < ways rest (v - worthOf l x * q) then some (x, k) else pick rest q l v ps (k - ways rest (v - worthOf l x * q))) = some (p, j) := h
    split at h'
    · exact List.mem_cons_of_mem _ (pick_mem h')
    · split at h'
      · have e := Option.some.inj h'
        rw [(Prod.mk.inj e).1]
        exact List.mem_cons_self ..
      · exact List.mem_cons_of_mem _ (pick_mem h')
theorem numbers_snoc (s : Standing) (p : Push) : standingNumbers (s ++ [p]) = standingNumbers s ++ (List.range 3).map (fun (j : Nat) => p.getD j 0) := by
  unfold standingNumbers
  rw [List.flatMap_append]
  simp
theorem nth_raw {gs : List (List Nat)} (h : AllGood gs) : ∀ (i v k : Nat), (nthWay (gs.map rodOf) i v k).map standingNumbers = nth3 gs i v k
  | 0, v, k => by
    show Option.map standingNumbers (if v = 0 ∧ k = 0 then some [] else none) = if v = 0 ∧ k = 0 then some [] else none
    split <;> rfl
  | i + 1, v, k => by
    show Option.map standingNumbers (match (gs.map rodOf)[i]? with
      | none => none
      | some r => match pick ((gs.map rodOf).take i) (place (gs.map rodOf) i) r.decks v (pushes r.decks) k with
        | none => none
        | some (p, j) => (nthWay (gs.map rodOf) i (v - worthOf r.decks p * place (gs.map rodOf) i) j).map fun (s : Standing) => s ++ [p]) = _
    rw [List.getElem?_map]
    unfold nth3
    cases e : gs[i]? with
    | none => rfl
    | some g =>
      have hg := h g (List.mem_of_getElem? e)
      have hl : ∀ p ∈ pushes (rodOf g).decks, p.length = dn g := fun p hp => (push_len _ _ hp).trans (good_decks hg).1
      show Option.map standingNumbers (match pick ((gs.map rodOf).take i) (place (gs.map rodOf) i) (rodOf g).decks v (pushes (rodOf g).decks) k with
        | none => none
        | some (p, j) => (nthWay (gs.map rodOf) i (v - worthOf (rodOf g).decks p * place (gs.map rodOf) i) j).map fun (s : Standing) => s ++ [p]) = (match pick3 (cnt3F isZero (gs.take i)) (prodR (gs.take i)) g v (pushes (D3 g)) k with
        | none => none
        | some (p, j) => (nth3 gs i (v - worthOf (D3 g) p * prodR (gs.take i)) j).map fun s => s ++ p)
      rw [p3_pushes hg, pick_raw h hg i v _ k hl]
      cases e2 : pick ((gs.map rodOf).take i) (place (gs.map rodOf) i) (rodOf g).decks v (pushes (rodOf g).decks) k with
      | none => rfl
      | some x =>
        obtain ⟨p, j⟩ := x
        have lp := hl p (pick_mem e2)
        show Option.map standingNumbers ((nthWay (gs.map rodOf) i (v - worthOf (rodOf g).decks p * place (gs.map rodOf) i) j).map fun (s : Standing) => s ++ [p]) = (nth3 gs i (v - worthOf (D3 g) (pad (3 - dn g) p) * prodR (gs.take i)) j).map fun s => s ++ pad (3 - dn g) p
        rw [worth_pad hg lp, place_raw, ← nth_raw h i]
        cases nthWay (gs.map rodOf) i (v - worthOf (rodOf g).decks p * prodR (gs.take i)) j with
        | none => rfl
        | some s =>
          show some (standingNumbers (s ++ [p])) = some (standingNumbers s ++ pad (3 - dn g) p)
          rw [numbers_snoc, told_pad (by rw [lp]; exact dn_le g), lp]
def orTwo (x : Option (List Nat)) : List Int := match x with
  | some s => nums s
  | none => [-2]
theorem told_orNone (x : Option Standing) : BdNeutral.told (Bd.orNone x) = orTwo (x.map standingNumbers) := by
  cases x <;> rfl
theorem nth_eq (v k : Int) (ns : List Int) : PyYqacaa.nth v k ns = onMake (ns.map Int.toNat) fun gs => orTwo (nth3 gs gs.length v.toNat k.toNat) := by
  show BdNeutral.told (Bd.ofMake (ns.map Int.toNat) fun m => Bd.orNone (nthWay m m.length v.toNat k.toNat)) = _
  refine ofMake_eq fun hm => ?_
  rw [told_orNone, List.length_map, nth_raw (good_of hm)]
/-! ### rank -/
def before3 (f : Nat → Nat) (q : Nat) (g : List Nat) (v : Nat) (t : Push) : Nat := sumBy (fun x => if v < worthOf (D3 g) x * q then 0 else f (v - worthOf (D3 g) x * q)) ((pushes (D3 g)).filter fun x => below x t)
def rank3 (gs : List (List Nat)) (st : List Nat) : Nat → Nat → Nat
  | 0, _ => 0
  | i + 1, v => match gs[i]? with
    | some g => before3 (cnt3F isZero (gs.take i)) (prodR (gs.take i)) g v (three (st.drop (3 * i))) + rank3 gs st i (v - worthOf (D3 g) (three (st.drop (3 * i))) * prodR (gs.take i))
    | none => 0
theorem stOf_at : ∀ (gs : List (List Nat)) (st : List Nat) (i : Nat) (g : List Nat), gs[i]? = some g → (stOf gs st)[i]? = some ((List.range (rodOf g).decks.length).map fun (j : Nat) => (st.drop (3 * i)).getD j 0)
  | [], _, _, _, h => by simp at h
  | x :: gs, st, 0, g, h => by
    obtain rfl := Option.some.inj h
    rfl
  | x :: gs, st, i + 1, g, h => by
    have := stOf_at gs (st.drop 3) i g h
    rw [List.drop_drop, show 3 + 3 * i = 3 * (i + 1) by omega] at this
    exact this
theorem fits_at : ∀ (gs : List (List Nat)) (st : List Nat) (i : Nat) (g : List Nat), Fits gs st → gs[i]? = some g → ∀ j, j < 3 → (st.drop (3 * i)).getD j 0 ≤ ix g (1 + 2 * j)
  | [], _, _, _, _, h => by simp at h
  | x :: gs, st, 0, g, hf, h => by
    obtain rfl := Option.some.inj h
    exact hf.1
  | x :: gs, st, i + 1, g, hf, h => by
    have := fits_at gs (st.drop 3) i g hf.2 h
    rw [List.drop_drop, show 3 + 3 * i = 3 * (i + 1) by omega] at this
    exact this
theorem rank_raw {gs : List (List Nat)} (h : AllGood gs) {st : List Nat} (hf : Fits gs st) : ∀ (i v : Nat), i ≤ gs.length → rankOf (gs.map rodOf) (stOf gs st) i v = rank3 gs st i v
  | 0, _, _ => rfl
  | i + 1, v, hi => by
    obtain ⟨g, e⟩ : ∃ g, gs[i]? = some g := ⟨gs[i], List.getElem?_eq_getElem (by omega)⟩
    have hg := h g (List.mem_of_getElem? e)
    have hb := fits_at gs st i g hf e
    have hl : ∀ p ∈ pushes (rodOf g).decks, p.length = dn g := fun p hp => (push_len _ _ hp).trans (good_decks hg).1
    have lr : ((List.range (rodOf g).decks.length).map fun (j : Nat) => (st.drop (3 * i)).getD j 0).length = dn g := by
      rw [List.length_map, List.length_range]
      exact (good_decks hg).1
    show (match (gs.map rodOf)[i]?, (stOf gs st)[i]? with
      | some r, some p => waysBefore ((gs.map rodOf).take i) (place (gs.map rodOf) i) r.decks v p + rankOf (gs.map rodOf) (stOf gs st) i (v - worthOf r.decks p * place (gs.map rodOf) i)
      | _, _ => 0) = (match gs[i]? with
    | some g => before3 (cnt3F isZero (gs.take i)) (prodR (gs.take i)) g v (three (st.drop (3 * i))) + rank3 gs st i (v - worthOf (D3 g) (three (st.drop (3 * i))) * prodR (gs.take i))
    | none => 0)
    rw [List.getElem?_map, e, stOf_at gs st i g e]
    show waysBefore ((gs.map rodOf).take i) (place (gs.map rodOf) i) (rodOf g).decks v ((List.range (rodOf g).decks.length).map fun (j : Nat) => (st.drop (3 * i)).getD j 0) + rankOf (gs.map rodOf) (stOf gs st) i (v - worthOf (rodOf g).decks ((List.range (rodOf g).decks.length).map fun (j : Nat) => (st.drop (3 * i)).getD j 0) * place (gs.map rodOf) i) = before3 (cnt3F isZero (gs.take i)) (prodR (gs.take i)) g v (three (st.drop (3 * i))) + rank3 gs st i (v - worthOf (D3 g) (three (st.drop (3 * i))) * prodR (gs.take i))
    have e3 : three (st.drop (3 * i)) = pad (3 - dn g) ((List.range (rodOf g).decks.length).map fun (j : Nat) => (st.drop (3 * i)).getD j 0) := (pad_three hg hb).symm
    rw [rank_raw h hf i _ (by omega), place_raw, e3, worth_pad hg lr]
    refine congrArg (· + _) ?_
    unfold waysBefore before3
    rw [total_map, p3_pushes hg, List.filter_map, sumBy_map]
    have ef : (pushes (rodOf g).decks).filter ((fun x => below x (pad (3 - dn g) ((List.range (rodOf g).decks.length).map fun (j : Nat) => (st.drop (3 * i)).getD j 0))) ∘ pad (3 - dn g)) = (pushes (rodOf g).decks).filter fun (x : Push) => below x ((List.range (rodOf g).decks.length).map fun (j : Nat) => (st.drop (3 * i)).getD j 0) :=
      List.filter_congr fun x hx => below_append _ _ _ ((hl x hx).trans lr.symm)
    rw [ef]
    refine sumBy_congr fun x hx => ?_
    rw [worth_pad hg (hl x (List.mem_filter.mp hx).1), ways_take h]
theorem rank_eq (ns ss : List Int) : PyYqacaa.rank ns ss = onStanding (ns.map Int.toNat) (ss.map Int.toNat) fun gs st => nums [rank3 gs st gs.length (rawVal gs st)] := by
  show BdNeutral.told (Bd.ofStanding (ns.map Int.toNat) (ss.map Int.toNat) fun m s => .nums [rankOf m s m.length (Na.value m s)]) = _
  refine ofStanding_eq fun hm hs => ?_
  rw [value_raw _ _ (good_of hm) (fits_ok (good_of hm) hs), List.length_map, rank_raw (good_of hm) (fits_ok (good_of hm) hs) _ _ (Nat.le_refl _), told_nums]
/-! ### fewest -/
def upL3 (g : List Nat) (f : Nat → Option Nat) (u : Nat) : Option Nat := minBy (fun p => plusO (total p) (aboveL (rodOf g) f u (worthOf (D3 g) p))) (pushes (D3 g))
def least3 (f : Nat → Option Nat) : List (List Nat) → Nat → Option Nat
  | [], u => f u
  | g :: gs, u => upL3 g (least3 f gs) u
theorem minBy_map {α β : Type} (f : β → Option Nat) (g : α → β) : ∀ l : List α, minBy f (l.map g) = minBy (fun x => f (g x)) l
  | [] => rfl
  | x :: l => congrArg (mn (f (g x))) (minBy_map f g l)
theorem upL3_eq {g : List Nat} (h : numsSound g = true) (f : Nat → Option Nat) (u : Nat) : upL (rodOf g) f u = upL3 g f u := by
  unfold upL upL3
  rw [p3_pushes h, minBy_map]
  refine minBy_congr fun p hp => ?_
  rw [worth_pad h ((push_len _ _ hp).trans (good_decks h).1), total_pad]
theorem least3_eq (f : Nat → Option Nat) : ∀ (gs : List (List Nat)), AllGood gs → leastF f (gs.map rodOf) = least3 f gs
  | [], _ => rfl
  | g :: gs, h => by
    funext u
    show upL (rodOf g) (leastF f (gs.map rodOf)) u = upL3 g (least3 f gs) u
    rw [least3_eq f gs fun x hx => h x (List.mem_cons_of_mem _ hx), upL3_eq (h g (List.mem_cons_self ..))]
theorem least_raw {gs : List (List Nat)} (h : AllGood gs) (v : Nat) : leastBeads (gs.map rodOf) v = least3 zeroL gs v := by
  rw [least_min, least3_eq _ _ h]
def fitting3 (f : Nat → Option Nat) (q : Nat) (g : List Nat) (v b : Nat) (p : Push) : Bool := decide (worthOf (D3 g) p * q ≤ v) && decide (plusO (total p) (f (v - worthOf (D3 g) p * q)) = some b)
def first3 (gs : List (List Nat)) : Nat → Nat → Nat → Option (List Nat)
  | 0, v, b => if v = 0 ∧ b = 0 then some [] else none
  | i + 1, v, b => match gs[i]? with
    | none => none
    | some g => match (pushes (D3 g)).find? (fitting3 (least3 zeroL (gs.take i)) (prodR (gs.take i)) g v b) with
      | none => none
      | some p => (first3 gs i (v - worthOf (D3 g) p * prodR (gs.take i)) (b - total p)).map fun s => s ++ p
theorem find_map {α β : Type} (f : α → β) (p : β → Bool) : ∀ l : List α, (l.map f).find? p = (l.find? fun x => p (f x)).map f
  | [] => rfl
  | x :: l => by
    rw [List.map_cons, List.find?_cons, List.find?_cons, find_map f p l]
    cases p (f x) <;> rfl
theorem first_raw {gs : List (List Nat)} (h : AllGood gs) : ∀ (i v b : Nat), (firstLeast (gs.map rodOf) i v b).map standingNumbers = first3 gs i v b
  | 0, v, b => by
    show Option.map standingNumbers (if v = 0 ∧ b = 0 then some [] else none) = if v = 0 ∧ b = 0 then some [] else none
    split <;> rfl
  | i + 1, v, b => by
    unfold firstLeast first3
    rw [List.getElem?_map]
    cases e : gs[i]? with
    | none => rfl
    | some g =>
      have hg := h g (List.mem_of_getElem? e)
      have hl : ∀ p ∈ pushes (rodOf g).decks, p.length = dn g := fun p hp => (push_len _ _ hp).trans (good_decks hg).1
      dsimp only [Option.map_some]
      rw [p3_pushes hg, find_map]
      have ef : (pushes (rodOf g).decks).find? (fun p => fitting3 (least3 zeroL (gs.take i)) (prodR (gs.take i)) g v b (pad (3 - dn g) p)) = (pushes (rodOf g).decks).find? fun (p : Push) => decide (worthOf (rodOf g).decks p * place (gs.map rodOf) i ≤ v) && (match leastBeads ((gs.map rodOf).take i) (v - worthOf (rodOf g).decks p * place (gs.map rodOf) i) with
        | some c => total p + c == b
        | none => false) := find_congr fun p hp => by
          unfold fitting3
          rw [worth_pad hg (hl p hp), total_pad, place_raw, ← List.map_take, least_raw (h.take i)]
          refine congrArg (_ && ·) ?_
          cases least3 zeroL (gs.take i) (v - worthOf (rodOf g).decks p * prodR (gs.take i)) with
          | none => rfl
          | some c =>
            show decide (some (total p + c) = some b) = (total p + c == b)
            rw [Bool.eq_iff_iff, decide_eq_true_iff, beq_iff_eq]
            exact ⟨Option.some.inj, congrArg some⟩
      rw [ef]
      cases e2 : (pushes (rodOf g).decks).find? fun (p : Push) => decide (worthOf (rodOf g).decks p * place (gs.map rodOf) i ≤ v) && (match leastBeads ((gs.map rodOf).take i) (v - worthOf (rodOf g).decks p * place (gs.map rodOf) i) with
        | some c => total p + c == b
        | none => false) with
      | none => rfl
      | some p =>
        have lp := hl p (List.mem_of_find?_eq_some e2)
        show Option.map standingNumbers ((firstLeast (gs.map rodOf) i (v - worthOf (rodOf g).decks p * place (gs.map rodOf) i) (b - total p)).map fun (s : Standing) => s ++ [p]) = (first3 gs i (v - worthOf (D3 g) (pad (3 - dn g) p) * prodR (gs.take i)) (b - total (pad (3 - dn g) p))).map fun s => s ++ pad (3 - dn g) p
        rw [worth_pad hg lp, total_pad, place_raw, ← first_raw h i]
        cases firstLeast (gs.map rodOf) i (v - worthOf (rodOf g).decks p * prodR (gs.take i)) (b - total p) with
        | none => rfl
        | some s =>
          show some (standingNumbers (s ++ [p])) = some (standingNumbers s ++ pad (3 - dn g) p)
          rw [numbers_snoc, told_pad (by rw [lp]; exact dn_le g), lp]
def fewest3 (gs : List (List Nat)) (v : Nat) : Option (List Nat) := (least3 zeroL gs v).bind fun b => first3 gs gs.length v b
theorem fewest_eq (v : Int) (ns : List Int) : PyYqacaa.fewest v ns = onMake (ns.map Int.toNat) fun gs => orTwo (fewest3 gs v.toNat) := by
  show BdNeutral.told (Bd.ofMake (ns.map Int.toNat) fun m => Bd.orNone (Na.fewest m v.toNat)) = _
  refine ofMake_eq fun hm => ?_
  rw [told_orNone]
  unfold Na.fewest fewest3
  rw [least_raw (good_of hm), List.length_map]
  cases least3 zeroL (cuts (ns.map Int.toNat)) v.toNat with
  | none => rfl
  | some b =>
    show orTwo ((firstLeast _ _ _ b).map standingNumbers) = _
    rw [first_raw (good_of hm)]
    rfl
end Bf
namespace Bf
open Na
/-! ### numbers in a window -/
theorem nodup_window : ∀ (n lo : Nat) (l : List Nat), l.Nodup → (∀ x ∈ l, lo ≤ x ∧ x < lo + n) → l.length ≤ n
  | 0, lo, [], _, _ => Nat.le_refl _
  | 0, lo, x :: l, _, h => by
    have := h x (List.mem_cons_self ..)
    omega
  | n + 1, lo, l, hn, h => by
    by_cases hm : lo + n ∈ l
    · have e := List.length_erase_of_mem hm
      have := nodup_window n lo (l.erase (lo + n)) (hn.erase _) fun x hx => by
        have h1 := h x (List.mem_of_mem_erase hx)
        have h2 : x ≠ lo + n := fun z => by
          subst z
          exact (List.Nodup.not_mem_erase hn) hx
        omega
      omega
    · have := nodup_window n lo l hn fun x hx => by
        have h1 := h x hx
        have h2 : x ≠ lo + n := fun z => hm (z ▸ hx)
        omega
      omega
/-- the keys lie in a window of n numbers from lo on -/
def InWin (lo n : Nat) (l : List (Nat × Nat)) : Prop := ∀ x ∈ l, lo ≤ x.1 ∧ x.1 < lo + n
theorem win_len {lo n : Nat} {l : List (Nat × Nat)} (hn : (l.map (·.1)).Nodup) (h : InWin lo n l) : l.length ≤ n := by
  have := nodup_window n lo (l.map (·.1)) hn fun x hx => by
    obtain ⟨y, hy, rfl⟩ := List.mem_map.mp hx
    exact h y hy
  rw [List.length_map] at this
  exact this
theorem win_put {lo n u c : Nat} {f : Nat → Nat → Nat} {l : List (Nat × Nat)} (h : InWin lo n l) (hu : lo ≤ u ∧ u < lo + n) : InWin lo n (putWith f u c l) := by
  induction l with
  | nil =>
    intro x hx
    obtain rfl := List.mem_singleton.mp hx
    exact hu
  | cons y l ih =>
    intro x hx
    have hx' : x ∈ (if y.1 = u then (u, f y.2 c) :: l else y :: putWith f u c l) := hx
    split at hx'
    · rcases List.mem_cons.mp hx' with e | e
      · subst e
        exact hu
      · exact h x (List.mem_cons_of_mem _ e)
    · rcases List.mem_cons.mp hx' with e | e
      · subst e
        exact h _ (List.mem_cons_self ..)
      · exact ih (fun z hz => h z (List.mem_cons_of_mem _ hz)) x e
/-- one rod further the window is half as wide and 128 more -/
theorem win_up {lo x w r : Nat} (hx : lo ≤ x ∧ x < lo + 258) (hw : w ≤ 255) (hwx : w ≤ x) (hr : 2 ≤ r) : (lo - 255) / r ≤ (x - w) / r ∧ (x - w) / r < (lo - 255) / r + 258 := by
  have h1 : (lo - 255) / r ≤ (x - w) / r := Nat.div_le_div_right (by omega)
  refine ⟨h1, ?_⟩
  have h2 : x - w ≤ (lo - 255) + 512 := by omega
  have h3 : (x - w) / r ≤ ((lo - 255) + 512) / r := Nat.div_le_div_right h2
  have h4 : ((lo - 255) + 512) / r ≤ (lo - 255) / r + 257 := by
    have hr0 : 0 < r := by omega
    rw [← Nat.lt_succ_iff, Nat.div_lt_iff_lt_mul hr0]
    have e := Nat.div_add_mod (lo - 255) r
    have m := Nat.mod_lt (lo - 255) hr0
    have k : 257 * 2 ≤ 257 * r := Nat.mul_le_mul_left _ hr
    show lo - 255 + 512 < ((lo - 255) / r + 257 + 1) * r
    have e2 : ((lo - 255) / r + 257 + 1) * r = r * ((lo - 255) / r) + 257 * r + r := by
      rw [Nat.add_mul, Nat.add_mul, Nat.one_mul, Nat.mul_comm ((lo - 255) / r) r]
    omega
  omega
/-! ### a tally and a rod further, as a dict gets them -/
def tal (g : List Nat) (ps : List (List Nat)) : List (Nat × Nat) := ps.foldl (fun t p => putWith (fun a b => a + b) (cnt3 g p) 1 t) []
theorem wt_tal (g : List Nat) (f : Nat → Nat) (ps : List (List Nat)) : wt f (tal g ps) = sumBy (fun p => f (cnt3 g p)) ps := by
  have key : ∀ (ps : List (List Nat)) (t : List (Nat × Nat)), wt f (ps.foldl (fun t p => putWith (fun a b => a + b) (cnt3 g p) 1 t) t) = wt f t + sumBy (fun p => f (cnt3 g p)) ps := by
    intro ps
    induction ps with
    | nil => intro t; rfl
    | cons p ps ih =>
      intro t
      rw [List.foldl_cons, ih, wt_put]
      show _ = wt f t + (f (cnt3 g p) + _)
      omega
  have := key ps []
  rw [show wt f [] = 0 from rfl, Nat.zero_add] at this
  exact this
theorem tal_nodup (g : List Nat) (ps : List (List Nat)) : ((tal g ps).map (·.1)).Nodup :=
  fold_keep (P := fun (z : List (Nat × Nat)) => (z.map (·.1)).Nodup) (fun z p hz => put_nodup _ _ _ _ hz) ps [] List.nodup_nil
theorem put_mem {f : Nat → Nat → Nat} {u c : Nat} {l : List (Nat × Nat)} {x : Nat × Nat} (h : x ∈ putWith f u c l) : x.1 = u ∨ x ∈ l := by
  induction l with
  | nil => exact .inl (by rw [List.mem_singleton.mp h])
  | cons y l ih =>
    have h' : x ∈ (if y.1 = u then (u, f y.2 c) :: l else y :: putWith f u c l) := h
    split at h'
    · rcases List.mem_cons.mp h' with e | e
      · exact .inl (by rw [e])
      · exact .inr (List.mem_cons_of_mem _ e)
    · rcases List.mem_cons.mp h' with e | e
      · exact .inr (by rw [e]; exact List.mem_cons_self ..)
      · rcases ih e with z | z
        · exact .inl z
        · exact .inr (List.mem_cons_of_mem _ z)
theorem tal_keys {g : List Nat} {ps : List (List Nat)} {x : Nat × Nat} (h : x ∈ tal g ps) : ∃ p ∈ ps, x.1 = cnt3 g p := by
  have key : ∀ (qs : List (List Nat)) (t : List (Nat × Nat)), (∀ q ∈ qs, q ∈ ps) → (∀ x ∈ t, ∃ p ∈ ps, x.1 = cnt3 g p) → ∀ x ∈ qs.foldl (fun t p => putWith (fun a b => a + b) (cnt3 g p) 1 t) t, ∃ p ∈ ps, x.1 = cnt3 g p := by
    intro qs
    induction qs with
    | nil => intro t _ h; exact h
    | cons q qs ih =>
      intro t hq h
      rw [List.foldl_cons]
      refine ih _ (fun z hz => hq z (List.mem_cons_of_mem _ hz)) fun x hx => ?_
      rcases put_mem hx with e | e
      · exact ⟨q, hq q (List.mem_cons_self ..), e⟩
      · exact h x e
  exact key ps [] (fun q hq => hq) (fun x hx => by cases hx) x h
def innerL (g : List Nat) (x : Nat × Nat) (t z : List (Nat × Nat)) : List (Nat × Nat) := t.foldl (fun z y => if y.1 ≤ x.1 ∧ (x.1 - y.1) % ix g 0 = 0 then putWith (fun a b => a + b) ((x.1 - y.1) / ix g 0) (x.2 * y.2) z else z) z
def outerL (g : List Nat) (t : List (Nat × Nat)) (l z : List (Nat × Nat)) : List (Nat × Nat) := l.foldl (fun z x => innerL g x t z) z
theorem wt_innerL (g : List Nat) (f : Nat → Nat) (x : Nat × Nat) : ∀ (t z : List (Nat × Nat)), wt f (innerL g x t z) = wt f z + x.2 * wt (fun w => above (rodOf g) f x.1 w) t
  | [], z => by
    show wt f z = wt f z + x.2 * 0
    omega
  | y :: t, z => by
    have ih := wt_innerL g f x t
    show wt f (innerL g x t (if y.1 ≤ x.1 ∧ (x.1 - y.1) % ix g 0 = 0 then putWith (fun a b => a + b) ((x.1 - y.1) / ix g 0) (x.2 * y.2) z else z)) = wt f z + x.2 * (y.2 * above (rodOf g) f x.1 y.1 + wt (fun w => above (rodOf g) f x.1 w) t)
    rw [ih, Nat.mul_add, ← Nat.add_assoc]
    refine congrArg (· + _) ?_
    unfold above leftOver
    rw [rodOf_ratio]
    by_cases c : y.1 ≤ x.1 ∧ (x.1 - y.1) % ix g 0 = 0
    · rw [if_pos c, if_pos c, wt_put, Nat.mul_assoc]
    · rw [if_neg c, if_neg c]
      rfl
theorem wt_outerL (g : List Nat) (f : Nat → Nat) (t : List (Nat × Nat)) : ∀ (l z : List (Nat × Nat)), wt f (outerL g t l z) = wt f z + wt (fun u => wt (fun w => above (rodOf g) f u w) t) l
  | [], z => rfl
  | x :: l, z => by
    show wt f (outerL g t l (innerL g x t z)) = wt f z + (x.2 * wt (fun w => above (rodOf g) f x.1 w) t + wt (fun u => wt (fun w => above (rodOf g) f u w) t) l)
    rw [wt_outerL g f t l, wt_innerL, Nat.add_assoc]
/-- one rod further -/
def further (g : List Nat) (l : List (Nat × Nat)) : List (Nat × Nat) := outerL g (tal g (pushes (D3 g))) l []
theorem cnt3_worth {g : List Nat} {p : Push} (h : p ∈ pushes (D3 g)) : cnt3 g p = worthOf (D3 g) p := by
  obtain ⟨a, b, c, _, _, _, rfl⟩ := mem_p3.mp h
  exact (worth_three g a b c).symm
theorem wt_further (g : List Nat) (f : Nat → Nat) (l : List (Nat × Nat)) : wt f (further g l) = wt (up3 g f) l := by
  unfold further
  rw [wt_outerL, show wt f [] = 0 from rfl, Nat.zero_add]
  unfold wt
  refine sumBy_congr fun x _ => ?_
  show x.2 * wt (fun w => above (rodOf g) f x.1 w) (tal g (pushes (D3 g))) = _
  rw [wt_tal]
  unfold up3
  refine congrArg (x.2 * ·) (sumBy_congr fun p hp => ?_)
  rw [cnt3_worth hp]
theorem innerL_nodup {g : List Nat} {x : Nat × Nat} {t z : List (Nat × Nat)} (h : (z.map (·.1)).Nodup) : ((innerL g x t z).map (·.1)).Nodup :=
  fold_keep (P := fun (z : List (Nat × Nat)) => (z.map (·.1)).Nodup) (fun z y hz => by
    split
    · exact put_nodup _ _ _ _ hz
    · exact hz) t z h
theorem outerL_nodup {g : List Nat} {t l z : List (Nat × Nat)} (h : (z.map (·.1)).Nodup) : ((outerL g t l z).map (·.1)).Nodup :=
  fold_keep (P := fun (z : List (Nat × Nat)) => (z.map (·.1)).Nodup) (fun z y hz => innerL_nodup hz) l z h
theorem innerL_win {g : List Nat} {x : Nat × Nat} {t z : List (Nat × Nat)} {lo : Nat} (hr : 2 ≤ ix g 0) (ht : ∀ y ∈ t, y.1 ≤ 255) (hx : lo ≤ x.1 ∧ x.1 < lo + 258) (h : InWin ((lo - 255) / ix g 0) 258 z) : InWin ((lo - 255) / ix g 0) 258 (innerL g x t z) := by
  induction t generalizing z with
  | nil => exact h
  | cons y t ih =>
    refine ih (fun w hw => ht w (List.mem_cons_of_mem _ hw)) ?_
    dsimp only
    split
    · rename_i c
      exact win_put h (win_up hx (ht y (List.mem_cons_self ..)) c.1 hr)
    · exact h
theorem outerL_win {g : List Nat} {t l z : List (Nat × Nat)} {lo : Nat} (hr : 2 ≤ ix g 0) (ht : ∀ y ∈ t, y.1 ≤ 255) (hl : InWin lo 258 l) (h : InWin ((lo - 255) / ix g 0) 258 z) : InWin ((lo - 255) / ix g 0) 258 (outerL g t l z) := by
  induction l generalizing z with
  | nil => exact h
  | cons x l ih => exact ih (fun w hw => hl w (List.mem_cons_of_mem _ hw)) (innerL_win hr ht (hl x (List.mem_cons_self ..)) h)
theorem wt_entry {l : List (Nat × Nat)} {x : Nat × Nat} (h : x ∈ l) : x.2 ≤ wt (fun _ => 1) l := by
  induction l with
  | nil => cases h
  | cons y l ih =>
    show x.2 ≤ y.2 * 1 + wt (fun _ => 1) l
    rcases List.mem_cons.mp h with e | e
    · subst e
      omega
    · have := ih e
      omega
theorem tal_le {g : List Nat} (h : numsSound g = true) (hw : worthT g ≤ 255) : ∀ y ∈ tal g (pushes (D3 g)), y.1 ≤ 255 := by
  intro y hy
  obtain ⟨p, hp, e⟩ := tal_keys hy
  rw [e, cnt3_worth hp]
  have := worth_most _ _ hp
  have e2 : total ((D3 g).map fun d => d.beads * d.worth) = worthT g := by
    show ix g 1 * ix g 2 + (ix g 3 * ix g 4 + (ix g 5 * ix g 6 + 0)) = 0 + ix g 1 * ix g 2 + ix g 3 * ix g 4 + ix g 5 * ix g 6
    omega
  omega
def furthers (gs : List (List Nat)) (l : List (Nat × Nat)) : List (Nat × Nat) := gs.foldl (fun l g => further g l) l
theorem wt_furthers (f : Nat → Nat) : ∀ (gs : List (List Nat)) (l : List (Nat × Nat)), wt f (furthers gs l) = wt (cnt3F f gs) l
  | [], _ => rfl
  | g :: gs, l => by
    show wt f (furthers gs (further g l)) = _
    rw [wt_furthers f gs, wt_further]
    rfl
theorem furthers_nodup : ∀ (gs : List (List Nat)) (l : List (Nat × Nat)), (l.map (·.1)).Nodup → ((furthers gs l).map (·.1)).Nodup
  | [], _, h => h
  | g :: gs, l, h => furthers_nodup gs (further g l) (outerL_nodup List.nodup_nil)
theorem furthers_win : ∀ (gs : List (List Nat)) (l : List (Nat × Nat)) (lo : Nat), (∀ g ∈ gs, numsSound g = true ∧ worthT g ≤ 255) → InWin lo 258 l → ∃ lo', InWin lo' 258 (furthers gs l)
  | [], l, lo, _, h => ⟨lo, h⟩
  | g :: gs, l, lo, hg, h => by
    have a := hg g (List.mem_cons_self ..)
    exact furthers_win gs (further g l) _ (fun x hx => hg x (List.mem_cons_of_mem _ hx)) (outerL_win (nums_facts a.1).1 (tal_le a.1 a.2) h fun x hx => by cases hx)
theorem above_le {r : Rod} {u w : Nat} : above r (fun _ => 1) u w ≤ 1 := by
  unfold above
  split <;> simp
theorem sumBy_le {α : Type} {f : α → Nat} {c : Nat} : ∀ {l : List α}, (∀ x ∈ l, f x ≤ c) → sumBy f l ≤ l.length * c
  | [], _ => Nat.zero_le _
  | x :: l, h => by
    show f x + sumBy f l ≤ (l.length + 1) * c
    have h1 := h x (List.mem_cons_self ..)
    have h2 := sumBy_le fun y hy => h y (List.mem_cons_of_mem _ hy)
    rw [Nat.succ_mul]
    omega
theorem sumBy_mono {α : Type} {f g : α → Nat} : ∀ {l : List α}, (∀ x ∈ l, f x ≤ g x) → sumBy f l ≤ sumBy g l
  | [], _ => Nat.le_refl _
  | x :: l, h => Nat.add_le_add (h x (List.mem_cons_self ..)) (sumBy_mono fun y hy => h y (List.mem_cons_of_mem _ hy))
theorem flat_len {α : Type} (n : Nat) (f : Nat → List α) (m : Nat) (h : ∀ k, (f k).length = m) : ((List.range n).flatMap f).length = n * m := by
  induction n with
  | zero => simp
  | succ n ih =>
    rw [List.range_succ, List.flatMap_append, List.length_append, ih]
    simp [h, Nat.succ_mul]
theorem p3_len (g : List Nat) : (pushes (D3 g)).length = (ix g 1 + 1) * ((ix g 3 + 1) * ((ix g 5 + 1) * 1)) := by
  show ((List.range (ix g 1 + 1)).flatMap fun a => ((List.range (ix g 3 + 1)).flatMap fun b => ((List.range (ix g 5 + 1)).flatMap fun c => [[c]]).map fun p => b :: p).map fun p => a :: p).length = _
  refine flat_len _ _ _ fun a => ?_
  rw [List.length_map]
  refine flat_len _ _ _ fun b => ?_
  rw [List.length_map]
  exact flat_len _ _ _ fun c => rfl
theorem p3_few {g : List Nat} (h : numsSound g = true) : (pushes (D3 g)).length ≤ 4096 := by
  have hs := (nums_facts h).2.2.1
  have b1 := (sound_le (hs (ix g 1, ix g 2) (by unfold decks; simp))).1
  have b3 := (sound_le (hs (ix g 3, ix g 4) (by unfold decks; simp))).1
  have b5 := (sound_le (hs (ix g 5, ix g 6) (by unfold decks; simp))).1
  rw [p3_len, Nat.mul_one]
  have e1 : (ix g 3 + 1) * (ix g 5 + 1) ≤ 16 * 16 := Nat.mul_le_mul (by omega) (by omega)
  exact Nat.mul_le_mul (by omega : ix g 1 + 1 ≤ 16) e1
theorem wt_mono {f f' : Nat → Nat} (h : ∀ u, f u ≤ f' u) (l : List (Nat × Nat)) : wt f l ≤ wt f' l := sumBy_mono fun x _ => Nat.mul_le_mul_left _ (h x.1)
theorem wt_mul (f : Nat → Nat) (c : Nat) (l : List (Nat × Nat)) : wt (fun u => c * f u) l = c * wt f l := by
  unfold wt
  rw [← sumBy_mul]
  exact sumBy_congr fun x _ => by rw [Nat.mul_left_comm]
theorem wt_further_le {g : List Nat} (h : numsSound g = true) (l : List (Nat × Nat)) : wt (fun _ => 1) (further g l) ≤ 4096 * wt (fun _ => 1) l := by
  rw [wt_further, ← wt_mul]
  refine wt_mono (fun u => ?_) l
  have := sumBy_le (l := pushes (D3 g)) (c := 1) (f := fun p => above (rodOf g) (fun _ => 1) u (worthOf (D3 g) p)) fun x _ => above_le
  have := p3_few h
  show sumBy _ _ ≤ 4096 * 1
  unfold up3 at *
  omega
theorem furthers_small : ∀ (gs : List (List Nat)) (l : List (Nat × Nat)) (m : Nat), (∀ g ∈ gs, numsSound g = true ∧ worthT g ≤ 255) → wt (fun _ => 1) l < 2 ^ m → wt (fun _ => 1) (furthers gs l) < 2 ^ (m + 12 * gs.length)
  | [], l, m, _, h => h
  | g :: gs, l, m, hg, h => by
    have a := hg g (List.mem_cons_self ..)
    have := furthers_small gs (further g l) (m + 12) (fun x hx => hg x (List.mem_cons_of_mem _ hx)) (by
      have := wt_further_le a.1 l
      rw [Nat.pow_add]
      have : 2 ^ 12 = 4096 := by decide
      rw [this, Nat.mul_comm]
      omega)
    rw [List.length_cons, show m + 12 * (gs.length + 1) = m + 12 + 12 * gs.length by omega]
    exact this
end Bf
namespace Bf
open Na
/-! ### the ways of the rods to the right, by what they leave -/
def isN (u x : Nat) : Nat := if x = u then 1 else 0
theorem isN_zero : isN 0 = isZero := rfl
def AllPos (gs : List (List Nat)) : Prop := ∀ g ∈ gs, 0 < ix g 0
theorem pos_of_good {gs : List (List Nat)} (h : AllGood gs) : AllPos gs := fun g hg => by
  have := (nums_facts (h g hg)).1
  omega
theorem AllPos.take {gs : List (List Nat)} (h : AllPos gs) (i : Nat) : AllPos (gs.take i) := fun g hg => h g (List.mem_of_mem_take hg)
theorem above_if (r : Rod) (f : Nat → Nat) (u w : Nat) : above r f u w = if w ≤ u ∧ (u - w) % r.ratio = 0 then f ((u - w) / r.ratio) else 0 := by
  unfold above leftOver
  by_cases h : w ≤ u ∧ (u - w) % r.ratio = 0
  · rw [if_pos h, if_pos h]
  · rw [if_neg h, if_neg h]
theorem aboveL_if (r : Rod) (f : Nat → Option Nat) (u w : Nat) : aboveL r f u w = if w ≤ u ∧ (u - w) % r.ratio = 0 then f ((u - w) / r.ratio) else none := by
  unfold aboveL leftOver
  by_cases h : w ≤ u ∧ (u - w) % r.ratio = 0
  · rw [if_pos h, if_pos h]
  · rw [if_neg h, if_neg h]
/-- what is left above a rod, where M more of the next rod's units are to be left -/
theorem left_shift {r M v w : Nat} (hr : 0 < r) : (w ≤ v ∧ (v - w) % r = 0 ∧ M ≤ (v - w) / r) ↔ (M * r ≤ v ∧ w ≤ v - M * r ∧ (v - M * r - w) % r = 0) := by
  constructor
  · rintro ⟨h1, h2, h3⟩
    have h4 : M * r ≤ v - w := (Nat.le_div_iff_mul_le hr).mp h3
    refine ⟨by omega, by omega, ?_⟩
    rw [show v - M * r - w = v - w - r * M by rw [Nat.mul_comm r M]; omega, Nat.sub_mul_mod (by rw [Nat.mul_comm]; exact h4)]
    exact h2
  · rintro ⟨h1, h2, h3⟩
    have h4 : M * r ≤ v - w := by omega
    refine ⟨by omega, ?_, (Nat.le_div_iff_mul_le hr).mpr h4⟩
    rw [show v - M * r - w = v - w - r * M by rw [Nat.mul_comm r M]; omega, Nat.sub_mul_mod (by rw [Nat.mul_comm]; exact h4)] at h3
    exact h3
theorem left_div {r M v w : Nat} (h : w ≤ v - M * r) : (v - M * r - w) / r = (v - w) / r - M := by
  rw [show v - M * r - w = v - w - r * M by rw [Nat.mul_comm r M]; omega, Nat.sub_mul_div]
theorem arr_eq : ∀ (gs : List (List Nat)) (u v : Nat), AllPos gs → cnt3F (isN u) gs v = if u * prodR gs ≤ v then cnt3F isZero gs (v - u * prodR gs) else 0
  | [], u, v, _ => by
    show (if v = u then 1 else 0) = if u * prodR [] ≤ v then (if v - u * prodR [] = 0 then 1 else 0) else 0
    rw [show prodR [] = 1 from rfl, Nat.mul_one]
    split <;> split <;> first | rfl | (split <;> omega) | omega
  | g :: gs, u, v, h => by
    have hr := h g (List.mem_cons_self ..)
    have ih := fun x => arr_eq gs u x fun y hy => h y (List.mem_cons_of_mem _ hy)
    show up3 g (cnt3F (isN u) gs) v = if u * prodR (g :: gs) ≤ v then up3 g (cnt3F isZero gs) (v - u * prodR (g :: gs)) else 0
    have hP : prodR (g :: gs) = ix g 0 * prodR gs := by
      unfold prodR
      rw [prod_span, prod_span, Nat.one_mul, Nat.one_mul]
      rfl
    rw [hP, show u * (ix g 0 * prodR gs) = u * prodR gs * ix g 0 by rw [Nat.mul_comm (ix g 0), Nat.mul_assoc]]
    generalize u * prodR gs = M at ih ⊢
    have key : ∀ w, above (rodOf g) (cnt3F (isN u) gs) v w = if M * ix g 0 ≤ v then above (rodOf g) (cnt3F isZero gs) (v - M * ix g 0) w else 0 := fun w => by
      rw [above_if, above_if, rodOf_ratio, ih]
      have := left_shift (M := M) (v := v) (w := w) hr
      by_cases c1 : w ≤ v ∧ (v - w) % ix g 0 = 0
      · rw [if_pos c1]
        by_cases c2 : M ≤ (v - w) / ix g 0
        · have c3 := this.mp ⟨c1.1, c1.2, c2⟩
          rw [if_pos c2, if_pos c3.1, if_pos c3.2, left_div c3.2.1]
        · rw [if_neg c2]
          split
          · rename_i c3
            rw [if_neg fun z => c2 (this.mpr ⟨c3, z⟩).2.2]
          · rfl
      · rw [if_neg c1]
        split
        · rename_i c3
          rw [if_neg fun z => c1 ⟨(this.mpr ⟨c3, z⟩).1, (this.mpr ⟨c3, z⟩).2.1⟩]
        · rfl
    unfold up3
    split
    · rename_i c
      exact sumBy_congr fun p _ => by rw [key, if_pos c]
    · rename_i c
      exact sumBy_zero fun p _ => by rw [key, if_neg c]
theorem arr_state {gs : List (List Nat)} (h : AllPos gs) {i : Nat} {g : List Nat} (hi : gs[i]? = some g) {u v c : Nat} (hu : u * prodR (gs.take (i + 1)) ≤ v) :
    cnt3F (isN (u * ix g 0 + c)) (gs.take i) v = cnt3F (isN c) (gs.take i) (v - u * prodR (gs.take (i + 1))) := by
  rw [arr_eq _ _ _ (h.take i), arr_eq _ _ _ (h.take i)]
  have hp : prodR (gs.take (i + 1)) = prodR (gs.take i) * ix g 0 := by
    unfold prodR
    rw [List.take_add_one, hi, List.foldl_append]
    rfl
  have e : (u * ix g 0 + c) * prodR (gs.take i) = u * prodR (gs.take (i + 1)) + c * prodR (gs.take i) := by
    rw [hp, Nat.add_mul, Nat.mul_assoc, Nat.mul_comm (ix g 0)]
  rw [e]
  split
  · rw [if_pos (by omega), Nat.sub_sub]
  · rw [if_neg (by omega)]
/-! ### by the leftmost rod -/
theorem cnt_snoc (f : Nat → Nat) (g : List Nat) : ∀ gs : List (List Nat), cnt3F f (gs ++ [g]) = cnt3F (up3 g f) gs
  | [] => rfl
  | x :: gs => by
    funext u
    show up3 x (cnt3F f (gs ++ [g])) u = up3 x (cnt3F (up3 g f) gs) u
    rw [cnt_snoc f g gs]
theorem above_sum {α : Type} (r : Rod) (F : α → Nat → Nat) (l : List α) (u w : Nat) : above r (fun x => sumBy (fun a => F a x) l) u w = sumBy (fun a => above r (F a) u w) l := by
  unfold above
  cases leftOver r u w with
  | some z => rfl
  | none => exact (sumBy_zero fun _ _ => rfl).symm
theorem cnt_sum {α : Type} (F : α → Nat → Nat) (l : List α) : ∀ (gs : List (List Nat)) (v : Nat), cnt3F (fun x => sumBy (fun a => F a x) l) gs v = sumBy (fun a => cnt3F (F a) gs v) l
  | [], _ => rfl
  | g :: gs, v => by
    show up3 g (cnt3F (fun x => sumBy (fun a => F a x) l) gs) v = sumBy (fun a => up3 g (cnt3F (F a) gs) v) l
    unfold up3
    rw [show cnt3F (fun x => sumBy (fun a => F a x) l) gs = fun x => sumBy (fun a => cnt3F (F a) gs x) l from funext fun x => cnt_sum F l gs x, sumBy_comm]
    exact sumBy_congr fun p _ => above_sum _ _ _ _ _
theorem up_zero {g : List Nat} (h : 0 < ix g 0) : up3 g isZero = fun u => sumBy (fun p => isN (worthOf (D3 g) p) u) (pushes (D3 g)) := by
  funext u
  unfold up3
  refine sumBy_congr fun p _ => ?_
  rw [above_if, rodOf_ratio]
  unfold isZero isN
  by_cases e : u = worthOf (D3 g) p
  · rw [if_pos ⟨by omega, by rw [e, Nat.sub_self]; exact Nat.zero_mod _⟩, if_pos (by rw [e, Nat.sub_self]; exact Nat.zero_div _), if_pos e]
  · rw [if_neg e]
    split
    · rename_i c
      rw [if_neg fun z => e ?_]
      have := Nat.div_add_mod (u - worthOf (D3 g) p) (ix g 0)
      rw [z, c.2, Nat.mul_zero] at this
      omega
    · rfl
theorem cnt_left {gs : List (List Nat)} {i : Nat} {g : List Nat} (hi : gs[i]? = some g) (h : 0 < ix g 0) (v : Nat) : cnt3F isZero (gs.take (i + 1)) v = sumBy (fun p => cnt3F (isN (worthOf (D3 g) p)) (gs.take i) v) (pushes (D3 g)) := by
  rw [List.take_add_one, hi]
  show cnt3F isZero (gs.take i ++ [g]) v = _
  rw [cnt_snoc, up_zero h, cnt_sum]
/-! ### the push with which the k-th way goes on -/
def pickG (F : Push → Nat) : List Push → Nat → Option (Push × Nat)
  | [], _ => none
  | p :: r, k => if k < F p then some (p, k) else pickG F r (k - F p)
theorem pickG_congr {F G : Push → Nat} : ∀ {l : List Push} {k : Nat}, (∀ p ∈ l, F p = G p) → pickG F l k = pickG G l k
  | [], _, _ => rfl
  | p :: r, k, h => by
    show (if k < F p then some (p, k) else pickG F r (k - F p)) = if k < G p then some (p, k) else pickG G r (k - G p)
    rw [h p (List.mem_cons_self ..), pickG_congr fun q hq => h q (List.mem_cons_of_mem _ hq)]
theorem pickG_at {F : Push → Nat} {l : List Push} {i k : Nat} {p : Push} (h : l[i]? = some p) : pickG F (l.drop i) k = if k < F p then some (p, k) else pickG F (l.drop (i + 1)) (k - F p) := by
  have hi := (List.getElem?_eq_some_iff.mp h).1
  rw [List.drop_eq_getElem_cons hi, (List.getElem?_eq_some_iff.mp h).2]
  rfl
theorem pickG_some {F : Push → Nat} : ∀ {l : List Push} {k : Nat}, k < sumBy F l → ∃ p j, pickG F l k = some (p, j) ∧ p ∈ l ∧ j < F p
  | [], _, h => absurd h (Nat.not_lt_zero _)
  | p :: r, k, h => by
    have h' : k < F p + sumBy F r := h
    by_cases c : k < F p
    · exact ⟨p, k, if_pos c, List.mem_cons_self .., c⟩
    · obtain ⟨q, j, h1, h2, h3⟩ := pickG_some (F := F) (l := r) (k := k - F p) (by omega)
      exact ⟨q, j, (if_neg c).trans h1, List.mem_cons_of_mem _ h2, h3⟩
theorem pickG_none {F : Push → Nat} : ∀ {l : List Push} {k : Nat}, sumBy F l ≤ k → pickG F l k = none
  | [], _, _ => rfl
  | p :: r, k, h => by
    have h' : F p + sumBy F r ≤ k := h
    exact (if_neg (by omega)).trans (pickG_none (by omega))
theorem pick3_G {gs : List (List Nat)} (h : AllPos gs) (g : List Nat) (v : Nat) : ∀ (l : List Push) (k : Nat), pick3 (cnt3F isZero gs) (prodR gs) g v l k = pickG (fun p => cnt3F (isN (worthOf (D3 g) p)) gs v) l k
  | [], _ => rfl
  | p :: r, k => by
    show (if v < worthOf (D3 g) p * prodR gs then pick3 (cnt3F isZero gs) (prodR gs) g v r k else if k < cnt3F isZero gs (v - worthOf (D3 g) p * prodR gs) then some (p, k) else pick3 (cnt3F isZero gs) (prodR gs) g v r (k - cnt3F isZero gs (v - worthOf (D3 g) p * prodR gs)))
      = if k < cnt3F (isN (worthOf (D3 g) p)) gs v then some (p, k) else pickG _ r (k - cnt3F (isN (worthOf (D3 g) p)) gs v)
    rw [arr_eq _ _ _ h, pick3_G h g v r, pick3_G h g v r]
    by_cases c : v < worthOf (D3 g) p * prodR gs
    · rw [if_pos c, if_neg (Nat.not_le.mpr c), if_neg (Nat.not_lt_zero _), Nat.sub_zero]
    · rw [if_neg c, if_pos (Nat.le_of_not_lt c)]
theorem nth3_up {gs : List (List Nat)} (h : AllPos gs) {i : Nat} {g : List Nat} (hi : gs[i]? = some g) (v k : Nat) : nth3 gs (i + 1) v k = match pickG (fun p => cnt3F (isN (worthOf (D3 g) p)) (gs.take i) v) (pushes (D3 g)) k with
    | none => none
    | some (p, j) => (nth3 gs i (v - worthOf (D3 g) p * prodR (gs.take i)) j).map fun s => s ++ p := by
  rw [← pick3_G (h.take i)]
  show (match gs[i]? with
    | none => none
    | some g => match pick3 (cnt3F isZero (gs.take i)) (prodR (gs.take i)) g v (pushes (D3 g)) k with
      | none => none
      | some (p, j) => (nth3 gs i (v - worthOf (D3 g) p * prodR (gs.take i)) j).map fun s => s ++ p) = _
  rw [hi]
theorem nth3_none {gs : List (List Nat)} (h : AllPos gs) : ∀ {i v k : Nat}, i ≤ gs.length → cnt3F isZero (gs.take i) v ≤ k → nth3 gs i v k = none
  | 0, v, k, _, hk => by
    show (if v = 0 ∧ k = 0 then some [] else none) = none
    rw [if_neg]
    rintro ⟨rfl, rfl⟩
    have hk' : 1 ≤ 0 := hk
    exact absurd hk' (by decide)
  | i + 1, v, k, hl, hk => by
    obtain ⟨g, e⟩ : ∃ g, gs[i]? = some g := ⟨gs[i], List.getElem?_eq_getElem (by omega)⟩
    rw [nth3_up h e, pickG_none]
    rw [← cnt_left e (h g (List.mem_of_getElem? e))]
    exact hk
/-- one rod's step, where the way is there -/
theorem nth3_step {gs : List (List Nat)} (h : AllPos gs) {i : Nat} {g : List Nat} (hi : gs[i]? = some g) {v k : Nat} (hk : k < cnt3F isZero (gs.take (i + 1)) v) :
    ∃ p j, pickG (fun p => cnt3F (isN (worthOf (D3 g) p)) (gs.take i) v) (pushes (D3 g)) k = some (p, j) ∧ p ∈ pushes (D3 g) ∧ worthOf (D3 g) p * prodR (gs.take i) ≤ v ∧ j < cnt3F isZero (gs.take i) (v - worthOf (D3 g) p * prodR (gs.take i)) ∧
      nth3 gs (i + 1) v k = (nth3 gs i (v - worthOf (D3 g) p * prodR (gs.take i)) j).map fun s => s ++ p := by
  rw [cnt_left hi (h g (List.mem_of_getElem? hi))] at hk
  obtain ⟨p, j, h1, h2, h3⟩ := pickG_some hk
  rw [arr_eq _ _ _ (h.take i)] at h3
  by_cases c : worthOf (D3 g) p * prodR (gs.take i) ≤ v
  · rw [if_pos c] at h3
    refine ⟨p, j, h1, h2, c, h3, ?_⟩
    rw [nth3_up h hi, h1]
  · rw [if_neg c] at h3
    exact absurd h3 (Nat.not_lt_zero _)
theorem nth3_some {gs : List (List Nat)} (h : AllPos gs) : ∀ {i v k : Nat}, i ≤ gs.length → k < cnt3F isZero (gs.take i) v → ∃ s, nth3 gs i v k = some s ∧ s.length = 3 * i
  | 0, v, k, _, hk => by
    have hk' : k < if v = 0 then 1 else 0 := hk
    by_cases c : v = 0
    · rw [if_pos c] at hk'
      exact ⟨[], if_pos ⟨c, by omega⟩, rfl⟩
    · rw [if_neg c] at hk'
      exact absurd hk' (Nat.not_lt_zero _)
  | i + 1, v, k, hl, hk => by
    obtain ⟨g, e⟩ : ∃ g, gs[i]? = some g := ⟨gs[i], List.getElem?_eq_getElem (by omega)⟩
    obtain ⟨p, j, _, hp, _, hj, he⟩ := nth3_step h e hk
    obtain ⟨s, h1, h2⟩ := nth3_some h (i := i) (by omega) hj
    obtain ⟨a, b, c, _, _, _, rfl⟩ := mem_p3.mp hp
    exact ⟨s ++ [a, b, c], by rw [he, h1]; rfl, by rw [List.length_append, h2]; rfl⟩
/-! ### pushes in order -/
theorem pushes_sorted : ∀ ds : List Deck, (pushes ds).Pairwise fun a b => below a b = true
  | [] => List.pairwise_singleton _ _
  | d :: r => by
    show ((List.range (d.beads + 1)).flatMap fun (k : Nat) => (pushes r).map fun (p : Push) => k :: p).Pairwise _
    rw [List.pairwise_flatMap]
    refine ⟨fun k _ => ?_, ?_⟩
    · rw [List.pairwise_map]
      exact (pushes_sorted r).imp fun h => below_cons.mpr (.inr ⟨rfl, h⟩)
    · refine List.pairwise_lt_range.imp fun hlt x hx y hy => ?_
      obtain ⟨p, _, rfl⟩ := List.mem_map.mp hx
      obtain ⟨q, _, rfl⟩ := List.mem_map.mp hy
      exact below_cons.mpr (.inl hlt)
theorem sorted_before {l : List Push} (h : l.Pairwise fun a b => below a b = true) : ∀ {n : Nat} {t : Push}, l[n]? = some t → l.filter (fun x => below x t) = l.take n := by
  induction l with
  | nil => intro n t ht; simp at ht
  | cons x l ih =>
    intro n t ht
    rw [List.pairwise_cons] at h
    match n, ht with
    | 0, ht =>
      obtain rfl := Option.some.inj ht
      rw [List.take_zero, List.filter_eq_nil_iff]
      intro y hy
      rcases List.mem_cons.mp hy with rfl | hy
      · rw [below_self]
        decide
      · intro hb
        have := below_trans (h.1 y hy) hb
        rw [below_self] at this
        cases this
    | n + 1, ht =>
      have ht' : l[n]? = some t := ht
      rw [List.filter_cons, if_pos (h.1 t (List.mem_of_getElem? ht')), ih h.2 ht']
      rfl
theorem p3_sorted (g : List Nat) : (pushes (D3 g)).Pairwise fun a b => below a b = true := pushes_sorted _
theorem p3_nodup (g : List Nat) : (pushes (D3 g)).Nodup := (p3_sorted g).imp fun {a b} h e => by
  rw [e, below_self] at h
  cases h
/-! ### rank -/
theorem rank3_up {gs : List (List Nat)} (h : AllPos gs) {i : Nat} {g : List Nat} (hi : gs[i]? = some g) {st : List Nat} {v n : Nat} (hn : (pushes (D3 g))[n]? = some (three (st.drop (3 * i)))) :
    rank3 gs st (i + 1) v = sumBy (fun p => cnt3F (isN (worthOf (D3 g) p)) (gs.take i) v) ((pushes (D3 g)).take n) + rank3 gs st i (v - worthOf (D3 g) (three (st.drop (3 * i))) * prodR (gs.take i)) := by
  show (match gs[i]? with
    | some g => before3 (cnt3F isZero (gs.take i)) (prodR (gs.take i)) g v (three (st.drop (3 * i))) + rank3 gs st i (v - worthOf (D3 g) (three (st.drop (3 * i))) * prodR (gs.take i))
    | none => 0) = _
  rw [hi]
  show before3 (cnt3F isZero (gs.take i)) (prodR (gs.take i)) g v (three (st.drop (3 * i))) + _ = _
  refine congrArg (· + _) ?_
  unfold before3
  rw [sorted_before (p3_sorted g) hn]
  refine sumBy_congr fun p _ => ?_
  rw [arr_eq _ _ _ (h.take i)]
  by_cases c : v < worthOf (D3 g) p * prodR (gs.take i)
  · rw [if_pos c, if_neg (Nat.not_le.mpr c)]
  · rw [if_neg c, if_pos (Nat.le_of_not_lt c)]
/-! ### the fewest beads -/
def isL (u x : Nat) : Option Nat := if x = u then some 0 else none
theorem isL_zero : isL 0 = zeroL := rfl
theorem arrL_eq : ∀ (gs : List (List Nat)) (u v : Nat), AllPos gs → least3 (isL u) gs v = if u * prodR gs ≤ v then least3 zeroL gs (v - u * prodR gs) else none
  | [], u, v, _ => by
    show (if v = u then some 0 else none) = if u * prodR [] ≤ v then (if v - u * prodR [] = 0 then some 0 else none) else none
    rw [show prodR [] = 1 from rfl, Nat.mul_one]
    by_cases e : v = u
    · rw [if_pos e, if_pos (by omega), if_pos (by omega)]
    · rw [if_neg e]
      split
      · rw [if_neg (by omega)]
      · rfl
  | g :: gs, u, v, h => by
    have hr := h g (List.mem_cons_self ..)
    have ih := fun x => arrL_eq gs u x fun y hy => h y (List.mem_cons_of_mem _ hy)
    show upL3 g (least3 (isL u) gs) v = if u * prodR (g :: gs) ≤ v then upL3 g (least3 zeroL gs) (v - u * prodR (g :: gs)) else none
    have hP : prodR (g :: gs) = ix g 0 * prodR gs := by
      unfold prodR
      rw [prod_span, prod_span, Nat.one_mul, Nat.one_mul]
      rfl
    rw [hP, show u * (ix g 0 * prodR gs) = u * prodR gs * ix g 0 by rw [Nat.mul_comm (ix g 0), Nat.mul_assoc]]
    generalize u * prodR gs = M at ih ⊢
    have key : ∀ w, aboveL (rodOf g) (least3 (isL u) gs) v w = if M * ix g 0 ≤ v then aboveL (rodOf g) (least3 zeroL gs) (v - M * ix g 0) w else none := fun w => by
      rw [aboveL_if, aboveL_if, rodOf_ratio, ih]
      have := left_shift (M := M) (v := v) (w := w) hr
      by_cases c1 : w ≤ v ∧ (v - w) % ix g 0 = 0
      · rw [if_pos c1]
        by_cases c2 : M ≤ (v - w) / ix g 0
        · have c3 := this.mp ⟨c1.1, c1.2, c2⟩
          rw [if_pos c2, if_pos c3.1, if_pos c3.2, left_div c3.2.1]
        · rw [if_neg c2]
          split
          · rename_i c3
            rw [if_neg fun z => c2 (this.mpr ⟨c3, z⟩).2.2]
          · rfl
      · rw [if_neg c1]
        split
        · rename_i c3
          rw [if_neg fun z => c1 ⟨(this.mpr ⟨c3, z⟩).1, (this.mpr ⟨c3, z⟩).2.1⟩]
        · rfl
    unfold upL3
    split
    · rename_i c
      exact minBy_congr fun p _ => by rw [key, if_pos c]
    · rename_i c
      exact minBy_none fun p _ => by rw [key, if_neg c]; rfl
theorem arrL_state {gs : List (List Nat)} (h : AllPos gs) {i : Nat} {g : List Nat} (hi : gs[i]? = some g) {u v c : Nat} (hu : u * prodR (gs.take (i + 1)) ≤ v) :
    least3 (isL (u * ix g 0 + c)) (gs.take i) v = least3 (isL c) (gs.take i) (v - u * prodR (gs.take (i + 1))) := by
  rw [arrL_eq _ _ _ (h.take i), arrL_eq _ _ _ (h.take i)]
  have hp : prodR (gs.take (i + 1)) = prodR (gs.take i) * ix g 0 := by
    unfold prodR
    rw [List.take_add_one, hi, List.foldl_append]
    rfl
  have e : (u * ix g 0 + c) * prodR (gs.take i) = u * prodR (gs.take (i + 1)) + c * prodR (gs.take i) := by
    rw [hp, Nat.add_mul, Nat.mul_assoc, Nat.mul_comm (ix g 0)]
  rw [e]
  split
  · rw [if_pos (by omega), Nat.sub_sub]
  · rw [if_neg (by omega)]
theorem least_snoc (f : Nat → Option Nat) (g : List Nat) : ∀ gs : List (List Nat), least3 f (gs ++ [g]) = least3 (upL3 g f) gs
  | [] => rfl
  | x :: gs => by
    funext u
    show upL3 x (least3 f (gs ++ [g])) u = upL3 x (least3 (upL3 g f) gs) u
    rw [least_snoc f g gs]
theorem aboveL_min {α : Type} (r : Rod) (F : α → Nat → Option Nat) (l : List α) (u w : Nat) : aboveL r (fun x => minBy (fun a => F a x) l) u w = minBy (fun a => aboveL r (F a) u w) l := by
  unfold aboveL
  cases leftOver r u w with
  | some z => rfl
  | none => exact (minBy_none fun _ _ => rfl).symm
theorem least_min3 {α : Type} (F : α → Nat → Option Nat) (l : List α) : ∀ (gs : List (List Nat)) (v : Nat), least3 (fun x => minBy (fun a => F a x) l) gs v = minBy (fun a => least3 (F a) gs v) l
  | [], _ => rfl
  | g :: gs, v => by
    show upL3 g (least3 (fun x => minBy (fun a => F a x) l) gs) v = minBy (fun a => upL3 g (least3 (F a) gs) v) l
    unfold upL3
    rw [show least3 (fun x => minBy (fun a => F a x) l) gs = fun x => minBy (fun a => least3 (F a) gs x) l from funext fun x => least_min3 F l gs x, minBy_comm]
    exact minBy_congr fun p _ => by rw [aboveL_min, minBy_plus]
theorem aboveL_plus (r : Rod) (f : Nat → Option Nat) (c u w : Nat) : aboveL r (fun x => plusO c (f x)) u w = plusO c (aboveL r f u w) := by
  unfold aboveL
  cases leftOver r u w <;> rfl
theorem plus_comm (c d : Nat) (a : Option Nat) : plusO c (plusO d a) = plusO d (plusO c a) := by
  rw [plus_plus, plus_plus, Nat.add_comm]
theorem least_plus (f : Nat → Option Nat) (c : Nat) : ∀ (gs : List (List Nat)) (v : Nat), least3 (fun x => plusO c (f x)) gs v = plusO c (least3 f gs v)
  | [], _ => rfl
  | g :: gs, v => by
    show upL3 g (least3 (fun x => plusO c (f x)) gs) v = plusO c (upL3 g (least3 f gs) v)
    unfold upL3
    rw [show least3 (fun x => plusO c (f x)) gs = fun x => plusO c (least3 f gs x) from funext fun x => least_plus f c gs x, ← minBy_plus]
    exact minBy_congr fun p _ => by rw [aboveL_plus, plus_comm]
theorem upL_zero {g : List Nat} (h : 0 < ix g 0) : upL3 g zeroL = fun u => minBy (fun p => plusO (total p) (isL (worthOf (D3 g) p) u)) (pushes (D3 g)) := by
  funext u
  unfold upL3
  refine minBy_congr fun p _ => congrArg (plusO _) ?_
  rw [aboveL_if, rodOf_ratio]
  unfold zeroL isL
  by_cases e : u = worthOf (D3 g) p
  · rw [if_pos ⟨by omega, by rw [e, Nat.sub_self]; exact Nat.zero_mod _⟩, if_pos (by rw [e, Nat.sub_self]; exact Nat.zero_div _), if_pos e]
  · rw [if_neg e]
    split
    · rename_i c
      rw [if_neg fun z => e ?_]
      have := Nat.div_add_mod (u - worthOf (D3 g) p) (ix g 0)
      rw [z, c.2, Nat.mul_zero] at this
      omega
    · rfl
theorem least_left {gs : List (List Nat)} {i : Nat} {g : List Nat} (hi : gs[i]? = some g) (h : 0 < ix g 0) (v : Nat) : least3 zeroL (gs.take (i + 1)) v = minBy (fun p => plusO (total p) (least3 (isL (worthOf (D3 g) p)) (gs.take i) v)) (pushes (D3 g)) := by
  rw [List.take_add_one, hi]
  show least3 zeroL (gs.take i ++ [g]) v = _
  rw [least_snoc, upL_zero h, least_min3]
  exact minBy_congr fun p _ => least_plus _ _ _ _
/-- the first push with which the fewest beads are reached -/
def fitG (L : Push → Option Nat) (b : Nat) (p : Push) : Bool := decide (plusO (total p) (L p) = some b)
theorem fitting_G {gs : List (List Nat)} (h : AllPos gs) (g : List Nat) (v b : Nat) (p : Push) : fitting3 (least3 zeroL gs) (prodR gs) g v b p = fitG (fun p => least3 (isL (worthOf (D3 g) p)) gs v) b p := by
  unfold fitting3 fitG
  show _ = decide (plusO (total p) (least3 (isL (worthOf (D3 g) p)) gs v) = some b)
  rw [arrL_eq _ _ _ h]
  by_cases c : worthOf (D3 g) p * prodR gs ≤ v
  · rw [decide_eq_true c, if_pos c, Bool.true_and]
  · rw [decide_eq_false c, if_neg c, Bool.false_and]
    rfl
theorem first3_step {gs : List (List Nat)} (h : AllPos gs) {i : Nat} {g : List Nat} (hi : gs[i]? = some g) {v b : Nat} (hb : least3 zeroL (gs.take (i + 1)) v = some b) :
    ∃ p, (pushes (D3 g)).find? (fitG (fun p => least3 (isL (worthOf (D3 g) p)) (gs.take i) v) b) = some p ∧ p ∈ pushes (D3 g) ∧ worthOf (D3 g) p * prodR (gs.take i) ≤ v ∧ total p ≤ b ∧ least3 zeroL (gs.take i) (v - worthOf (D3 g) p * prodR (gs.take i)) = some (b - total p) ∧
      first3 gs (i + 1) v b = (first3 gs i (v - worthOf (D3 g) p * prodR (gs.take i)) (b - total p)).map fun s => s ++ p := by
  rw [least_left hi (h g (List.mem_of_getElem? hi))] at hb
  obtain ⟨q, hq, hqb⟩ := minBy_mem hb
  have hs : ((pushes (D3 g)).find? (fitG (fun p => least3 (isL (worthOf (D3 g) p)) (gs.take i) v) b)).isSome = true := by
    rw [List.find?_isSome]
    exact ⟨q, hq, decide_eq_true hqb⟩
  obtain ⟨p, hp⟩ := Option.isSome_iff_exists.mp hs
  have hf0 : fitG (fun p => least3 (isL (worthOf (D3 g) p)) (gs.take i) v) b p = true := List.find?_some hp
  have hf : plusO (total p) (least3 (isL (worthOf (D3 g) p)) (gs.take i) v) = some b := of_decide_eq_true hf0
  rw [arrL_eq _ _ _ (h.take i)] at hf
  by_cases c : worthOf (D3 g) p * prodR (gs.take i) ≤ v
  · rw [if_pos c] at hf
    have hl : ∃ d, least3 zeroL (gs.take i) (v - worthOf (D3 g) p * prodR (gs.take i)) = some d ∧ total p + d = b := by
      cases e : least3 zeroL (gs.take i) (v - worthOf (D3 g) p * prodR (gs.take i)) with
      | none =>
        rw [e] at hf
        cases hf
      | some d =>
        rw [e] at hf
        exact ⟨d, rfl, Option.some.inj hf⟩
    obtain ⟨d, h1, h2⟩ := hl
    refine ⟨p, hp, List.mem_of_find?_eq_some hp, c, by omega, by rw [h1, ← h2, Nat.add_sub_cancel_left], ?_⟩
    show (match gs[i]? with
      | none => none
      | some g => match (pushes (D3 g)).find? (fitting3 (least3 zeroL (gs.take i)) (prodR (gs.take i)) g v b) with
        | none => none
        | some p => (first3 gs i (v - worthOf (D3 g) p * prodR (gs.take i)) (b - total p)).map fun s => s ++ p) = _
    rw [hi]
    show (match (pushes (D3 g)).find? (fitting3 (least3 zeroL (gs.take i)) (prodR (gs.take i)) g v b) with
        | none => none
        | some p => (first3 gs i (v - worthOf (D3 g) p * prodR (gs.take i)) (b - total p)).map fun s => s ++ p) = _
    rw [show fitting3 (least3 zeroL (gs.take i)) (prodR (gs.take i)) g v b = fitG (fun p => least3 (isL (worthOf (D3 g) p)) (gs.take i) v) b from funext fun p => fitting_G (h.take i) g v b p, hp]
  · rw [if_neg c] at hf
    cases hf
theorem first3_zero {gs : List (List Nat)} {v b : Nat} (hb : least3 zeroL (gs.take 0) v = some b) : v = 0 ∧ b = 0 ∧ first3 gs 0 v b = some [] := by
  have hb' : (if v = 0 then some 0 else none) = some b := hb
  by_cases c : v = 0
  · rw [if_pos c] at hb'
    obtain rfl := Option.some.inj hb'
    exact ⟨c, rfl, if_pos ⟨c, rfl⟩⟩
  · rw [if_neg c] at hb'
    cases hb'
theorem first3_len {gs : List (List Nat)} (h : AllPos gs) : ∀ {i v b : Nat}, i ≤ gs.length → least3 zeroL (gs.take i) v = some b → ∃ s, first3 gs i v b = some s ∧ s.length = 3 * i
  | 0, v, b, _, hb => ⟨[], (first3_zero hb).2.2, rfl⟩
  | i + 1, v, b, hl, hb => by
    obtain ⟨g, e⟩ : ∃ g, gs[i]? = some g := ⟨gs[i], List.getElem?_eq_getElem (by omega)⟩
    obtain ⟨p, _, hp, _, _, hr, he⟩ := first3_step h e hb
    obtain ⟨s, h1, h2⟩ := first3_len h (i := i) (by omega) hr
    obtain ⟨a, b', c, _, _, _, rfl⟩ := mem_p3.mp hp
    exact ⟨s ++ [a, b', c], by rw [he, h1]; rfl, by rw [List.length_append, h2]; rfl⟩
theorem fewest3_none {gs : List (List Nat)} {v : Nat} (h : least3 zeroL gs v = none) : fewest3 gs v = none := by
  unfold fewest3
  rw [h]
  rfl
theorem fewest3_some {gs : List (List Nat)} (hp : AllPos gs) {v b : Nat} (h : least3 zeroL gs v = some b) : ∃ s, fewest3 gs v = some s ∧ s.length = 3 * gs.length := by
  obtain ⟨s, h1, h2⟩ := first3_len hp (i := gs.length) (v := v) (b := b) (Nat.le_refl _) (by rw [List.take_length]; exact h)
  refine ⟨s, ?_, h2⟩
  unfold fewest3
  rw [h]
  exact h1
theorem fewest3_len {gs : List (List Nat)} (hp : AllPos gs) {v : Nat} {s : List Nat} (h : fewest3 gs v = some s) : s.length = 3 * gs.length := by
  cases e : least3 zeroL gs v with
  | none =>
    rw [fewest3_none e] at h
    cases h
  | some b =>
    obtain ⟨t, h1, h2⟩ := fewest3_some hp e
    rw [h1] at h
    rw [← Option.some.inj h]
    exact h2
/-! ### tables -/
theorem wt_find : ∀ (l : List (Nat × Nat)) (u : Nat), (l.map (·.1)).Nodup → wt (isN u) l = (((l.find? fun x => decide (x.1 = u)).map (·.2)).getD 0)
  | [], _, _ => rfl
  | x :: l, u, h => by
    rw [List.map_cons, List.nodup_cons] at h
    show x.2 * isN u x.1 + wt (isN u) l = _
    rw [List.find?_cons]
    by_cases e : x.1 = u
    · rw [decide_eq_true e]
      show _ = x.2
      rw [show isN u x.1 = 1 from if_pos e, Nat.mul_one]
      have : wt (isN u) l = 0 := sumBy_zero fun y hy => by
        rw [show isN u y.1 = 0 from if_neg fun z => h.1 (List.mem_map.mpr ⟨y, hy, z.trans e.symm⟩), Nat.mul_zero]
      omega
    · rw [decide_eq_false e, show isN u x.1 = 0 from if_neg e, Nat.mul_zero, Nat.zero_add]
      exact wt_find l u h.2
/-- what the table before rod i holds of u: the ways of the rods to the right that leave u -/
theorem table_at (gs : List (List Nat)) (v u : Nat) : (((furthers gs [(v, 1)]).find? fun x => decide (x.1 = u)).map (·.2)).getD 0 = cnt3F (isN u) gs v := by
  rw [← wt_find _ _ (furthers_nodup gs _ (by simp)), wt_furthers]
  show 1 * cnt3F (isN u) gs v + 0 = _
  omega
theorem furthers_take (gs : List (List Nat)) (l : List (Nat × Nat)) {i : Nat} {g : List Nat} (hi : gs[i]? = some g) : furthers (gs.take (i + 1)) l = further g (furthers (gs.take i) l) := by
  unfold furthers
  rw [List.take_add_one, hi, List.foldl_append]
  rfl
end Bf
namespace Bf
open Na
/-! ### tables of the fewest beads -/
def talM (g : List Nat) (ps : List (List Nat)) : List (Nat × Nat) := ps.foldl (fun t p => putWith min (cnt3 g p) (total p) t) []
theorem lt_talM (g : List Nat) (f : Nat → Option Nat) (ps : List (List Nat)) : lt_ f (talM g ps) = minBy (fun p => plusO (total p) (f (cnt3 g p))) ps := by
  have key : ∀ (ps : List (List Nat)) (t : List (Nat × Nat)), lt_ f (ps.foldl (fun t p => putWith min (cnt3 g p) (total p) t) t) = mn (lt_ f t) (minBy (fun p => plusO (total p) (f (cnt3 g p))) ps) := by
    intro ps
    induction ps with
    | nil => intro t; exact (mn_none _).symm
    | cons p ps ih =>
      intro t
      rw [List.foldl_cons, ih, lt_put, mn_assoc]
      rfl
  exact key ps []
theorem talM_nodup (g : List Nat) (ps : List (List Nat)) : ((talM g ps).map (·.1)).Nodup :=
  fold_keep (P := fun (z : List (Nat × Nat)) => (z.map (·.1)).Nodup) (fun z y hz => put_nodup _ _ _ _ hz) ps [] List.nodup_nil
theorem talM_keys {g : List Nat} {ps : List (List Nat)} {x : Nat × Nat} (h : x ∈ talM g ps) : ∃ p ∈ ps, x.1 = cnt3 g p := by
  have key : ∀ (ps : List (List Nat)) (t : List (Nat × Nat)), x ∈ ps.foldl (fun t p => putWith min (cnt3 g p) (total p) t) t → x ∈ t ∨ ∃ p ∈ ps, x.1 = cnt3 g p := by
    intro ps
    induction ps with
    | nil => intro t h; exact .inl h
    | cons p ps ih =>
      intro t h
      rcases ih _ h with h1 | ⟨q, hq, e⟩
      · rcases put_mem h1 with e | h2
        · exact .inr ⟨p, List.mem_cons_self .., e⟩
        · exact .inl h2
      · exact .inr ⟨q, List.mem_cons_of_mem _ hq, e⟩
  rcases key ps [] h with h1 | h2
  · cases h1
  · exact h2
theorem talM_le {g : List Nat} (h : numsSound g = true) (hw : worthT g ≤ 255) : ∀ y ∈ talM g (pushes (D3 g)), y.1 ≤ 255 := by
  intro y hy
  obtain ⟨p, hp, e⟩ := talM_keys hy
  rw [e, cnt3_worth hp]
  have := worth_most _ _ hp
  have e2 : total ((D3 g).map fun d => d.beads * d.worth) = worthT g := by
    show ix g 1 * ix g 2 + (ix g 3 * ix g 4 + (ix g 5 * ix g 6 + 0)) = 0 + ix g 1 * ix g 2 + ix g 3 * ix g 4 + ix g 5 * ix g 6
    omega
  omega
def innerM (g : List Nat) (x : Nat × Nat) (t z : List (Nat × Nat)) : List (Nat × Nat) := t.foldl (fun z y => if y.1 ≤ x.1 ∧ (x.1 - y.1) % ix g 0 = 0 then putWith min ((x.1 - y.1) / ix g 0) (x.2 + y.2) z else z) z
def outerM (g : List Nat) (t : List (Nat × Nat)) (l z : List (Nat × Nat)) : List (Nat × Nat) := l.foldl (fun z x => innerM g x t z) z
theorem lt_innerM (g : List Nat) (f : Nat → Option Nat) (x : Nat × Nat) : ∀ (t z : List (Nat × Nat)), lt_ f (innerM g x t z) = mn (lt_ f z) (plusO x.2 (lt_ (fun w => aboveL (rodOf g) f x.1 w) t))
  | [], z => (mn_none _).symm
  | y :: t, z => by
    have ih := lt_innerM g f x t
    show lt_ f (innerM g x t (if y.1 ≤ x.1 ∧ (x.1 - y.1) % ix g 0 = 0 then putWith min ((x.1 - y.1) / ix g 0) (x.2 + y.2) z else z)) = mn (lt_ f z) (plusO x.2 (mn (plusO y.2 (aboveL (rodOf g) f x.1 y.1)) (lt_ (fun w => aboveL (rodOf g) f x.1 w) t)))
    rw [ih, plus_mn, ← mn_assoc]
    refine congrArg (fun q => mn q _) ?_
    rw [aboveL_if, rodOf_ratio]
    by_cases c : y.1 ≤ x.1 ∧ (x.1 - y.1) % ix g 0 = 0
    · rw [if_pos c, if_pos c, lt_put, plus_plus]
    · rw [if_neg c, if_neg c]
      exact (mn_none _).symm
theorem lt_outerM (g : List Nat) (f : Nat → Option Nat) (t : List (Nat × Nat)) : ∀ (l z : List (Nat × Nat)), lt_ f (outerM g t l z) = mn (lt_ f z) (lt_ (fun u => lt_ (fun w => aboveL (rodOf g) f u w) t) l)
  | [], z => (mn_none _).symm
  | x :: l, z => by
    show lt_ f (outerM g t l (innerM g x t z)) = mn (lt_ f z) (mn (plusO x.2 (lt_ (fun w => aboveL (rodOf g) f x.1 w) t)) (lt_ (fun u => lt_ (fun w => aboveL (rodOf g) f u w) t) l))
    rw [lt_outerM g f t l, lt_innerM, mn_assoc]
def furtherM (g : List Nat) (l : List (Nat × Nat)) : List (Nat × Nat) := outerM g (talM g (pushes (D3 g))) l []
theorem lt_furtherM (g : List Nat) (f : Nat → Option Nat) (l : List (Nat × Nat)) : lt_ f (furtherM g l) = lt_ (upL3 g f) l := by
  unfold furtherM
  rw [lt_outerM, show lt_ f [] = none from rfl, mn_comm, mn_none]
  unfold lt_
  refine minBy_congr fun x _ => ?_
  show plusO x.2 (lt_ (fun w => aboveL (rodOf g) f x.1 w) (talM g (pushes (D3 g)))) = _
  rw [lt_talM]
  unfold upL3
  refine congrArg (plusO x.2) (minBy_congr fun p hp => ?_)
  rw [cnt3_worth hp]
theorem innerM_nodup {g : List Nat} {x : Nat × Nat} {t z : List (Nat × Nat)} (h : (z.map (·.1)).Nodup) : ((innerM g x t z).map (·.1)).Nodup :=
  fold_keep (P := fun (z : List (Nat × Nat)) => (z.map (·.1)).Nodup) (fun z y hz => by
    split
    · exact put_nodup _ _ _ _ hz
    · exact hz) t z h
theorem outerM_nodup {g : List Nat} {t l z : List (Nat × Nat)} (h : (z.map (·.1)).Nodup) : ((outerM g t l z).map (·.1)).Nodup :=
  fold_keep (P := fun (z : List (Nat × Nat)) => (z.map (·.1)).Nodup) (fun z y hz => innerM_nodup hz) l z h
theorem innerM_win {g : List Nat} {x : Nat × Nat} {t z : List (Nat × Nat)} {lo : Nat} (hr : 2 ≤ ix g 0) (ht : ∀ y ∈ t, y.1 ≤ 255) (hx : lo ≤ x.1 ∧ x.1 < lo + 258) (h : InWin ((lo - 255) / ix g 0) 258 z) : InWin ((lo - 255) / ix g 0) 258 (innerM g x t z) := by
  induction t generalizing z with
  | nil => exact h
  | cons y t ih =>
    refine ih (fun w hw => ht w (List.mem_cons_of_mem _ hw)) ?_
    dsimp only
    split
    · rename_i c
      exact win_put h (win_up hx (ht y (List.mem_cons_self ..)) c.1 hr)
    · exact h
theorem outerM_win {g : List Nat} {t l z : List (Nat × Nat)} {lo : Nat} (hr : 2 ≤ ix g 0) (ht : ∀ y ∈ t, y.1 ≤ 255) (hl : InWin lo 258 l) (h : InWin ((lo - 255) / ix g 0) 258 z) : InWin ((lo - 255) / ix g 0) 258 (outerM g t l z) := by
  induction l generalizing z with
  | nil => exact h
  | cons x l ih => exact ih (fun w hw => hl w (List.mem_cons_of_mem _ hw)) (innerM_win hr ht (hl x (List.mem_cons_self ..)) h)
def furthersM (gs : List (List Nat)) (l : List (Nat × Nat)) : List (Nat × Nat) := gs.foldl (fun l g => furtherM g l) l
theorem lt_furthersM (f : Nat → Option Nat) : ∀ (gs : List (List Nat)) (l : List (Nat × Nat)), lt_ f (furthersM gs l) = lt_ (least3 f gs) l
  | [], _ => rfl
  | g :: gs, l => by
    show lt_ f (furthersM gs (furtherM g l)) = _
    rw [lt_furthersM f gs, lt_furtherM]
    rfl
theorem furthersM_nodup : ∀ (gs : List (List Nat)) (l : List (Nat × Nat)), (l.map (·.1)).Nodup → ((furthersM gs l).map (·.1)).Nodup
  | [], _, h => h
  | g :: gs, l, h => furthersM_nodup gs (furtherM g l) (outerM_nodup List.nodup_nil)
theorem furthersM_win : ∀ (gs : List (List Nat)) (l : List (Nat × Nat)) (lo : Nat), (∀ g ∈ gs, numsSound g = true ∧ worthT g ≤ 255) → InWin lo 258 l → ∃ lo', InWin lo' 258 (furthersM gs l)
  | [], l, lo, _, h => ⟨lo, h⟩
  | g :: gs, l, lo, hg, h => by
    have a := hg g (List.mem_cons_self ..)
    exact furthersM_win gs (furtherM g l) _ (fun x hx => hg x (List.mem_cons_of_mem _ hx)) (outerM_win (nums_facts a.1).1 (talM_le a.1 a.2) h fun x hx => by cases hx)
theorem furthersM_take (gs : List (List Nat)) (l : List (Nat × Nat)) {i : Nat} {g : List Nat} (hi : gs[i]? = some g) : furthersM (gs.take (i + 1)) l = furtherM g (furthersM (gs.take i) l) := by
  unfold furthersM
  rw [List.take_add_one, hi, List.foldl_append]
  rfl
theorem lt_find : ∀ (l : List (Nat × Nat)) (u : Nat), (l.map (·.1)).Nodup → lt_ (isL u) l = (l.find? fun x => decide (x.1 = u)).map (·.2)
  | [], _, _ => rfl
  | x :: l, u, h => by
    rw [List.map_cons, List.nodup_cons] at h
    show mn (plusO x.2 (isL u x.1)) (lt_ (isL u) l) = _
    rw [List.find?_cons]
    by_cases e : x.1 = u
    · rw [decide_eq_true e, show isL u x.1 = some 0 from if_pos e]
      have : lt_ (isL u) l = none := minBy_none fun y hy => by
        rw [show isL u y.1 = none from if_neg fun z => h.1 (List.mem_map.mpr ⟨y, hy, z.trans e.symm⟩)]
        rfl
      rw [this, mn_none]
      exact congrArg some (Nat.add_zero _)
    · rw [decide_eq_false e, show isL u x.1 = none from if_neg e, show plusO x.2 none = none from rfl, mn_comm, mn_none]
      exact lt_find l u h.2
theorem tableM_at (gs : List (List Nat)) (v u : Nat) : ((furthersM gs [(v, 0)]).find? fun x => decide (x.1 = u)).map (·.2) = least3 (isL u) gs v := by
  rw [← lt_find _ _ (furthersM_nodup gs _ (by simp)), lt_furthersM]
  show mn (plusO 0 (least3 (isL u) gs v)) none = _
  rw [mn_none]
  cases least3 (isL u) gs v with
  | none => rfl
  | some b => exact congrArg some (Nat.zero_add b)
theorem innerM_take {g : List Nat} {x : Nat × Nat} {t z : List (Nat × Nat)} {i : Nat} {y : Nat × Nat} (h : t[i]? = some y) : innerM g x (t.take (i + 1)) z = if y.1 ≤ x.1 ∧ (x.1 - y.1) % ix g 0 = 0 then putWith min ((x.1 - y.1) / ix g 0) (x.2 + y.2) (innerM g x (t.take i) z) else innerM g x (t.take i) z := by
  unfold innerM
  rw [List.take_add_one, h, List.foldl_append]
  rfl
theorem outerM_take {g : List Nat} {t l z : List (Nat × Nat)} {i : Nat} {x : Nat × Nat} (h : l[i]? = some x) : outerM g t (l.take (i + 1)) z = innerM g x t (outerM g t (l.take i) z) := by
  unfold outerM
  rw [List.take_add_one, h, List.foldl_append]
  rfl
end Bf
namespace Bf
open Na
/-! ### pushes by three loops -/
def row3 (a b n : Nat) : List (List Nat) := (List.range n).map fun c => [a, b, c]
def row2 (g : List Nat) (a n : Nat) : List (List Nat) := (List.range n).flatMap fun b => row3 a b (ix g 5 + 1)
def row1 (g : List Nat) (n : Nat) : List (List Nat) := (List.range n).flatMap fun a => row2 g a (ix g 3 + 1)
def pushes3 (g : List Nat) : List (List Nat) := row1 g (ix g 1 + 1)
theorem row3_succ (a b n : Nat) : row3 a b (n + 1) = row3 a b n ++ [[a, b, n]] := by
  unfold row3
  rw [List.range_succ, List.map_append]
  rfl
theorem row2_succ (g : List Nat) (a n : Nat) : row2 g a (n + 1) = row2 g a n ++ row3 a n (ix g 5 + 1) := by
  unfold row2
  rw [List.range_succ, List.flatMap_append]
  simp
theorem row1_succ (g : List Nat) (n : Nat) : row1 g (n + 1) = row1 g n ++ row2 g n (ix g 3 + 1) := by
  unfold row1
  rw [List.range_succ, List.flatMap_append]
  simp
theorem row3_len (a b n : Nat) : (row3 a b n).length = n := by
  unfold row3
  simp
theorem row2_len (g : List Nat) (a : Nat) : ∀ n, (row2 g a n).length = n * (ix g 5 + 1)
  | 0 => (Nat.zero_mul _).symm
  | n + 1 => by rw [row2_succ, List.length_append, row2_len g a n, row3_len, Nat.succ_mul]
theorem row1_len (g : List Nat) : ∀ n, (row1 g n).length = n * ((ix g 3 + 1) * (ix g 5 + 1))
  | 0 => (Nat.zero_mul _).symm
  | n + 1 => by
    rw [row1_succ, List.length_append, row1_len g n, row2_len]
    exact (Nat.succ_mul n _).symm
theorem pushes3_eq (g : List Nat) : pushes3 g = Na.pushes (D3 g) := by
  show _ = (List.range (ix g 1 + 1)).flatMap fun a => ((List.range (ix g 3 + 1)).flatMap fun b => ((List.range (ix g 5 + 1)).flatMap fun c => [[c]]).map fun p => b :: p).map fun p => a :: p
  unfold pushes3 row1 row2 row3
  refine congrArg (fun f => List.flatMap f (List.range (ix g 1 + 1))) (funext fun a => ?_)
  rw [List.map_flatMap]
  refine congrArg (fun f => List.flatMap f (List.range (ix g 3 + 1))) (funext fun b => ?_)
  rw [List.map_map, List.map_flatMap]
  show _ = (List.range (ix g 5 + 1)).flatMap fun c => [[a, b, c]]
  induction List.range (ix g 5 + 1) with
  | nil => rfl
  | cons x l ih =>
    rw [List.map_cons, List.flatMap_cons, ih]
    rfl
theorem beads_le {g : List Nat} (h : numsSound g = true) : ix g 1 ≤ 15 ∧ ix g 3 ≤ 15 ∧ ix g 5 ≤ 15 := by
  have hs := (nums_facts h).2.2.1
  exact ⟨(sound_le (hs (ix g 1, ix g 2) (by unfold decks; simp))).1, (sound_le (hs (ix g 3, ix g 4) (by unfold decks; simp))).1, (sound_le (hs (ix g 5, ix g 6) (by unfold decks; simp))).1⟩
theorem rows_small {g : List Nat} (h : numsSound g = true) {i j k : Nat} (hi : i ≤ ix g 1) (hj : j ≤ ix g 3) (hk : k ≤ ix g 5) {a a2 b2 : Nat} : (row1 g i ++ row2 g a j ++ row3 a2 b2 k).length < 5000 := by
  obtain ⟨b1, b3, b5⟩ := beads_le h
  rw [List.length_append, List.length_append, row1_len, row2_len, row3_len]
  have e1 : (ix g 3 + 1) * (ix g 5 + 1) ≤ 16 * 16 := Nat.mul_le_mul (by omega) (by omega)
  have e2 : i * ((ix g 3 + 1) * (ix g 5 + 1)) ≤ 15 * (16 * 16) := Nat.mul_le_mul (by omega) e1
  have e3 : j * (ix g 5 + 1) ≤ 15 * 16 := Nat.mul_le_mul (by omega) (by omega)
  omega
theorem push_three {g : List Nat} {p : List Nat} (hn : numsSound g = true) (h : p ∈ pushes3 g) : ∃ a b c, p = [a, b, c] ∧ a ≤ 15 ∧ b ≤ 15 ∧ c ≤ 15 := by
  rw [pushes3_eq] at h
  obtain ⟨a, b, c, ha, hb, hc, rfl⟩ := mem_p3.mp h
  obtain ⟨b1, b3, b5⟩ := beads_le hn
  exact ⟨a, b, c, rfl, by omega, by omega, by omega⟩
theorem wt_total : ∀ l : List (Nat × Nat), wt (fun _ => 1) l = Na.total (l.map (·.2))
  | [] => rfl
  | x :: l => by
    show x.2 * 1 + wt (fun _ => 1) l = x.2 + Na.total (l.map (·.2))
    rw [wt_total l, Nat.mul_one]
theorem innerL_take {g : List Nat} {x : Nat × Nat} {t z : List (Nat × Nat)} {i : Nat} {y : Nat × Nat} (h : t[i]? = some y) : innerL g x (t.take (i + 1)) z = if y.1 ≤ x.1 ∧ (x.1 - y.1) % ix g 0 = 0 then putWith (fun a b => a + b) ((x.1 - y.1) / ix g 0) (x.2 * y.2) (innerL g x (t.take i) z) else innerL g x (t.take i) z := by
  unfold innerL
  rw [List.take_add_one, h, List.foldl_append]
  rfl
theorem outerL_take {g : List Nat} {t l z : List (Nat × Nat)} {i : Nat} {x : Nat × Nat} (h : l[i]? = some x) : outerL g t (l.take (i + 1)) z = innerL g x t (outerL g t (l.take i) z) := by
  unfold outerL
  rw [List.take_add_one, h, List.foldl_append]
  rfl
theorem tal_small {g : List Nat} (hn : numsSound g = true) : ∀ y ∈ tal g (pushes3 g), y.2 ≤ 4096 := by
  intro y hy
  have h1 := wt_entry hy
  rw [wt_tal] at h1
  have h2 := sumBy_const 1 (pushes3 g)
  have h3 : (pushes3 g).length ≤ 4096 := by
    rw [pushes3_eq]
    exact p3_few hn
  omega
end Bf
namespace Bf
open Na
/-! ### how many beads there are, deck by deck -/
def bds : List (List Nat) → List Nat
  | [] => []
  | g :: gs => ix g 1 :: ix g 3 :: ix g 5 :: bds gs
theorem bds_len : ∀ gs : List (List Nat), (bds gs).length = 3 * gs.length
  | [] => rfl
  | g :: gs => by
    show (bds gs).length + 1 + 1 + 1 = 3 * (gs.length + 1)
    rw [bds_len gs]
    omega
theorem bds_snoc : ∀ (gs : List (List Nat)) (g : List Nat), bds (gs ++ [g]) = bds gs ++ [ix g 1, ix g 3, ix g 5]
  | [], _ => rfl
  | x :: gs, g => by
    show ix x 1 :: ix x 3 :: ix x 5 :: bds (gs ++ [g]) = _
    rw [bds_snoc gs g]
    rfl
theorem bds_at : ∀ (gs : List (List Nat)) (k : Nat), k < 3 * gs.length → (bds gs)[k]? = some (ix (gs.getD (k / 3) []) (1 + 2 * (k % 3)))
  | [], k, h => absurd h (Nat.not_lt_zero _)
  | g :: gs, 0, _ => rfl
  | g :: gs, 1, _ => rfl
  | g :: gs, 2, _ => rfl
  | g :: gs, k + 3, h => by
    rw [show (k + 3) / 3 = k / 3 + 1 by omega, show (k + 3) % 3 = k % 3 by omega]
    exact bds_at gs k (by rw [List.length_cons] at h; omega)
theorem over_bds {gs : List (List Nat)} {st : List Nat} {k m p : Nat} (hk : k < 3 * gs.length) (hm : (bds gs)[k]? = some m) (hp : st[k]? = some p) : over gs st k = decide (m < p) := by
  rw [bds_at gs k hk] at hm
  unfold over
  rw [Option.some.inj hm, List.getD_eq_getElem?_getD, hp]
  rfl
/-! ### a standing, rod by rod -/
def cut3 (st : List Nat) : List (List Nat) := (List.range (st.length / 3)).map fun i => (st.drop (3 * i)).take 3
theorem cut3_len (st : List Nat) : (cut3 st).length = st.length / 3 := by
  unfold cut3
  rw [List.length_map, List.length_range]
theorem cut3_at {st : List Nat} {i : Nat} {q : List Nat} (h : (cut3 st)[i]? = some q) : q = [st.getD (3 * i) 0, st.getD (3 * i + 1) 0, st.getD (3 * i + 2) 0] ∧ 3 * i + 3 ≤ st.length := by
  have hi : i < st.length / 3 := by
    rw [← cut3_len]
    exact (List.getElem?_eq_some_iff.mp h).1
  unfold cut3 at h
  rw [List.getElem?_map, List.getElem?_range hi] at h
  have e : (st.drop (3 * i)).take 3 = q := Option.some.inj h
  refine ⟨?_, by omega⟩
  rw [← e]
  apply List.ext_getElem?
  intro j
  rw [List.getElem?_take]
  by_cases hj : j < 3
  · rw [if_pos hj, List.getElem?_drop]
    have lt : 3 * i + j < st.length := by omega
    rw [List.getElem?_eq_getElem lt]
    match j, hj with
    | 0, _ => simp [List.getD_eq_getElem?_getD, List.getElem?_eq_getElem (show 3 * i < st.length by omega)]
    | 1, _ => simp [List.getD_eq_getElem?_getD, List.getElem?_eq_getElem (show 3 * i + 1 < st.length by omega)]
    | 2, _ => simp [List.getD_eq_getElem?_getD, List.getElem?_eq_getElem (show 3 * i + 2 < st.length by omega)]
  · rw [if_neg hj]
    exact (List.getElem?_eq_none_iff.mpr (by simp; omega)).symm
theorem getD_drop (st : List Nat) (n j : Nat) : (st.drop n).getD j 0 = st.getD (n + j) 0 := by
  rw [List.getD_eq_getElem?_getD, List.getElem?_drop, List.getD_eq_getElem?_getD]
/-- the value so far and the next place, of the first i rods -/
def valAt (gs : List (List Nat)) (st : List Nat) : Nat → Nat
  | 0 => 0
  | i + 1 => valAt gs st i + count3 (gs.getD i []) (st.getD (3 * i) 0) (st.getD (3 * i + 1) 0) (st.getD (3 * i + 2) 0) * prodR (gs.take i)
theorem valAt_succ {gs : List (List Nat)} {st : List Nat} {i : Nat} {g : List Nat} (h : gs[i]? = some g) : valAt gs st (i + 1) = valAt gs st i + count3 g (st.getD (3 * i) 0) (st.getD (3 * i + 1) 0) (st.getD (3 * i + 2) 0) * prodR (gs.take i) := by
  have e : gs.getD i [] = g := by
    rw [List.getD_eq_getElem?_getD, h]
    rfl
  rw [← e]
  rfl
theorem prodR_cons (g : List Nat) (gs : List (List Nat)) : prodR (g :: gs) = ix g 0 * prodR gs := by
  unfold prodR
  rw [prod_span, prod_span, Nat.one_mul, Nat.one_mul]
  rfl
theorem prodR_snoc {gs : List (List Nat)} {i : Nat} {g : List Nat} (h : gs[i]? = some g) : prodR (gs.take (i + 1)) = prodR (gs.take i) * ix g 0 := by
  unfold prodR
  rw [List.take_add_one, h, List.foldl_append]
  rfl
theorem valAt_cons (g : List Nat) (gs : List (List Nat)) (st : List Nat) : ∀ i : Nat, valAt (g :: gs) st (i + 1) = count3 g (st.getD 0 0) (st.getD 1 0) (st.getD 2 0) + ix g 0 * valAt gs (st.drop 3) i
  | 0 => by
    show 0 + count3 g _ _ _ * prodR [] = _
    unfold valAt prodR
    simp
  | i + 1 => by
    show valAt (g :: gs) st (i + 1) + count3 (gs.getD i []) (st.getD (3 * (i + 1)) 0) (st.getD (3 * (i + 1) + 1) 0) (st.getD (3 * (i + 1) + 2) 0) * prodR (g :: gs.take i) = _
    rw [valAt_cons g gs st i]
    show _ = _ + ix g 0 * (valAt gs (st.drop 3) i + count3 (gs.getD i []) ((st.drop 3).getD (3 * i) 0) ((st.drop 3).getD (3 * i + 1) 0) ((st.drop 3).getD (3 * i + 2) 0) * prodR (gs.take i))
    rw [getD_drop, getD_drop, getD_drop, prodR_cons, show 3 * (i + 1) = 3 + 3 * i by omega, show 3 + 3 * i + 1 = 3 + (3 * i + 1) by omega, show 3 + 3 * i + 2 = 3 + (3 * i + 2) by omega, Nat.mul_add, Nat.add_assoc]
    congr 2
    rw [Nat.mul_left_comm]
theorem valAt_all : ∀ (gs : List (List Nat)) (st : List Nat), valAt gs st gs.length = rawVal gs st
  | [], _ => rfl
  | g :: gs, st => by
    show valAt (g :: gs) st (gs.length + 1) = count3 g (st.getD 0 0) (st.getD 1 0) (st.getD 2 0) + ix g 0 * rawVal gs (st.drop 3)
    rw [valAt_cons, valAt_all gs (st.drop 3)]
/-! ### digits one by one -/
def lefts (gs : List (List Nat)) (u : Nat) : Nat := gs.foldl (fun v g => v / ix g 0) u
theorem digs_snoc : ∀ (gs : List (List Nat)) (g : List Nat) (u : Nat), digs (gs ++ [g]) u = digs gs u ++ [lefts gs u % ix g 0]
  | [], g, u => rfl
  | x :: gs, g, u => by
    show u % ix x 0 :: digs (gs ++ [g]) (u / ix x 0) = _
    rw [digs_snoc gs g]
    rfl
theorem digs_len : ∀ (gs : List (List Nat)) (u : Nat), (digs gs u).length = gs.length
  | [], _ => rfl
  | x :: gs, u => congrArg (· + 1) (digs_len gs _)
theorem shown3_snoc : ∀ (gs : List (List Nat)) (g : List Nat) (u : Nat), shown3 (gs ++ [g]) u = shown3 gs u ++ form3 g (lefts gs u % ix g 0)
  | [], g, u => by
    show form3 g (u % ix g 0) ++ [] = [] ++ form3 g (u % ix g 0)
    simp
  | x :: gs, g, u => by
    show form3 x (u % ix x 0) ++ shown3 (gs ++ [g]) (u / ix x 0) = (form3 x (u % ix x 0) ++ shown3 gs (u / ix x 0)) ++ _
    rw [shown3_snoc gs g, List.append_assoc]
    rfl
theorem digs_at : ∀ (gs : List (List Nat)) (u i : Nat) (g : List Nat), gs[i]? = some g → (digs gs u)[i]? = some (lefts (gs.take i) u % ix g 0)
  | x :: gs, u, 0, g, h => by
    obtain rfl := Option.some.inj h
    rfl
  | x :: gs, u, i + 1, g, h => digs_at gs (u / ix x 0) i g h
/-! ### in form, rod by rod -/
def rodForm (g : List Nat) (st : List Nat) (i : Nat) : Bool := decide (count3 g (st.getD (3 * i) 0) (st.getD (3 * i + 1) 0) (st.getD (3 * i + 2) 0) < ix g 0) && decide ([st.getD (3 * i) 0, st.getD (3 * i + 1) 0, st.getD (3 * i + 2) 0] = form3 g (count3 g (st.getD (3 * i) 0) (st.getD (3 * i + 1) 0) (st.getD (3 * i + 2) 0)))
theorem inForm3_iff : ∀ (gs : List (List Nat)) (st : List Nat), inForm3 gs st = true ↔ ∀ (i : Nat) (g : List Nat), gs[i]? = some g → rodForm g st i = true
  | [], st => ⟨fun _ i g h => by simp at h, fun _ => rfl⟩
  | x :: gs, st => by
    show (rodForm x st 0 && inForm3 gs (st.drop 3)) = true ↔ _
    rw [Bool.and_eq_true, inForm3_iff gs (st.drop 3)]
    have e : ∀ (g : List Nat) (i : Nat), rodForm g (st.drop 3) i = rodForm g st (i + 1) := fun g i => by
      unfold rodForm
      rw [getD_drop, getD_drop, getD_drop, show 3 * (i + 1) = 3 + 3 * i by omega, show 3 + 3 * i + 1 = 3 + (3 * i + 1) by omega, show 3 + 3 * i + 2 = 3 + (3 * i + 2) by omega]
    constructor
    · rintro ⟨h1, h2⟩ i g hi
      match i, hi with
      | 0, hi =>
        obtain rfl := Option.some.inj hi
        exact h1
      | i + 1, hi =>
        rw [← e]
        exact h2 i g hi
    · intro h
      exact ⟨h 0 x rfl, fun i g hi => by rw [e]; exact h (i + 1) g hi⟩
/-! ### a digit's form, by a search from most beads of deck 0 down -/
def mp (b w d : Nat) : Nat := if b = 0 then 0 else min b (d / w)
theorem mp_le (b w d : Nat) : mp b w d ≤ b := by
  unfold mp
  split
  · omega
  · exact Nat.min_le_left _ _
theorem mp_mul (b w d : Nat) : mp b w d * w ≤ d := by
  unfold mp
  split
  · omega
  · exact Nat.le_trans (Nat.mul_le_mul_right w (Nat.min_le_right _ _)) (Nat.div_mul_le_self d w)
theorem le_mp {b w d x : Nat} (hw : b ≠ 0 → w ≠ 0) (hx : x ≤ b) (hd : x * w ≤ d) : x ≤ mp b w d := by
  unfold mp
  split
  · omega
  · rename_i hb
    exact Nat.le_min.mpr ⟨hx, (Nat.le_div_iff_mul_le (Nat.pos_of_ne_zero (hw hb))).mpr hd⟩
theorem mp_exact {b w d x : Nat} (hw : b ≠ 0 → w ≠ 0) (hx : x ≤ b) (hd : x * w = d) : mp b w d = x := by
  have h1 := le_mp hw hx (Nat.le_of_eq hd)
  have h2 := mp_mul b w d
  by_cases hb : b = 0
  · unfold mp
    rw [if_pos hb]
    omega
  · have := Nat.pos_of_ne_zero (hw hb)
    rw [← hd] at h2
    exact Nat.le_antisymm (Nat.le_of_mul_le_mul_right (hd ▸ h2) this) h1
/-- the best so far, of the pushes that V holds of -/
def Best (g : List Nat) (d : Nat) (V : Nat → Nat → Prop) (t : List Nat) : Prop :=
  (t = [] ∧ ∀ a b c, a ≤ ix g 1 → b ≤ ix g 3 → c ≤ ix g 5 → count3 g a b c = d → ¬V a b) ∨
  ∃ x y z, t = [x, y, z] ∧ x ≤ ix g 1 ∧ y ≤ ix g 3 ∧ z ≤ ix g 5 ∧ count3 g x y z = d ∧ V x y ∧ ∀ a b c, a ≤ ix g 1 → b ≤ ix g 3 → c ≤ ix g 5 → count3 g a b c = d → V a b → nicer [a, b, c] [x, y, z] = false
theorem Best.to {g : List Nat} {d : Nat} {V W : Nat → Nat → Prop} {t : List Nat} (h : Best g d V t) (e : ∀ a b c, a ≤ ix g 1 → b ≤ ix g 3 → c ≤ ix g 5 → count3 g a b c = d → (V a b ↔ W a b)) : Best g d W t := by
  rcases h with ⟨h1, h2⟩ | ⟨x, y, z, h1, hx, hy, hz, hc, hv, hb⟩
  · exact .inl ⟨h1, fun a b c ha hb hc hd hw => h2 a b c ha hb hc hd ((e a b c ha hb hc hd).mpr hw)⟩
  · exact .inr ⟨x, y, z, h1, hx, hy, hz, hc, (e x y z hx hy hz hc).mp hv, fun a b c ha hb2 hc2 hd hw => hb a b c ha hb2 hc2 hd ((e a b c ha hb2 hc2 hd).mpr hw)⟩
theorem total_three (a b c : Nat) : total [a, b, c] = a + b + c := by
  show a + (b + (c + 0)) = _
  omega
theorem nicer_three {a b c x y z : Nat} : nicer [a, b, c] [x, y, z] = false ↔ ¬(a + b + c < x + y + z ∨ (a + b + c = x + y + z ∧ (x < a ∨ (x = a ∧ (y < b ∨ (y = b ∧ z < c)))))) := by
  rw [← Bool.not_eq_true, nicer_iff, total_three, total_three, below_cons, below_cons, below_cons]
  show ¬(_ ∨ _ ∧ (_ ∨ _ ∧ (_ ∨ _ ∧ (_ ∨ _ ∧ false = true)))) ↔ _
  simp
theorem Best.three {g : List Nat} {d : Nat} {V : Nat → Nat → Prop} {t : List Nat} (h : Best g d V t) (hs : (∃ a b c, a ≤ ix g 1 ∧ b ≤ ix g 3 ∧ c ≤ ix g 5 ∧ count3 g a b c = d ∧ V a b)) : t ≠ [] := by
  rintro rfl
  rcases h with ⟨_, h2⟩ | ⟨x, y, z, h1, _⟩
  · obtain ⟨a, b, c, ha, hb, hc, hd, hv⟩ := hs
    exact h2 a b c ha hb hc hd hv
  · cases h1
/-- one more push is looked at: the only one of a beads of deck 0 and b of deck 1 that may count d -/
theorem Best.turn {g : List Nat} {d : Nat} {V W : Nat → Nat → Prop} {t : List Nat} {a b c : Nat} (h : Best g d V t) (ha : a ≤ ix g 1) (hb : b ≤ ix g 3) (hc : c ≤ ix g 5)
    (hu : ∀ z, z ≤ ix g 5 → count3 g a b z = d → z = c) (hW : ∀ x y, W x y ↔ V x y ∨ (x = a ∧ y = b)) (hl : ∀ x y, V x y → a < x ∨ (a = x ∧ b < y)) :
    Best g d W (if count3 g a b c = d ∧ (t = [] ∨ a + b + c < total t) then [a, b, c] else t) := by
  have hWV : ∀ x y, V x y → W x y := fun x y h => (hW x y).mpr (.inl h)
  by_cases e : count3 g a b c = d
  · rcases h with ⟨h1, h2⟩ | ⟨x, y, z, h1, hx, hy, hz, hcn, hv, hbst⟩
    · rw [if_pos ⟨e, .inl h1⟩]
      refine .inr ⟨a, b, c, rfl, ha, hb, hc, e, (hW a b).mpr (.inr ⟨rfl, rfl⟩), fun x y z hx hy hz hd hw => ?_⟩
      rcases (hW x y).mp hw with hv | ⟨rfl, rfl⟩
      · exact absurd hv (h2 x y z hx hy hz hd)
      · obtain rfl := hu z hz hd
        exact nicer_self _
    · subst h1
      rw [total_three]
      by_cases lt : a + b + c < x + y + z
      · rw [if_pos ⟨e, .inr lt⟩]
        refine .inr ⟨a, b, c, rfl, ha, hb, hc, e, (hW a b).mpr (.inr ⟨rfl, rfl⟩), fun x' y' z' hx' hy' hz' hd' hw => ?_⟩
        rcases (hW x' y').mp hw with hv' | ⟨rfl, rfl⟩
        · have := nicer_three.mp (hbst x' y' z' hx' hy' hz' hd' hv')
          rw [nicer_three]
          omega
        · obtain rfl := hu z' hz' hd'
          exact nicer_self _
      · rw [if_neg (by rintro ⟨_, h | h⟩; cases h; exact lt h)]
        refine .inr ⟨x, y, z, rfl, hx, hy, hz, hcn, hWV x y hv, fun x' y' z' hx' hy' hz' hd' hw => ?_⟩
        rcases (hW x' y').mp hw with hv' | ⟨rfl, rfl⟩
        · exact hbst x' y' z' hx' hy' hz' hd' hv'
        · obtain rfl := hu z' hz' hd'
          have := hl x y hv
          rw [nicer_three]
          omega
  · rw [if_neg fun z => e z.1]
    refine h.to fun x y z hx hy hz hd => ⟨hWV x y, fun hw => ?_⟩
    rcases (hW x y).mp hw with hv | ⟨rfl, rfl⟩
    · exact hv
    · obtain rfl := hu z hz hd
      exact absurd hd e
theorem Best.form {g : List Nat} {d : Nat} {V : Nat → Nat → Prop} {t : List Nat} (h : Best g d V t) (hg : broken g = 0) (hd : d < ix g 0) (hV : ∀ a b, V a b) : t = form3 g d := by
  obtain ⟨hs, _, hp⟩ := broken_sound hg
  obtain ⟨m1, m2, _⟩ := form3_some hs hp hd
  rcases h with ⟨h1, h2⟩ | ⟨x, y, z, h1, hx, hy, hz, hc, hv, hb⟩
  · obtain ⟨a, b, c, ha, hb, hc, e⟩ := mem_p3.mp m1
    rw [e, worth_three] at m2
    exact absurd (hV a b) (h2 a b c ha hb hc m2)
  · subst h1
    refine (form3_is hs (mem_p3.mpr ⟨x, y, z, hx, hy, hz, rfl⟩) (by rw [worth_three]; exact hc) fun q hq hw => ?_).symm
    obtain ⟨a, b, c, ha, hb2, hc2, rfl⟩ := mem_p3.mp hq
    rw [worth_three] at hw
    exact hb a b c ha hb2 hc2 hw (hV a b)
theorem form3_len {g : List Nat} {d : Nat} (hg : broken g = 0) (hd : d < ix g 0) : (form3 g d).length = 3 := by
  obtain ⟨hs, _, hp⟩ := broken_sound hg
  obtain ⟨a, b, c, _, _, _, e⟩ := mem_p3.mp (form3_some hs hp hd).1
  rw [e]
  rfl
theorem shown3_len : ∀ (gs : List (List Nat)) (u : Nat), AllFit gs → (shown3 gs u).length = 3 * gs.length
  | [], _, _ => rfl
  | g :: gs, u, h => by
    show (form3 g (u % ix g 0) ++ shown3 gs (u / ix g 0)).length = 3 * (gs.length + 1)
    have hg := h g (List.mem_cons_self ..)
    rw [List.length_append, form3_len hg (Nat.mod_lt u (ratio_pos hg)), shown3_len gs _ fun x hx => h x (List.mem_cons_of_mem _ hx)]
    omega
theorem count3_lt {g : List Nat} {a b c : Nat} (h7 : g.length = 7) (hb : ∀ x ∈ g, x < 4294967296) (h1 : a < 4294967296) (h2 : b < 4294967296) (h3 : c < 4294967296) : count3 g a b c < 2 ^ 66 := by
  have m : ∀ x j : Nat, x < 4294967296 → x * ix g j < 4294967296 * 4294967296 := fun x j hx => Nat.lt_of_le_of_lt (Nat.mul_le_mul_right _ (Nat.le_of_lt hx)) (Nat.mul_lt_mul_of_pos_left (worthT_le h7 hb j) (by decide))
  have m1 := m a 2 h1
  have m2 := m b 4 h2
  have m3 := m c 6 h3
  unfold count3
  omega
theorem stand_ok {l st : List Nat} (hm : mfault l = []) (hs : sfault (cuts l) st = []) : st.length = 3 * (cuts l).length ∧ ∀ j, st.getD j 0 < 4294967296 := by
  obtain ⟨_, h2, h3⟩ := standing_ok (good_of hm) hs
  refine ⟨h2, fun j => ?_⟩
  by_cases hj : j < st.length
  · have hov := h3 j hj
    have jg : j / 3 < (cuts l).length := by omega
    have gm : (cuts l).getD (j / 3) [] ∈ cuts l := by
      rw [List.getD_eq_getElem?_getD, List.getElem?_eq_getElem jg]
      exact List.getElem_mem jg
    have sd := (nums_facts (good_of hm _ gm)).2.2.1
    have key : ∀ k, k < 3 → ix ((cuts l).getD (j / 3) []) (1 + 2 * k) ≤ 15 := fun k hk => by
      match k, hk with
      | 0, _ => exact (sound_le (sd (ix ((cuts l).getD (j / 3) []) 1, ix ((cuts l).getD (j / 3) []) 2) (List.mem_cons_self ..))).1
      | 1, _ => exact (sound_le (sd (ix ((cuts l).getD (j / 3) []) 3, ix ((cuts l).getD (j / 3) []) 4) (List.mem_cons_of_mem _ (List.mem_cons_self ..)))).1
      | 2, _ => exact (sound_le (sd (ix ((cuts l).getD (j / 3) []) 5, ix ((cuts l).getD (j / 3) []) 6) (List.mem_cons_of_mem _ (List.mem_cons_of_mem _ (List.mem_cons_self ..))))).1
    unfold over at hov
    have := of_decide_eq_false hov
    have := key (j % 3) (by omega)
    omega
  · rw [List.getD_eq_getElem?_getD, List.getElem?_eq_none_iff.mpr (by omega)]
    decide
end Bf
namespace Bf
open PySem PySem.Spec PyProof.Rows L2
open Evl

/-! ### a def as callers see it -/
structure Def (P : Program) (w : World) (K : PySem.W.Frag) (mg : Str → Option Value) (base : Heap) (name : Str) (k : Nat) (ps : List Str) (sp : Sp) : Prop where
  ex : ∃ (f : Addr) (fd : FuncData), mg name = some (.ref f) ∧ PySem.W.keepIn K (.ref f) = true ∧ Binds K fd ps [] ∧ FnOk P w K mg base CX0 k f fd ps sp
section
variable {X : Cx}
theorem pe_callD {name : Str} {j k : Nat} {ps : List Str} {sp : Sp} {p pos : Pos} {e : Expr} {es : List Expr} {t : TA} (D : Def X.prog X.w X.K X.mg X.base name k ps sp) (hr : Room j X.A) (hk : k ≤ j) (ha : PA X (e :: es) t) (hg : Gl X name := by rfl)
    (hdb : (name == ("__debug__" : Str)) = false := by decide) (he : starEach (e :: es) X.env = (false, eval e X.env) :: starEach es X.env := by rfl) (hpl : (backTo pos (starEach es X.env)).any (·.1) = false := by rfl) :
    PE X (.Call (.Name name p) (e :: es) [] pos) (tCall sp [] E0 t) := by
  obtain ⟨f, fd, h1, h2, h3, h4⟩ := D.ex
  exact pe_call (hdb := hdb) h4 (hr.mono hk) hg h1 h2 h3 .nil pass0 ha (he := he) (hpl := hpl)
theorem pe_gint {x : Str} {i : Int} {pos : Pos} (h : ∃ t, X.mg x = some (.int i t)) (hg : Gl X x := by rfl) (hdb : (x == ("__debug__" : Str)) = false := by decide) : PE X (.Name x pos) (tC (.int i)) := by
  obtain ⟨t, h⟩ := h
  exact pe_glob hg h ⟨_, rfl⟩ hdb
end

/-! ### what a value stands for -/
structure Rep (α : Type) where
  at_ : Hp → V → α → Prop
  mono : ∀ {H H' : Hp} {v : V} {a : α}, Ex H H' → at_ H v a → at_ H' v a
abbrev natV (n : Nat) : V := .int (n : Int)
def natR : Rep Nat := ⟨fun _ v n => v = natV n, fun _ h => h⟩
def pairR {α β : Type} (A : Rep α) (B : Rep β) : Rep (α × β) := ⟨fun H v a => ∃ t x y, v = .ref t ∧ H t = some (.tup [x, y]) ∧ A.at_ H x a.1 ∧ B.at_ H y a.2,
  fun e ⟨t, x, y, h1, h2, h3, h4⟩ => ⟨t, x, y, h1, e _ _ h2, A.mono e h3, B.mono e h4⟩⟩
def Items {α : Type} (A : Rep α) (H : Hp) (xs : List V) (l : List α) : Prop := xs.length = l.length ∧ ∀ (i : Nat) (a : α), l[i]? = some a → ∃ x, xs[i]? = some x ∧ A.at_ H x a
theorem Items.mono {α : Type} {A : Rep α} {H H' : Hp} {xs : List V} {l : List α} (e : Ex H H') (h : Items A H xs l) : Items A H' xs l :=
  ⟨h.1, fun i a hi => let ⟨x, h1, h2⟩ := h.2 i a hi; ⟨x, h1, A.mono e h2⟩⟩
theorem Items.nil {α : Type} {A : Rep α} {H : Hp} : Items A H [] [] := ⟨rfl, fun i a h => by simp at h⟩
theorem Items.cons {α : Type} {A : Rep α} {H : Hp} {x : V} {a : α} {xs : List V} {l : List α} (h1 : A.at_ H x a) (h : Items A H xs l) : Items A H (x :: xs) (a :: l) :=
  ⟨congrArg (· + 1) h.1, fun i b hi => match i, hi with
    | 0, hi => ⟨x, rfl, (Option.some.inj hi) ▸ h1⟩
    | i + 1, hi => h.2 i b hi⟩
theorem Items.snoc {α : Type} {A : Rep α} {H : Hp} {x : V} {a : α} {xs : List V} {l : List α} (h : Items A H xs l) (h1 : A.at_ H x a) : Items A H (xs ++ [x]) (l ++ [a]) := by
  refine ⟨by simp [h.1], fun i b hi => ?_⟩
  by_cases hl : i < l.length
  · rw [List.getElem?_append_left hl] at hi
    obtain ⟨y, h2, h3⟩ := h.2 i b hi
    exact ⟨y, by rw [List.getElem?_append_left (by rw [h.1]; exact hl)]; exact h2, h3⟩
  · rw [List.getElem?_append_right (by omega)] at hi
    have e : i - l.length = 0 := by
      have := (List.getElem?_eq_some_iff.mp hi).1
      simp at this
      omega
    rw [e] at hi
    have eb : a = b := Option.some.inj hi
    subst eb
    refine ⟨x, ?_, h1⟩
    rw [List.getElem?_append_right (by rw [h.1]; omega), h.1, e]
    rfl
theorem items_nat {H : Hp} {xs : List V} {l : List Nat} (h : Items natR H xs l) : xs = l.map natV := by
  apply List.ext_getElem?
  intro i
  rw [List.getElem?_map]
  cases e : l[i]? with
  | none =>
    rw [List.getElem?_eq_none_iff] at e
    rw [List.getElem?_eq_none_iff.mpr (by rw [h.1]; exact e)]
    rfl
  | some a =>
    obtain ⟨x, h1, h2⟩ := h.2 i a e
    rw [h1]
    exact congrArg some h2
theorem nat_items {H : Hp} (l : List Nat) : Items natR H (l.map natV) l :=
  ⟨List.length_map _, fun i a h => ⟨natV a, by rw [List.getElem?_map, h]; rfl, rfl⟩⟩
/-- a list that can be read -/
def seqR {α : Type} (K : PySem.W.Frag) (A : Rep α) : Rep (List α) := ⟨fun H v l => ∃ p xs, v = .ref p ∧ SqL K H p xs ∧ Items A H xs l,
  fun e ⟨p, xs, h1, h2, h3⟩ => ⟨p, xs, h1, ex_l e h2, h3.mono e⟩⟩
/-- a list that the program made -/
def lstR {α : Type} (A : Rep α) : Rep (List α) := ⟨fun H v l => ∃ p xs, v = .ref p ∧ H p = some (.lst xs) ∧ Items A H xs l,
  fun e ⟨p, xs, h1, h2, h3⟩ => ⟨p, xs, h1, e _ _ h2, h3.mono e⟩⟩
theorem lst_seq {α : Type} {K : PySem.W.Frag} {A : Rep α} {H : Hp} {v : V} {l : List α} (h : (lstR A).at_ H v l) : (seqR K A).at_ H v l :=
  let ⟨p, xs, h1, h2, h3⟩ := h
  ⟨p, xs, h1, sq_of h2, h3⟩
theorem nats_at {K : PySem.W.Frag} {H : Hp} {v : V} {l : List Nat} : (seqR K natR).at_ H v l ↔ ∃ p, v = .ref p ∧ SqL K H p (l.map natV) := by
  constructor
  · rintro ⟨p, xs, h1, h2, h3⟩
    rw [items_nat h3] at h2
    exact ⟨p, h1, h2⟩
  · rintro ⟨p, h1, h2⟩
    exact ⟨p, _, h1, h2, nat_items l⟩

def EvR {α : Type} (R : Rep α) (te : TE) (σ : L2.St) (H : Hp) (a : α) : Prop := ∀ H1, Ex H H1 → ∀ Q : VK, (∀ v H2, Ex H1 H2 → R.at_ H2 v a → Q v H2) → te σ H1 Q
def RetR {α : Type} (R : Rep α) (a : α) (H : Hp) (Q : VK) : Prop := ∀ v H2, Ex H H2 → R.at_ H2 v a → Q v H2
section
variable {K : PySem.W.Frag} {σ : L2.St} {H H' : Hp} {ta tb te tl : TE} {t u : TT} {x y z v : V} {α β : Type} {R : Rep α} {D : Ends} {tu tw tz : TS} {g : TG}
theorem EvR.mono {a : α} (e : Ex H H') (h : EvR R te σ H a) : EvR R te σ H' a := fun H1 a Q q => h H1 (e.trans a) Q q
theorem er_ev {a : α} (h : Ev te σ H v) (ha : R.at_ H v a) : EvR R te σ H a := fun H1 e Q q => h H1 e _ fun H2 e2 => q v H2 e2 (R.mono (e.trans e2) ha)
theorem er_nat {n : Nat} (h : Ev te σ H (natV n)) : EvR natR te σ H n := er_ev h rfl
theorem ev_nat {n : Nat} (h : EvR natR te σ H n) : Ev te σ H (natV n) := fun H1 e Q q => h H1 e _ fun v H2 e2 hv => by
  obtain rfl : v = natV n := hv
  exact q H2 e2
theorem er_nats {a : Addr} {l : List Nat} (h : Ev te σ H (.ref a)) (hs : SqL K H a (l.map natV)) : EvR (seqR K natR) te σ H l := er_ev h (nats_at.mpr ⟨a, rfl, hs⟩)
theorem er_tup {S : Rep β} {a : α} {b : β} (ha : EvR R ta σ H a) (hb : EvR S tb σ H b) : EvR (pairR R S) (tTup (tCons ta (tCons tb tNil))) σ H (a, b) := fun H1 e Q q =>
  ha H1 e _ fun x H2 e2 hx => hb H2 (e.trans e2) _ fun y H3 e3 hy => ⟨sz_of (by show 2 ≤ 100000; decide), fun p hp =>
    q _ _ ((e2.trans e3).trans (Ex.new hp)) ⟨p, x, y, rfl, upd_same, R.mono (e3.trans (Ex.new hp)) hx, S.mono (Ex.new hp) hy⟩⟩
/-- the items of a written list -/
def EvI (R : Rep α) (ta : TA) (σ : L2.St) (H : Hp) (l : List α) : Prop := ∀ H1, Ex H H1 → ∀ Q : List V → Hp → Prop, (∀ xs H2, Ex H1 H2 → Items R H2 xs l → Q xs H2) → ta σ H1 Q
theorem ei_nil : EvI R tNil σ H [] := fun H1 _ _ q => q [] H1 (Ex.refl H1) Items.nil
theorem ei_cons {a : α} {l : List α} {tr : TA} (h : EvR R ta σ H a) (hr : EvI R tr σ H l) : EvI R (tCons ta tr) σ H (a :: l) := fun H1 e _ q =>
  h H1 e _ fun x H2 e2 hx => hr H2 (e.trans e2) _ fun xs H3 e3 hxs => q _ H3 (e2.trans e3) (hxs.cons (R.mono e3 hx))
theorem er_lst {l : List α} {ta : TA} (h : EvI R ta σ H l) (hl : l.length ≤ 100000) : EvR (lstR R) (tLst ta) σ H l := fun H1 e _ q =>
  h H1 e _ fun xs H2 e2 hx => ⟨sz_of (by rw [hx.1]; exact hl), fun p hp => q _ _ (e2.trans (Ex.new hp)) ⟨p, xs, rfl, upd_same, hx.mono (Ex.new hp)⟩⟩
/-- the arguments of a call, one by one -/
def EvC (ta : TA) (σ : L2.St) (H : Hp) (P : List V → Hp → Prop) : Prop := ∀ H1, Ex H H1 → ∀ Q : List V → Hp → Prop, (∀ vs H2, Ex H1 H2 → P vs H2 → Q vs H2) → ta σ H1 Q
theorem ec_nil : EvC tNil σ H fun vs _ => vs = [] := fun H1 _ _ q => q [] H1 (Ex.refl H1) rfl
theorem ec_cons {a : α} {tr : TA} {P : List V → Hp → Prop} (h : EvR R ta σ H a) (hr : EvC tr σ H P) : EvC (tCons ta tr) σ H fun vs H2 => ∃ x r, vs = x :: r ∧ R.at_ H2 x a ∧ P r H2 := fun H1 e _ q =>
  h H1 e _ fun x H2 e2 hx => hr H2 (e.trans e2) _ fun r H3 e3 hr3 => q _ H3 (e2.trans e3) ⟨x, r, rfl, R.mono e3 hx, hr3⟩
theorem er_call {a : α} {sp : Sp} {E : XK} {ta : TA} {P : List V → Hp → Prop} (h : EvC ta σ H P) (hs : ∀ vs H1, Ex H H1 → P vs H1 → ∀ Q : VK, RetR R a H1 Q → ∀ E, sp vs H1 Q E) : EvR R (tCall sp [] E ta) σ H a := fun H1 e Q q =>
  h H1 e _ fun vs H2 e2 hp => by
    show sp (vs ++ []) H2 Q E
    rw [List.append_nil]
    exact hs vs H2 (e.trans e2) hp Q (fun v H3 e3 hv => q v H3 (e2.trans e3) hv) E
theorem ev_call1 {sp : Sp} {E : XK} {ta : TA} {P : List V → Hp → Prop} (h : EvC ta σ H P) (hs : ∀ vs H1, Ex H H1 → P vs H1 → ∀ Q : VK, RetV v H1 Q → ∀ E, sp vs H1 Q E) : Ev (tCall sp [] E ta) σ H v := fun H1 e Q q =>
  h H1 e _ fun vs H2 e2 hp => by
    show sp (vs ++ []) H2 Q E
    rw [List.append_nil]
    exact hs vs H2 (e.trans e2) hp Q (fun H3 e3 => q H3 (e2.trans e3)) E
theorem el_call1 {sp : Sp} {E : XK} {ta : TA} {xs : List V} {P : List V → Hp → Prop} (h : EvC ta σ H P) (hs : ∀ vs H1, Ex H H1 → P vs H1 → ∀ Q : VK, RetL xs H1 Q → ∀ E, sp vs H1 Q E) : EvL (tCall sp [] E ta) σ H xs := fun H1 e Q q =>
  h H1 e _ fun vs H2 e2 hp => by
    show sp (vs ++ []) H2 Q E
    rw [List.append_nil]
    exact hs vs H2 (e.trans e2) hp Q (fun p H3 hp e3 h3 => q p H3 (fresh_back e2 hp) (e2.trans e3) h3) E
/-! statements -/
theorem s_asgR {i : Nat} {a : α} (h : EvR R te σ H a) (k : ∀ v H1, Ex H H1 → R.at_ H1 v a → D.nx (σ.set i (some v)) H1) : tAsg te (gName i) D σ H := h H (Ex.refl H) _ fun v H1 e hv => k v H1 e hv
theorem q_asgR {i : Nat} {a : α} (h : EvR R te σ H a) (k : ∀ v H1, Ex H H1 → R.at_ H1 v a → tz D (σ.set i (some v)) H1) : tSeq (tAsg te (gName i)) tz D σ H := s_asgR (D := { D with nx := tz D }) h k
theorem s_retR {a : α} (h : EvR R te σ H a) (k : RetR R a H D.rt) : tRet te D σ H := h H (Ex.refl H) _ k
theorem RetR.go {a : α} {Q : VK} (k : RetR R a H Q) (e : Ex H H') : RetR R a H' Q := fun v H2 e2 hv => k v H2 (e.trans e2) hv
/-- a loop over a list that is read -/
theorem s_forR {l : List α} (h : EvR (seqR K R) tl σ H l) (Pv : Nat → L2.St → Hp → Prop) (h0 : ∀ H1, Ex H H1 → Pv 0 σ H1)
    (hs : ∀ B i a v σ' H', Ex H B → Ex B H' → l[i]? = some a → R.at_ H' v a → Pv i σ' H' → g v σ' H' fun σ2 H2 => tu { D with nx := fun σ3 H3 => Ex B H3 ∧ Pv (i + 1) σ3 H3, ct := fun σ3 H3 => Ex B H3 ∧ Pv (i + 1) σ3 H3, bk := D.nx } σ2 H2)
    (hd : ∀ σ' H', Ex H H' → Pv l.length σ' H' → D.nx σ' H') : tFor (iList K tl) g tu D σ H := by
  refine h H (Ex.refl H) _ fun w H1 e1 hw => ?_
  obtain ⟨p, xs, rfl, hp, hx⟩ := hw
  refine ⟨p, rfl, ⟨xs, hp⟩, for_list (xs := xs) (fun i σ' H' => Ex H1 H' ∧ Pv i σ' H') ⟨Ex.refl H1, h0 H1 e1⟩ (fun i σ' H' _ q => ex_l q.1 hp) (fun i x σ' H' hi q => ?_) (fun σ' H' q => hd σ' H' (e1.trans q.1) (by rw [← hx.1]; exact q.2))⟩
  have hil : i < l.length := by
    rw [← hx.1]
    exact (List.getElem?_eq_some_iff.mp hi).1
  obtain ⟨x', h1, h2⟩ := hx.2 i _ (List.getElem?_eq_getElem hil)
  have ex : x = x' := Option.some.inj (hi.symm.trans h1)
  subst ex
  exact hs H1 i _ x σ' H' e1 q.1 (List.getElem?_eq_getElem hil) (R.mono q.1 h2) q.2
theorem q_forR {l : List α} (h : EvR (seqR K R) tl σ H l) (Pv : Nat → L2.St → Hp → Prop) (h0 : ∀ H1, Ex H H1 → Pv 0 σ H1)
    (hs : ∀ B i a v σ' H', Ex H B → Ex B H' → l[i]? = some a → R.at_ H' v a → Pv i σ' H' → g v σ' H' fun σ2 H2 => tu { D with nx := fun σ3 H3 => Ex B H3 ∧ Pv (i + 1) σ3 H3, ct := fun σ3 H3 => Ex B H3 ∧ Pv (i + 1) σ3 H3, bk := tz D } σ2 H2)
    (hd : ∀ σ' H', Ex H H' → Pv l.length σ' H' → tz D σ' H') : tSeq (tFor (iList K tl) g tu) tz D σ H := s_forR (D := { D with nx := tz D }) h Pv h0 hs hd
/-- for x, y in ..: a list of pairs -/
theorem q_forP {S : Rep β} {l : List (α × β)} {i1 i2 : Nat} (h : EvR (seqR K (pairR R S)) tl σ H l) (Pv : Nat → L2.St → Hp → Prop) (h0 : ∀ H1, Ex H H1 → Pv 0 σ H1)
    (hs : ∀ B i a b v w σ' H', Ex H B → Ex B H' → l[i]? = some (a, b) → R.at_ H' v a → S.at_ H' w b → Pv i σ' H' → tu { D with nx := fun σ3 H3 => Ex B H3 ∧ Pv (i + 1) σ3 H3, ct := fun σ3 H3 => Ex B H3 ∧ Pv (i + 1) σ3 H3, bk := tz D } ((σ'.set i1 (some v)).set i2 (some w)) H')
    (hd : ∀ σ' H', Ex H H' → Pv l.length σ' H' → tz D σ' H') : tSeq (tFor (iList K tl) (gTup K 2 (gCons (gName i1) (gCons (gName i2) gNil))) tu) tz D σ H :=
  q_forR h Pv h0 (fun B i a v σ' H' e1 e2 hi hv p => by
    obtain ⟨t, x, y, rfl, h1, h2, h3⟩ := hv
    exact ⟨t, [x, y], rfl, st_of h1, rfl, x, [y], rfl, y, [], rfl, rfl, hs B i a.1 a.2 x y σ' H' e1 e2 hi h2 h3 p⟩) hd
/-- for i, x in enumerate(..): the pair is a new tuple, taken apart at once -/
theorem q_forEnum {l : List α} {ta : TA} {a b : Nat} (h : EvC ta σ H fun vs H2 => ∃ x, vs = [x] ∧ (seqR K R).at_ H2 x l) (Pv : Nat → L2.St → Hp → Prop) (h0 : ∀ H1, Ex H H1 → Pv 0 σ H1)
    (hs : ∀ B i y v σ' H', Ex H B → Ex B H' → l[i]? = some y → R.at_ H' v y → Pv i σ' H' → tu { D with nx := fun σ3 H3 => Ex B H3 ∧ Pv (i + 1) σ3 H3, ct := fun σ3 H3 => Ex B H3 ∧ Pv (i + 1) σ3 H3, bk := tz D } ((σ'.set a (some (natV i))).set b (some v)) H')
    (hP : ∀ i σ' H' H'', Ex H' H'' → Pv i σ' H' → Pv i σ' H'')
    (hd : ∀ σ' H', Ex H H' → Pv l.length σ' H' → tz D σ' H') : tSeq (tFor (iEnum K ta) (gTup K 2 (gCons (gName a) (gCons (gName b) gNil))) tu) tz D σ H := by
  refine h H (Ex.refl H) _ fun vs H1 e1 hv => ?_
  obtain ⟨w, rfl, p, xs, rfl, hp, hx⟩ := hv
  refine ⟨p, xs, rfl, hp, fun i m σ' H' => m = xs.length - i ∧ i ≤ xs.length ∧ Ex H1 H' ∧ Pv i σ' H', ⟨xs.length, by simp, Nat.zero_le _, Ex.refl H1, h0 H1 e1⟩, ?_⟩
  rintro i m σ' H' ⟨rfl, hi, q1, q2⟩
  have hp' := ex_l q1 hp
  by_cases hlt : i < xs.length
  · have hil : i < l.length := by rw [← hx.1]; exact hlt
    obtain ⟨x, h1, h2⟩ := hx.2 i _ (List.getElem?_eq_getElem hil)
    refine .inr ⟨⟨xs, x, hp', h1⟩, fun σ3 H3 => Ex H1 H3 ∧ Pv (i + 1) σ3 H3, fun σ3 H3 n => ⟨xs.length - (i + 1), by omega, rfl, hlt, n.1, n.2⟩, ?_⟩
    rintro v H'' ⟨T, y, rfl, nT, rfl, f⟩
    have ey : y = x := Option.some.inj ((f xs hp').symm.trans h1)
    subst ey
    have e2 : Ex H' (upd H' T (.tup [.int (i : Nat), y])) := Ex.new nT
    refine ⟨T, [.int (i : Nat), y], rfl, st_of upd_same, rfl, natV i, [y], rfl, y, [], rfl, rfl, ?_⟩
    have := hs H1 i _ y σ' (upd H' T (.tup [.int (i : Nat), y])) e1 (q1.trans e2) (List.getElem?_eq_getElem hil) (R.mono (q1.trans e2) h2) (hP i σ' _ _ e2 q2)
    exact this
  · have e : i = xs.length := by omega
    exact .inl ⟨⟨xs, hp', by omega⟩, hd σ' H' (e1.trans q1) (by rw [← hx.1, ← e]; exact q2)⟩
theorem er_seq {l : List α} (h : EvR (lstR R) te σ H l) : EvR (seqR K R) te σ H l := fun H1 e Q q => h H1 e _ fun v H2 e2 hv => q v H2 e2 (lst_seq hv)
/-- a call of one argument, of two -/
theorem er_c1 {S : Rep β} {b : β} {a : α} {sp : Sp} {E : XK} (h : EvR S ta σ H b) (hs : ∀ x H1, Ex H H1 → S.at_ H1 x b → ∀ Q : VK, RetR R a H1 Q → ∀ E, sp [x] H1 Q E) : EvR R (tCall sp [] E (tCons ta tNil)) σ H a :=
  er_call (ec_cons h ec_nil) fun vs H1 e ⟨x, r, h1, h2, h3⟩ Q q E => by
    subst h1 h3
    exact hs x H1 e h2 Q q E
theorem ev_c1 {S : Rep β} {b : β} {sp : Sp} {E : XK} (h : EvR S ta σ H b) (hs : ∀ x H1, Ex H H1 → S.at_ H1 x b → ∀ Q : VK, RetV v H1 Q → ∀ E, sp [x] H1 Q E) : Ev (tCall sp [] E (tCons ta tNil)) σ H v :=
  ev_call1 (ec_cons h ec_nil) fun vs H1 e ⟨x, r, h1, h2, h3⟩ Q q E => by
    subst h1 h3
    exact hs x H1 e h2 Q q E
theorem el_c1 {S : Rep β} {b : β} {xs : List V} {sp : Sp} {E : XK} (h : EvR S ta σ H b) (hs : ∀ x H1, Ex H H1 → S.at_ H1 x b → ∀ Q : VK, RetL xs H1 Q → ∀ E, sp [x] H1 Q E) : EvL (tCall sp [] E (tCons ta tNil)) σ H xs :=
  el_call1 (ec_cons h ec_nil) fun vs H1 e ⟨x, r, h1, h2, h3⟩ Q q E => by
    subst h1 h3
    exact hs x H1 e h2 Q q E
theorem ev_c2 {γ : Type} {S : Rep β} {T : Rep γ} {b : β} {c : γ} {sp : Sp} {E : XK} (h : EvR S ta σ H b) (h' : EvR T tb σ H c) (hs : ∀ x y H1, Ex H H1 → S.at_ H1 x b → T.at_ H1 y c → ∀ Q : VK, RetV v H1 Q → ∀ E, sp [x, y] H1 Q E) : Ev (tCall sp [] E (tCons ta (tCons tb tNil))) σ H v :=
  ev_call1 (ec_cons h (ec_cons h' ec_nil)) fun vs H1 e ⟨x, r, h1, h2, y, r', h3, h4, h5⟩ Q q E => by
    subst h1 h3 h5
    exact hs x y H1 e h2 h4 Q q E
theorem er_c2 {γ : Type} {S : Rep β} {T : Rep γ} {a : α} {b : β} {c : γ} {sp : Sp} {E : XK} (h : EvR S ta σ H b) (h' : EvR T tb σ H c) (hs : ∀ x y H1, Ex H H1 → S.at_ H1 x b → T.at_ H1 y c → ∀ Q : VK, RetR R a H1 Q → ∀ E, sp [x, y] H1 Q E) : EvR R (tCall sp [] E (tCons ta (tCons tb tNil))) σ H a :=
  er_call (ec_cons h (ec_cons h' ec_nil)) fun vs H1 e ⟨x, r, h1, h2, y, r', h3, h4, h5⟩ Q q E => by
    subst h1 h3 h5
    exact hs x y H1 e h2 h4 Q q E
theorem el_c2 {γ : Type} {S : Rep β} {T : Rep γ} {xs : List V} {b : β} {c : γ} {sp : Sp} {E : XK} (h : EvR S ta σ H b) (h' : EvR T tb σ H c) (hs : ∀ x y H1, Ex H H1 → S.at_ H1 x b → T.at_ H1 y c → ∀ Q : VK, RetL xs H1 Q → ∀ E, sp [x, y] H1 Q E) : EvL (tCall sp [] E (tCons ta (tCons tb tNil))) σ H xs :=
  el_call1 (ec_cons h (ec_cons h' ec_nil)) fun vs H1 e ⟨x, r, h1, h2, y, r', h3, h4, h5⟩ Q q E => by
    subst h1 h3 h5
    exact hs x y H1 e h2 h4 Q q E
theorem RetV.to {w : V} {Q : VK} (q : RetV v H Q) (e : Ex H H') (h : w = v) : Q w H' := h ▸ q H' e
/-- an item of a list that is read -/
theorem er_ix {l : List α} {a : α} {j : Nat} (h : EvR (seqR K R) te σ H l) (hj : l[j]? = some a) : EvR R (tOp (rIxL K) te (tC (.int (j : Int)))) σ H a := fun H1 e Q q =>
  h H1 e _ fun v H2 e2 ⟨p, xs, h1, h2, h3⟩ => by
    obtain ⟨x, hx, ha⟩ := h3.2 j a hj
    exact ⟨p, xs, (j : Int), x, h1, rfl, h2, atI_nat hx, q x H2 e2 ha⟩
theorem er_ixv {ti : TE} {l : List α} {a : α} {j : Nat} (h : EvR (seqR K R) te σ H l) (hi : ∀ H1, Ex H H1 → Ev ti σ H1 (natV j)) (hj : l[j]? = some a) : EvR R (tOp (rIxL K) te ti) σ H a := fun H1 e Q q =>
  h H1 e _ fun v H2 e2 hv => hi H2 (e.trans e2) H2 (Ex.refl _) _ fun H3 e3 => by
    obtain ⟨p, xs, h1, h2, h3⟩ := (seqR K R).mono e3 hv
    obtain ⟨x, hx, ha⟩ := h3.2 j a hj
    exact ⟨p, xs, (j : Int), x, h1, rfl, h2, atI_nat hx, q x H3 (e2.trans e3) ha⟩
/-- of a pair that is read -/
theorem er_fst {S : Rep β} {a : α} {b : β} (h : EvR (pairR R S) te σ H (a, b)) : EvR R (tOp (rIxT K) te (tC (.int 0))) σ H a := fun H1 e Q q =>
  h H1 e _ fun v H2 e2 ⟨t, x, y, h1, h2, h3, h4⟩ => ⟨t, [x, y], 0, x, h1, rfl, st_of h2, atI_nat (j := 0) rfl, q x H2 e2 h3⟩
theorem er_snd {S : Rep β} {a : α} {b : β} (h : EvR (pairR R S) te σ H (a, b)) : EvR S (tOp (rIxT K) te (tC (.int 1))) σ H b := fun H1 e Q q =>
  h H1 e _ fun v H2 e2 ⟨t, x, y, h1, h2, h3, h4⟩ => ⟨t, [x, y], 1, y, h1, rfl, st_of h2, atI_nat (j := 1) rfl, q y H2 e2 h4⟩
/-- len -/
theorem er_len {l : List α} (h : EvR (seqR K R) te σ H l) : Ev (tCB (fun xs H Q => ∃ p ys, xs = [.ref p] ∧ (SqL K H p ys ∨ SqT K H p ys) ∧ Q (.int ys.length) H) (tCons te tNil)) σ H (natV l.length) := fun H1 e Q q =>
  h H1 e _ fun v H2 e2 ⟨p, xs, h1, h2, h3⟩ => by
    subst h1
    exact ⟨p, xs, rfl, Or.inl h2, by rw [h3.1]; exact q H2 e2⟩
/-- new flat lists -/
def flatR : Rep (List V) := ⟨fun H v xs => ∃ p, v = .ref p ∧ H p = some (.lst xs), fun e ⟨p, h1, h2⟩ => ⟨p, h1, e _ _ h2⟩⟩
/-- [new list for i in range(0, n', c)] -/
theorem er_lcR3L {ta : TA} {j : Nat} {vs : List Nat} {n' c : Int} {n : Nat} (f : Nat → List V) (h : EvA ta σ H [.int 0, .int n', .int c]) (hr : RgC 0 n' c n) (hn : n ≤ 40000) (hw : ∀ x, wipe ((wipe σ vs).set j (some x)) vs = wipe σ vs)
    (he : ∀ (i : Nat) H1, Ex H H1 → i < n → EvL te ((wipe σ vs).set j (some (.int ((0 : Int) + (i : Nat) * c)))) H1 (f i)) : EvR (lstR flatR) (tLc (iRng3 ta) (gName j) tYes te vs) σ H ((List.range n).map f) := fun H0 e0 Q q =>
  h H0 e0 _ fun H1 e1 => ⟨0, n', c, n, rfl, hr, fun Dl hD => by
    refine ⟨fun i m H' => m = n - i ∧ i ≤ n ∧ Ex H1 H' ∧ ∃ xs, H' Dl = some (.lst xs) ∧ xs.length = i ∧ ∀ k, k < i → ∃ p, xs[k]? = some (.ref p) ∧ p ≠ Dl ∧ H' p = some (.lst (f k)), ⟨n, by omega, Nat.zero_le _, Ex.new hD, [], upd_same, rfl, fun k hk => absurd hk (Nat.not_lt_zero _)⟩, ?_⟩
    rintro i m H' ⟨rfl, hi, e2, xs, hx, hl, hp⟩
    by_cases hlt : i < n
    · refine .inr ⟨hlt, fun H2 => i + 1 ≤ n ∧ Ex H1 H2 ∧ ∃ xs, H2 Dl = some (.lst xs) ∧ xs.length = i + 1 ∧ ∀ k, k < i + 1 → ∃ p, xs[k]? = some (.ref p) ∧ p ≠ Dl ∧ H2 p = some (.lst (f k)), fun H2 p2 => ⟨n - (i + 1), by omega, rfl, p2⟩, ?_⟩
      rintro x H'' ⟨rfl, rfl⟩
      refine ⟨hw _, he i H'' ((e0.trans e1).trans e2) hlt H'' (Ex.refl _) _ fun p H3 hp0 e3 hp3 => ⟨xs, e3 _ _ hx, sz_lt (by omega), hlt, Ex.mut (e2.trans e3) hD, xs ++ [.ref p], upd_same, by simp [hl], fun k hk => ?_⟩⟩
      have hne : ∀ {z : Addr} {o : HO}, H'' z = some o → z ≠ p := fun hz => ne_of_none hz hp0
      by_cases hki : k < i
      · obtain ⟨z, h1, h2, h3⟩ := hp k hki
        refine ⟨z, by rw [List.getElem?_append_left (by omega)]; exact h1, h2, ?_⟩
        rw [upd_ne h2]
        exact e3 _ _ h3
      · have : k = i := by omega
        subst this
        refine ⟨p, by rw [List.getElem?_append_right (by omega), hl]; simp, (hne hx).symm, ?_⟩
        rw [upd_ne (hne hx).symm]
        exact hp3
    · have : i = n := by omega
      subst this
      refine .inl ⟨Nat.le_refl _, q _ _ (e1.trans e2) ⟨Dl, xs, rfl, hx, by simp [hl], fun k a hk => ?_⟩⟩
      rw [List.getElem?_map] at hk
      have hki : k < i := by
        by_cases hki : k < i
        · exact hki
        · rw [List.getElem?_eq_none_iff.mpr (by rw [List.length_range]; omega)] at hk
          cases hk
      rw [List.getElem?_range hki] at hk
      obtain rfl := Option.some.inj hk
      obtain ⟨p, h1, h2, h3⟩ := hp k hki
      exact ⟨_, h1, p, rfl, h3⟩⟩
theorem flat_nats {l : List (List V)} {m : List (List Nat)} (hm : l = m.map (List.map natV)) (h : EvR (lstR flatR) te σ H l) : EvR (lstR (seqR K natR)) te σ H m := fun H1 e Q q =>
  h H1 e _ fun v H2 e2 ⟨p, xs, h1, h2, h3, h4⟩ => q v H2 e2 ⟨p, xs, h1, h2, by rw [h3, hm, List.length_map], fun i a hi => by
    obtain ⟨x, hx, z, hz, hz2⟩ := h4 i (a.map natV) (by rw [hm, List.getElem?_map, hi]; rfl)
    exact ⟨x, hx, nats_at.mpr ⟨z, hz, sq_of hz2⟩⟩⟩
theorem take_fold {γ δ : Type} {f : δ → γ → δ} {d : δ} {l : List γ} {i : Nat} {x : γ} (h : l[i]? = some x) : (l.take (i + 1)).foldl f d = f ((l.take i).foldl f d) x := by
  rw [List.take_add_one, h, List.foldl_append]
  rfl
theorem congr2B {a b c d : Bool} (h1 : a = c) (h2 : b = d) : (a && b) = (c && d) := by rw [h1, h2]
theorem congr2O {a b c d : Bool} (h1 : a = c) (h2 : b = d) : (a || b) = (c || d) := by rw [h1, h2]
theorem ec_one {S : Rep β} {b : β} {ta : TA} (h : EvC ta σ H fun vs H2 => ∃ x r, vs = x :: r ∧ S.at_ H2 x b ∧ r = []) : EvC ta σ H fun vs H2 => ∃ x, vs = [x] ∧ S.at_ H2 x b := fun H1 e Q q =>
  h H1 e Q fun vs H2 e2 ⟨x, r, h1, h2, h3⟩ => q vs H2 e2 ⟨x, by rw [h1, h3], h2⟩
theorem ret_to {w : V} {Q : VK} (q : ∀ H2, Ex H H2 → Q v H2) (e : Ex H H') (h : w = v) : Q w H' := h ▸ q H' e
theorem ret_goL {xs ys : List V} {Q : VK} (k : ∀ p H2, H p = none → Ex H H2 → H2 p = some (.lst xs) → Q (.ref p) H2) (e : Ex H H') {p : Addr} {H2 : Hp} (hp : H' p = none) (e2 : Ex H' H2) (h : H2 p = some (.lst ys)) (hy : ys = xs) : Q (.ref p) H2 :=
  k p H2 (fresh_back e hp) (e.trans e2) (hy ▸ h)
end
theorem rgc_seven {n : Nat} (h7 : n % 7 = 0) (h : n ≤ 700) : RgC 0 (n : Int) 7 (n / 7) := by
  have e : Builtin.Range.rangeSize 0 (n : Int) 7 = ((n / 7 : Nat) : Int) := by
    unfold Builtin.Range.rangeSize
    rw [if_pos (by decide)]
    split <;> omega
  refine ⟨by decide, by decide, ?_, e⟩
  have fits : ∀ z : Int, 0 ≤ z → z ≤ 10000 → Builtin.Range.rangeFitsLong z = true := fun z h1 h2 => by
    show (decide (-(2 ^ 63) ≤ z) && decide (z < 2 ^ 63)) = true
    rw [decide_eq_true (by omega), decide_eq_true (by omega)] <;> rfl
  unfold Builtin.Range.small
  rw [e, fits 0 (by decide) (by decide), fits n (by omega) (by omega), fits 7 (by decide) (by decide), fits ((n / 7 : Nat) : Int) (by omega) (by omega), if_pos (by decide), fits ((n : Int) + (7 - 1)) (by omega) (by omega), Bool.or_true] <;> rfl
theorem cutV_seven {l : List Nat} {i : Nat} (h : 7 * i + 7 ≤ l.length) : cutV (l.map natV) (some ((0 : Int) + (i : Nat) * 7)) (some ((0 : Int) + (i : Nat) * 7 + 7)) = ((l.drop (7 * i)).take 7).map natV := by
  unfold cutV
  rw [show ((0 : Int) + (i : Nat) * 7) = ((7 * i : Nat) : Int) by omega, show (((7 * i : Nat) : Int) + 7) = ((7 * i + 7 : Nat) : Int) by omega, HT.sIx_nat, HT.sIx_nat, List.length_map, Nat.min_eq_left (by omega), Nat.min_eq_left (by omega), Nat.add_sub_cancel_left, List.map_take, List.map_drop]
section
variable {K : PySem.W.Frag} {σ : L2.St} {H H' : Hp} {ta tb te tl : TE}
/-- a new list, and behind it one that the program made -/
theorem el_cat {xs zs : List V} {b : Addr} (ha : EvL ta σ H xs) (hb : ∀ H1, Ex H H1 → Ev tb σ H1 (.ref b)) (h : H b = some (.lst zs)) (hz : xs.length + zs.length ≤ 100000) : EvL (tOp rCat ta tb) σ H (xs ++ zs) := fun H1 e Q q =>
  ha H1 e _ fun p H2 hp e2 h2 => hb H2 (e.trans e2) H2 (Ex.refl _) _ fun H3 e3 => ⟨p, b, xs, zs, rfl, rfl, e3 _ _ h2, e3 _ _ (e2 _ _ (e _ _ h)), sz_of hz, fun r hr => q r _ (fresh_back (e2.trans e3) hr) ((e2.trans e3).trans (Ex.new hr)) upd_same⟩
end
section
variable {X : Cx} {K : PySem.W.Frag}
theorem ixL (h : X.K = K := by rfl) : IxR X (rIxL K) := h ▸ ix_list
theorem ixT (h : X.K = K := by rfl) : IxR X (rIxT K) := h ▸ ix_tup
theorem slL (h : X.K = K := by rfl) : SlR X (rSlL K) := h ▸ sl_list
theorem lenS (h : X.K = K := by rfl) : CallR X (.builtin "len") (fun xs H Q => ∃ p ys, xs = [.ref p] ∧ (SqL K H p ys ∨ SqT K H p ys) ∧ Q (.int ys.length) H) := h ▸ call_len_seq
end
end Bf
namespace Bf
open PySem PySem.Spec PyProof.Rows L2
open Evl
/-! ### what is new stays: of what B has and A had not, all is still so -/
def Kept (A B H : Hp) : Prop := ∀ a x, A a = none → B a = some x → H a = some x
theorem Kept.of {A B H : Hp} (e : Ex B H) : Kept A B H := fun a x _ h => e a x h
theorem Kept.self {A B : Hp} : Kept A B B := fun _ _ _ h => h
theorem Kept.ex {A B H H' : Hp} (k : Kept A B H) (e : Ex H H') : Kept A B H' := fun a x h1 h2 => e a x (k a x h1 h2)
theorem Kept.old {A B H : Hp} {o : Addr} {x : HO} (k : Kept A B H) (h : A o ≠ none) : Kept A B (upd H o x) := fun a y h1 h2 => by
  have hne : a ≠ o := fun e => h (by rw [← e]; exact h1)
  rw [upd_ne hne]
  exact k a y h1 h2
theorem Kept.later {A B H : Hp} {o : Addr} {x : HO} (k : Kept A B H) (h : B o = none) : Kept A B (upd H o x) := fun a y h1 h2 => by
  have hne : a ≠ o := fun e => by
    rw [e, h] at h2
    cases h2
  rw [upd_ne hne]
  exact k a y h1 h2
theorem Kept.less {A B C H : Hp} (k : Kept A C H) (e : Ex B C) : Kept A B H := fun a x h1 h2 => k a x h1 (e a x h2)
theorem Kept.since {A B C H : Hp} (k : Kept A C H) (e : Ex A B) : Kept B C H := fun a x h1 h2 => k a x (fresh_back e h1) h2
def Stay {α : Type} (R : Rep α) (A B : Hp) (v : V) (a : α) : Prop := ∀ H, Kept A B H → R.at_ H v a
theorem Stay.now {α : Type} {R : Rep α} {A B : Hp} {v : V} {a : α} (h : Stay R A B v a) : R.at_ B v a := h B Kept.self
theorem Stay.on {α : Type} {R : Rep α} {A B C : Hp} {v : V} {a : α} (h : Stay R A B v a) (e : Ex B C) : Stay R A C v a := fun H k => h H (k.less e)
theorem Stay.from_ {α : Type} {R : Rep α} {A B C : Hp} {v : V} {a : α} (h : Stay R B C v a) (e : Ex A B) : Stay R A C v a := fun H k => h H (k.since e)
/-- a new list, of what stays -/
def NewL {α : Type} (R : Rep α) (A B : Hp) (w : V) (l : List α) : Prop := ∃ p xs, w = .ref p ∧ A p = none ∧ B p = some (.lst xs) ∧ xs.length = l.length ∧ ∀ (i : Nat) (a : α), l[i]? = some a → ∃ x, xs[i]? = some x ∧ Stay R A B x a
theorem NewL.stay {α : Type} {R : Rep α} {A B : Hp} {w : V} {l : List α} (h : NewL R A B w l) : Stay (lstR R) A B w l := fun H k => by
  obtain ⟨p, xs, h1, h2, h3, h4, h5⟩ := h
  exact ⟨p, xs, h1, k p _ h2 h3, h4, fun i a hi => let ⟨x, g1, g2⟩ := h5 i a hi; ⟨x, g1, g2 H k⟩⟩
theorem NewL.on {α : Type} {R : Rep α} {A B C : Hp} {w : V} {l : List α} (h : NewL R A B w l) (e : Ex B C) : NewL R A C w l := by
  obtain ⟨p, xs, h1, h2, h3, h4, h5⟩ := h
  exact ⟨p, xs, h1, h2, e _ _ h3, h4, fun i a hi => let ⟨x, g1, g2⟩ := h5 i a hi; ⟨x, g1, g2.on e⟩⟩
theorem NewL.from_ {α : Type} {R : Rep α} {A B C : Hp} {w : V} {l : List α} (h : NewL R B C w l) (e : Ex A B) : NewL R A C w l := by
  obtain ⟨p, xs, h1, h2, h3, h4, h5⟩ := h
  exact ⟨p, xs, h1, fresh_back e h2, h3, h4, fun i a hi => let ⟨x, g1, g2⟩ := h5 i a hi; ⟨x, g1, g2.from_ e⟩⟩
def EvN {α : Type} (R : Rep α) (te : TE) (σ : L2.St) (H : Hp) (a : α) : Prop := ∀ H1, Ex H H1 → ∀ Q : VK, (∀ v H2, Ex H1 H2 → Stay R H1 H2 v a → Q v H2) → te σ H1 Q
def EvNL {α : Type} (R : Rep α) (te : TE) (σ : L2.St) (H : Hp) (l : List α) : Prop := ∀ H1, Ex H H1 → ∀ Q : VK, (∀ v H2, Ex H1 H2 → NewL R H1 H2 v l → Q v H2) → te σ H1 Q
def RetNL {α : Type} (R : Rep α) (l : List α) (H : Hp) (Q : VK) : Prop := ∀ v H2, Ex H H2 → NewL R H H2 v l → Q v H2
section
variable {K : PySem.W.Frag} {σ : L2.St} {H H' : Hp} {ta tb te tl : TE} {t u : TT} {x y z v : V} {α β : Type} {R : Rep α} {D : Ends} {tu tw tz : TS} {g : TG}
theorem en_nat {n : Nat} (h : Ev te σ H (natV n)) : EvN natR te σ H n := fun H1 e Q q => h H1 e _ fun H2 e2 => q _ H2 e2 fun _ _ => rfl
theorem er_n {a : α} (h : EvN R te σ H a) : EvR R te σ H a := fun H1 e Q q => h H1 e _ fun v H2 e2 s => q v H2 e2 s.now
theorem en_l {l : List α} (h : EvNL R te σ H l) : EvN (lstR R) te σ H l := fun H1 e Q q => h H1 e _ fun v H2 e2 s => q v H2 e2 s.stay
theorem er_nl {l : List α} (h : EvNL R te σ H l) : EvR (seqR K R) te σ H l := er_seq (er_n (en_l h))
theorem en_tup {S : Rep β} {a : α} {b : β} (ha : EvN R ta σ H a) (hb : EvN S tb σ H b) : EvN (pairR R S) (tTup (tCons ta (tCons tb tNil))) σ H (a, b) := fun H1 e Q q =>
  ha H1 e _ fun x H2 e2 hx => hb H2 (e.trans e2) _ fun y H3 e3 hy => ⟨sz_of (by show 2 ≤ 100000; decide), fun p hp =>
    q _ _ ((e2.trans e3).trans (Ex.new hp)) fun H' k => ⟨p, x, y, rfl, k p _ (fresh_back (e2.trans e3) hp) upd_same, (hx.on (e3.trans (Ex.new hp))) H' k, ((hy.on (Ex.new hp)).from_ e2) H' k⟩⟩
def EvIN (R : Rep α) (ta : TA) (σ : L2.St) (H : Hp) (l : List α) : Prop := ∀ H1, Ex H H1 → ∀ Q : List V → Hp → Prop, (∀ xs H2, Ex H1 H2 → xs.length = l.length → (∀ (i : Nat) (a : α), l[i]? = some a → ∃ x, xs[i]? = some x ∧ Stay R H1 H2 x a) → Q xs H2) → ta σ H1 Q
theorem ein_nil : EvIN R tNil σ H [] := fun H1 _ _ q => q [] H1 (Ex.refl H1) rfl fun i a h => by simp at h
theorem ein_cons {a : α} {l : List α} {tr : TA} (h : EvN R ta σ H a) (hr : EvIN R tr σ H l) : EvIN R (tCons ta tr) σ H (a :: l) := fun H1 e _ q =>
  h H1 e _ fun x H2 e2 hx => hr H2 (e.trans e2) _ fun xs H3 e3 hl hxs => q _ H3 (e2.trans e3) (congrArg (· + 1) hl) fun i b hi => match i, hi with
    | 0, hi => ⟨x, rfl, (Option.some.inj hi) ▸ hx.on e3⟩
    | i + 1, hi => let ⟨y, g1, g2⟩ := hxs i b hi; ⟨y, g1, g2.from_ e2⟩
theorem en_lst {l : List α} {ta : TA} (h : EvIN R ta σ H l) (hl : l.length ≤ 100000) : EvNL R (tLst ta) σ H l := fun H1 e _ q =>
  h H1 e _ fun xs H2 e2 hx hs => ⟨sz_of (by rw [hx]; exact hl), fun p hp => q _ _ (e2.trans (Ex.new hp)) ⟨p, xs, rfl, fresh_back e2 hp, upd_same, hx, fun i a hi => let ⟨y, g1, g2⟩ := hs i a hi; ⟨y, g1, g2.on (Ex.new hp)⟩⟩⟩
theorem en_call {l : List α} {sp : Sp} {E : XK} {ta : TA} {P : List V → Hp → Prop} (h : EvC ta σ H P) (hs : ∀ vs H1, Ex H H1 → P vs H1 → ∀ Q : VK, RetNL R l H1 Q → ∀ E, sp vs H1 Q E) : EvNL R (tCall sp [] E ta) σ H l := fun H1 e Q q =>
  h H1 e _ fun vs H2 e2 hp => by
    show sp (vs ++ []) H2 Q E
    rw [List.append_nil]
    exact hs vs H2 (e.trans e2) hp Q (fun v H3 e3 hv => q v H3 (e2.trans e3) (hv.from_ e2)) E
theorem en_c1 {S : Rep β} {b : β} {l : List α} {sp : Sp} {E : XK} (h : EvR S ta σ H b) (hs : ∀ x H1, Ex H H1 → S.at_ H1 x b → ∀ Q : VK, RetNL R l H1 Q → ∀ E, sp [x] H1 Q E) : EvNL R (tCall sp [] E (tCons ta tNil)) σ H l :=
  en_call (ec_cons h ec_nil) fun vs H1 e ⟨x, r, h1, h2, h3⟩ Q q E => by
    subst h1 h3
    exact hs x H1 e h2 Q q E
theorem en_c2 {γ : Type} {S : Rep β} {T : Rep γ} {l : List α} {b : β} {c : γ} {sp : Sp} {E : XK} (h : EvR S ta σ H b) (h' : EvR T tb σ H c) (hs : ∀ x y H1, Ex H H1 → S.at_ H1 x b → T.at_ H1 y c → ∀ Q : VK, RetNL R l H1 Q → ∀ E, sp [x, y] H1 Q E) : EvNL R (tCall sp [] E (tCons ta (tCons tb tNil))) σ H l :=
  en_call (ec_cons h (ec_cons h' ec_nil)) fun vs H1 e ⟨x, r, h1, h2, y, r', h3, h4, h5⟩ Q q E => by
    subst h1 h3 h5
    exact hs x y H1 e h2 h4 Q q E
theorem s_retN {l : List α} (h : EvNL R te σ H l) (k : RetNL R l H D.rt) : tRet te D σ H := h H (Ex.refl H) _ k
theorem q_asgN {i : Nat} {l : List α} (h : EvNL R te σ H l) (k : ∀ v H1, Ex H H1 → NewL R H H1 v l → tz D (σ.set i (some v)) H1) : tSeq (tAsg te (gName i)) tz D σ H := h H (Ex.refl H) _ k
/-- a new flat list of ints stands for it -/
theorem en_flat {l : List Nat} (h : EvL te σ H (l.map natV)) : EvNL natR te σ H l := fun H1 e Q q => h H1 e _ fun p H2 hp e2 h2 =>
  q _ H2 e2 ⟨p, _, rfl, hp, h2, List.length_map _, fun i a hi => ⟨natV a, by rw [List.getElem?_map, hi]; rfl, fun _ _ => rfl⟩⟩
theorem el_flat {l : List Nat} (h : EvNL natR te σ H l) : EvL te σ H (l.map natV) := fun H1 e Q q => h H1 e _ fun v H2 e2 ⟨p, xs, h1, h2, h3, h4, h5⟩ => by
  subst h1
  have ex : xs = l.map natV := items_nat (H := H2) ⟨h4, fun i a hi => let ⟨x, g1, g2⟩ := h5 i a hi; ⟨x, g1, g2.now⟩⟩
  subst ex
  exact q p H2 h2 e2 h3
/-- a comprehension over range(0, n', c) that makes a new list each turn -/
theorem en_lcR3L {ta : TA} {j : Nat} {vs : List Nat} {n' c : Int} {n : Nat} (f : Nat → List Nat) (h : EvA ta σ H [.int 0, .int n', .int c]) (hr : RgC 0 n' c n) (hn : n ≤ 40000) (hw : ∀ x, wipe ((wipe σ vs).set j (some x)) vs = wipe σ vs)
    (he : ∀ (i : Nat) H1, Ex H H1 → i < n → EvL te ((wipe σ vs).set j (some (.int ((0 : Int) + (i : Nat) * c)))) H1 ((f i).map natV)) : EvNL (seqR K natR) (tLc (iRng3 ta) (gName j) tYes te vs) σ H ((List.range n).map f) := fun H0 e0 Q q =>
  h H0 e0 _ fun H1 e1 => ⟨0, n', c, n, rfl, hr, fun Dl hD => by
    refine ⟨fun i m H' => m = n - i ∧ i ≤ n ∧ Ex H1 H' ∧ ∃ xs, H' Dl = some (.lst xs) ∧ xs.length = i ∧ ∀ k, k < i → ∃ p, xs[k]? = some (.ref p) ∧ p ≠ Dl ∧ H1 p = none ∧ H' p = some (.lst ((f k).map natV)), ⟨n, by omega, Nat.zero_le _, Ex.new hD, [], upd_same, rfl, fun k hk => absurd hk (Nat.not_lt_zero _)⟩, ?_⟩
    rintro i m H' ⟨rfl, hi, e2, xs, hx, hl, hp⟩
    by_cases hlt : i < n
    · refine .inr ⟨hlt, fun H2 => i + 1 ≤ n ∧ Ex H1 H2 ∧ ∃ xs, H2 Dl = some (.lst xs) ∧ xs.length = i + 1 ∧ ∀ k, k < i + 1 → ∃ p, xs[k]? = some (.ref p) ∧ p ≠ Dl ∧ H1 p = none ∧ H2 p = some (.lst ((f k).map natV)), fun H2 p2 => ⟨n - (i + 1), by omega, rfl, p2⟩, ?_⟩
      rintro x H'' ⟨rfl, rfl⟩
      refine ⟨hw _, he i H'' ((e0.trans e1).trans e2) hlt H'' (Ex.refl _) _ fun p H3 hp0 e3 hp3 => ⟨xs, e3 _ _ hx, sz_lt (by omega), hlt, Ex.mut (e2.trans e3) hD, xs ++ [.ref p], upd_same, by simp [hl], fun k hk => ?_⟩⟩
      have hne : ∀ {z : Addr} {o : HO}, H'' z = some o → z ≠ p := fun hz => ne_of_none hz hp0
      by_cases hki : k < i
      · obtain ⟨z, h1, h2, h2', h3⟩ := hp k hki
        refine ⟨z, by rw [List.getElem?_append_left (by omega)]; exact h1, h2, h2', ?_⟩
        rw [upd_ne h2]
        exact e3 _ _ h3
      · have : k = i := by omega
        subst this
        refine ⟨p, by rw [List.getElem?_append_right (by omega), hl]; simp, (hne hx).symm, fresh_back e2 hp0, ?_⟩
        rw [upd_ne (hne hx).symm]
        exact hp3
    · have : i = n := by omega
      subst this
      refine .inl ⟨Nat.le_refl _, q _ _ (e1.trans e2) ⟨Dl, xs, rfl, fresh_back e1 hD, hx, by simp [hl], fun k a hk => ?_⟩⟩
      rw [List.getElem?_map] at hk
      have hki : k < i := by
        by_cases hki : k < i
        · exact hki
        · rw [List.getElem?_eq_none_iff.mpr (by rw [List.length_range]; omega)] at hk
          cases hk
      rw [List.getElem?_range hki] at hk
      obtain rfl := Option.some.inj hk
      obtain ⟨p, h1, h2, h2', h3⟩ := hp k hki
      exact ⟨_, h1, fun H2 kp => nats_at.mpr ⟨p, rfl, sq_of (kp p _ (fresh_back e1 h2') h3)⟩⟩⟩
/-! ### loops whose body may change what the def made: what was new in the list stays -/
theorem s_forN {l : List α} (h : EvNL R tl σ H l) (Pv : Nat → L2.St → Hp → Prop) (h0 : ∀ H1, Ex H H1 → Pv 0 σ H1)
    (hs : ∀ B i a v σ' H', Ex H B → Kept H B H' → l[i]? = some a → Stay R H B v a → Pv i σ' H' → g v σ' H' fun σ2 H2 => tu { D with nx := fun σ3 H3 => Kept H B H3 ∧ Pv (i + 1) σ3 H3, ct := fun σ3 H3 => Kept H B H3 ∧ Pv (i + 1) σ3 H3, bk := D.nx } σ2 H2)
    (hd : ∀ σ' H', Pv l.length σ' H' → D.nx σ' H') : tFor (iList K tl) g tu D σ H := by
  refine h H (Ex.refl H) _ fun w B e1 hw => ?_
  obtain ⟨p, xs, rfl, hp0, hp, hl, hx⟩ := hw
  refine ⟨p, rfl, ⟨xs, sq_of hp⟩, for_list (xs := xs) (fun i σ' H' => Kept H B H' ∧ Pv i σ' H') ⟨Kept.self, h0 B e1⟩ (fun i σ' H' _ q => sq_of (q.1 p _ hp0 hp)) (fun i x σ' H' hi q => ?_) (fun σ' H' q => hd σ' H' (by rw [← hl]; exact q.2))⟩
  have hil : i < l.length := by
    rw [← hl]
    exact (List.getElem?_eq_some_iff.mp hi).1
  obtain ⟨x', h1, h2⟩ := hx i _ (List.getElem?_eq_getElem hil)
  have ex : x = x' := Option.some.inj (hi.symm.trans h1)
  subst ex
  exact hs B i _ x σ' H' e1 q.1 (List.getElem?_eq_getElem hil) h2 q.2
theorem q_forN {l : List α} (h : EvNL R tl σ H l) (Pv : Nat → L2.St → Hp → Prop) (h0 : ∀ H1, Ex H H1 → Pv 0 σ H1)
    (hs : ∀ B i a v σ' H', Ex H B → Kept H B H' → l[i]? = some a → Stay R H B v a → Pv i σ' H' → g v σ' H' fun σ2 H2 => tu { D with nx := fun σ3 H3 => Kept H B H3 ∧ Pv (i + 1) σ3 H3, ct := fun σ3 H3 => Kept H B H3 ∧ Pv (i + 1) σ3 H3, bk := tz D } σ2 H2)
    (hd : ∀ σ' H', Pv l.length σ' H' → tz D σ' H') : tSeq (tFor (iList K tl) g tu) tz D σ H := s_forN (D := { D with nx := tz D }) h Pv h0 hs hd
/-- for i, x in enumerate(new list) -/
theorem q_forEnumN {l : List α} {a b : Nat} (h : EvNL R tl σ H l) (Pv : Nat → L2.St → Hp → Prop) (h0 : ∀ H1, Ex H H1 → Pv 0 σ H1)
    (hs : ∀ B i y v σ' H', Ex H B → Kept H B H' → l[i]? = some y → Stay R H B v y → Pv i σ' H' → tu { D with nx := fun σ3 H3 => Kept H B H3 ∧ Pv (i + 1) σ3 H3, ct := fun σ3 H3 => Kept H B H3 ∧ Pv (i + 1) σ3 H3, bk := tz D } ((σ'.set a (some (natV i))).set b (some v)) H')
    (hP : ∀ i σ' H' H'', Ex H' H'' → Pv i σ' H' → Pv i σ' H'')
    (hd : ∀ σ' H', Pv l.length σ' H' → tz D σ' H') : tSeq (tFor (iEnum K (tCons tl tNil)) (gTup K 2 (gCons (gName a) (gCons (gName b) gNil))) tu) tz D σ H := by
  refine h H (Ex.refl H) _ fun w B e1 hw => ?_
  obtain ⟨p, xs, rfl, hp0, hp, hl, hx⟩ := hw
  refine ⟨p, xs, rfl, sq_of hp, fun i m σ' H' => m = xs.length - i ∧ i ≤ xs.length ∧ Kept H B H' ∧ Pv i σ' H', ⟨xs.length, by simp, Nat.zero_le _, Kept.self, h0 B e1⟩, ?_⟩
  rintro i m σ' H' ⟨rfl, hi, q1, q2⟩
  have hp' : SqL K H' p xs := sq_of (q1 p _ hp0 hp)
  by_cases hlt : i < xs.length
  · have hil : i < l.length := by rw [← hl]; exact hlt
    obtain ⟨x, h1, h2⟩ := hx i _ (List.getElem?_eq_getElem hil)
    refine .inr ⟨⟨xs, x, hp', h1⟩, fun σ3 H3 => Kept H B H3 ∧ Pv (i + 1) σ3 H3, fun σ3 H3 n => ⟨xs.length - (i + 1), by omega, rfl, hlt, n.1, n.2⟩, ?_⟩
    rintro v H'' ⟨T, y, rfl, nT, rfl, f⟩
    have ey : y = x := Option.some.inj ((f xs hp').symm.trans h1)
    subst ey
    have e2 : Ex H' (upd H' T (.tup [.int (i : Nat), y])) := Ex.new nT
    refine ⟨T, [.int (i : Nat), y], rfl, st_of upd_same, rfl, natV i, [y], rfl, y, [], rfl, rfl, ?_⟩
    have := hs B i _ y σ' (upd H' T (.tup [.int (i : Nat), y])) e1 (q1.ex e2) (List.getElem?_eq_getElem hil) h2 (hP i σ' _ _ e2 q2)
    exact this
  · have e : i = xs.length := by omega
    exact .inl ⟨⟨xs, hp', by omega⟩, hd σ' H' (by rw [← hl, ← e]; exact q2)⟩
end
section
variable {K : PySem.W.Frag} {σ : L2.St} {H H' : Hp} {ta tb te tl : TE} {D : Ends} {tu tz : TS}
/-- two new lists, one behind the other -/
theorem el_cat2 {xs zs : List V} (ha : EvL ta σ H xs) (hb : EvL tb σ H zs) (hz : xs.length + zs.length ≤ 100000) : EvL (tOp rCat ta tb) σ H (xs ++ zs) := fun H1 e Q q =>
  ha H1 e _ fun p H2 hp e2 h2 => hb H2 (e.trans e2) _ fun b H3 hb e3 h3 => ⟨p, b, xs, zs, rfl, rfl, e3 _ _ h2, h3, sz_of hz, fun r hr => q r _ (fresh_back (e2.trans e3) hr) ((e2.trans e3).trans (Ex.new hr)) upd_same⟩
/-! ### a list of new flat lists that grows -/
/-- of a list at p: its items are lists of whole numbers, new since A, none of them p -/
def Flats (A : Hp) (p : Addr) (H : Hp) (xs : List V) (l : List (List Nat)) : Prop := xs.length = l.length ∧ ∀ (i : Nat) (a : List Nat), l[i]? = some a → ∃ q, xs[i]? = some (.ref q) ∧ q ≠ p ∧ A q = none ∧ H q = some (.lst (a.map natV))
theorem Flats.nil {A H : Hp} {p : Addr} : Flats A p H [] [] := ⟨rfl, fun i a h => by simp at h⟩
theorem Flats.ex {A H H' : Hp} {p : Addr} {xs : List V} {l : List (List Nat)} (h : Flats A p H xs l) (e : Ex H H') : Flats A p H' xs l :=
  ⟨h.1, fun i a hi => let ⟨q, h1, h2, h3, h4⟩ := h.2 i a hi; ⟨q, h1, h2, h3, e _ _ h4⟩⟩
theorem Flats.upd {A H : Hp} {p : Addr} {xs : List V} {l : List (List Nat)} {o : HO} (h : Flats A p H xs l) : Flats A p (L2.upd H p o) xs l :=
  ⟨h.1, fun i a hi => let ⟨q, h1, h2, h3, h4⟩ := h.2 i a hi; ⟨q, h1, h2, h3, by rw [upd_ne h2]; exact h4⟩⟩
theorem Flats.snoc {A H H1 : Hp} {p q : Addr} {xs : List V} {l : List (List Nat)} {a : List Nat} (h : Flats A p H xs l) (e : Ex H H1) (eA : Ex A H ∨ A q = none) (hp : H p ≠ none) (hq : H q = none) (hq1 : H1 q = some (.lst (a.map natV))) : Flats A p H1 (xs ++ [.ref q]) (l ++ [a]) := by
  have h' := h.ex e
  refine ⟨by simp [h.1], fun i b hi => ?_⟩
  by_cases hl : i < l.length
  · rw [List.getElem?_append_left hl] at hi
    obtain ⟨r, h1, h2, h3, h4⟩ := h'.2 i b hi
    exact ⟨r, by rw [List.getElem?_append_left (by rw [h.1]; exact hl)]; exact h1, h2, h3, h4⟩
  · rw [List.getElem?_append_right (by omega)] at hi
    have e0 : i - l.length = 0 := by
      have := (List.getElem?_eq_some_iff.mp hi).1
      simp at this
      omega
    rw [e0] at hi
    have eb : a = b := Option.some.inj hi
    subst eb
    refine ⟨q, ?_, fun z => hp (z ▸ hq), ?_, hq1⟩
    · rw [List.getElem?_append_right (by rw [h.1]; omega), h.1, e0]
      rfl
    · rcases eA with z | z
      · exact fresh_back z hq
      · exact z
theorem Flats.newL {A H : Hp} {p : Addr} {xs : List V} {l : List (List Nat)} (h : Flats A p H xs l) (hA : A p = none) (hp : H p = some (.lst xs)) : NewL (seqR K natR) A H (.ref p) l :=
  ⟨p, xs, rfl, hA, hp, h.1, fun i a hi => let ⟨q, h1, _, h3, h4⟩ := h.2 i a hi; ⟨.ref q, h1, fun H2 k => nats_at.mpr ⟨q, rfl, sq_of (k q _ h3 h4)⟩⟩⟩
end
end Bf
namespace Bf
open PySem PySem.Spec PyProof.Rows L2
open Evl
/-! ### dicts from whole numbers to whole numbers -/
def encD (l : List (Nat × Nat)) : List (Key × V) := l.map fun x => ((Sum.inl (x.1 : Int) : Key), natV x.2)
def look (l : List (Nat × Nat)) (u : Nat) : Option Nat := (l.find? fun x => decide (x.1 = u)).map (·.2)
def put : List (Nat × Nat) → Nat → Nat → List (Nat × Nat)
  | [], u, c => [(u, c)]
  | x :: l, u, c => if x.1 = u then (u, c) :: l else x :: put l u c
theorem key_eq {a b : Nat} : ((Sum.inl (a : Int) : Key) = Sum.inl (b : Int)) ↔ a = b := ⟨fun h => Int.ofNat.inj (Sum.inl.inj h), fun h => by rw [h]⟩
theorem look_cons (x : Nat × Nat) (l : List (Nat × Nat)) (u : Nat) : look (x :: l) u = if x.1 = u then some x.2 else look l u := by
  unfold look
  rw [List.find?_cons]
  by_cases e : x.1 = u
  · rw [decide_eq_true e, if_pos e]
    rfl
  · rw [decide_eq_false e, if_neg e]
theorem valV_enc : ∀ (l : List (Nat × Nat)) (u : Nat), valV (encD l) (Sum.inl (u : Int) : Key) = (look l u).map natV
  | [], u => rfl
  | x :: l, u => by
    rw [look_cons]
    by_cases e : x.1 = u
    · rw [if_pos e]
      exact valV_pos (key_eq.mpr e)
    · rw [if_neg e, ← valV_enc l u]
      exact valV_neg (fun h => e (key_eq.mp h))
theorem look_none {l : List (Nat × Nat)} {u : Nat} : look l u = none ↔ u ∉ l.map (·.1) := by
  induction l with
  | nil => simp [look]
  | cons x l ih =>
    rw [look_cons]
    by_cases e : x.1 = u
    · rw [if_pos e]
      simp [e]
    · rw [if_neg e, ih]
      simp only [List.map_cons, List.mem_cons, not_or]
      exact ⟨fun h => ⟨fun z => e z.symm, h⟩, fun h => h.2⟩
theorem put_new : ∀ {l : List (Nat × Nat)} {u : Nat} (c : Nat), u ∉ l.map (·.1) → put l u c = l ++ [(u, c)]
  | [], u, c, _ => rfl
  | x :: l, u, c, h => by
    simp only [List.map_cons, List.mem_cons, not_or] at h
    show (if x.1 = u then (u, c) :: l else x :: put l u c) = _
    rw [if_neg (fun e => h.1 e.symm), put_new c h.2]
    rfl
theorem map_same {l : List (Nat × Nat)} {u c : Nat} (h : u ∉ l.map (·.1)) : (encD l).map (fun (kv : Key × V) => if kv.1 = Sum.inl (u : Int) then (kv.1, natV c) else kv) = encD l := by
  unfold encD
  rw [List.map_map]
  refine List.map_congr_left fun x hx => ?_
  show (if (Sum.inl (x.1 : Int) : Key) = Sum.inl (u : Int) then _ else _) = _
  rw [if_neg fun e => h (List.mem_map.mpr ⟨x, hx, key_eq.mp e⟩)]
theorem putK_enc : ∀ (l : List (Nat × Nat)) (u c : Nat), (l.map (·.1)).Nodup → putK (encD l) (Sum.inl (u : Int) : Key) (natV c) = encD (put l u c) := by
  intro l u c hn
  by_cases h : u ∈ l.map (·.1)
  · unfold putK
    have ha : ((encD l).any fun kv => decide (kv.1 = Sum.inl (u : Int))) = true := by
      obtain ⟨x, hx, e⟩ := List.mem_map.mp h
      exact List.any_eq_true.mpr ⟨_, List.mem_map.mpr ⟨x, hx, rfl⟩, decide_eq_true (key_eq.mpr e)⟩
    rw [if_pos ha]
    have key : ∀ l : List (Nat × Nat), (l.map (·.1)).Nodup → u ∈ l.map (·.1) → (encD l).map (fun (kv : Key × V) => if kv.1 = Sum.inl (u : Int) then (kv.1, natV c) else kv) = encD (put l u c) := by
      intro l
      induction l with
      | nil => intro _ h; cases h
      | cons x l ih =>
        intro hn h
        obtain ⟨h1, h2⟩ := List.nodup_cons.mp hn
        show (if (Sum.inl (x.1 : Int) : Key) = Sum.inl (u : Int) then ((Sum.inl (x.1 : Int) : Key), natV c) else ((Sum.inl (x.1 : Int) : Key), natV x.2)) :: (encD l).map _ = encD (if x.1 = u then (u, c) :: l else x :: put l u c)
        by_cases e : x.1 = u
        · rw [if_pos (key_eq.mpr e), if_pos e, map_same (by rw [← e]; exact h1), e]
          rfl
        · rw [if_neg fun z => e (key_eq.mp z), if_neg e, ih h2 (by
            rcases List.mem_cons.mp h with z | z
            · exact absurd z.symm e
            · exact z)]
          rfl
    exact key l hn h
  · rw [put_new c h]
    have hv : valV (encD l) (Sum.inl (u : Int) : Key) = none := by
      rw [valV_enc, look_none.mpr h]
      rfl
    rw [putK_new _ hv]
    unfold encD
    rw [List.map_append]
    rfl
theorem put_keysD : ∀ (l : List (Nat × Nat)) (u c : Nat), (put l u c).map (·.1) = if u ∈ l.map (·.1) then l.map (·.1) else l.map (·.1) ++ [u]
  | [], u, c => rfl
  | x :: l, u, c => by
    have ih := put_keysD l u c
    show (if x.1 = u then (u, c) :: l else x :: put l u c).map (·.1) = _
    by_cases e : x.1 = u
    · rw [if_pos e, if_pos (by simp [e])]
      show u :: l.map (·.1) = x.1 :: l.map (·.1)
      rw [e]
    · rw [if_neg e]
      show x.1 :: (put l u c).map (·.1) = _
      rw [ih]
      by_cases h : u ∈ l.map (·.1)
      · rw [if_pos h, List.map_cons, if_pos (List.mem_cons_of_mem _ h)]
      · rw [if_neg h, List.map_cons, if_neg (by simp only [List.mem_cons, not_or]; exact ⟨fun h => e h.symm, h⟩)]
        rfl
theorem put_nodupD {l : List (Nat × Nat)} {u c : Nat} (h : (l.map (·.1)).Nodup) : ((put l u c).map (·.1)).Nodup := by
  rw [put_keysD]
  split
  · exact h
  · rename_i hu
    exact nd_snoc h hu
theorem put_len (l : List (Nat × Nat)) (u c : Nat) : (put l u c).length ≤ l.length + 1 := by
  have e := congrArg List.length (put_keysD l u c)
  rw [List.length_map] at e
  rw [e]
  split <;> simp
/-- d[u] = d.get(u, z) with c put to it by f -/
theorem put_with (f : Nat → Nat → Nat) (g : Nat → Nat) (hg : ∀ c, g c = c) (z u c : Nat) : ∀ l : List (Nat × Nat), put l u (match look l u with
    | some a => f a c
    | none => c) = Na.putWith f u c l
  | [] => rfl
  | x :: l => by
    have ih := put_with f g hg z u c l
    rw [look_cons]
    show _ = if x.1 = u then (u, f x.2 c) :: l else x :: Na.putWith f u c l
    by_cases e : x.1 = u
    · rw [if_pos e, if_pos e]
      show (if x.1 = u then (u, f x.2 c) :: l else _) = _
      rw [if_pos e]
    · rw [if_neg e, if_neg e, ← ih]
      show (if x.1 = u then _ else x :: put l u _) = _
      rw [if_neg e]
theorem put_add (l : List (Nat × Nat)) (u c : Nat) : put l u ((look l u).getD 0 + c) = Na.putWith (fun a b => a + b) u c l := by
  rw [← put_with (fun a b => a + b) id (fun _ => rfl) 0 u c l]
  cases look l u with
  | none => exact congrArg (put l u) (Nat.zero_add c)
  | some a => rfl
section
variable {K : PySem.W.Frag} {σ : L2.St} {H H' : Hp} {ta tb te td ty tx tv : TE} {D : Ends} {tu tz : TS} {l : List (Nat × Nat)} {d : Addr} {u c z : Nat} {a b : Nat}
theorem ex_rdD {kvs : List (Key × V)} (e : Ex H H') (h : Rd H d (.dK kvs)) : Rd H' d (.dK kvs) := ex_rd e h
theorem ev_dget2 (hd : Rd H d (.dK (encD l))) (h1 : Ev td σ H (.ref d)) (h2 : Ev ty σ H (natV u)) (h3 : Ev tx σ H (natV z)) : Ev (tDGet2 td ty tx) σ H (natV ((look l u).getD z)) := fun H1 e Q q =>
  h1 H1 e _ fun H2 e2 => ⟨d, rfl, .inl ⟨_, ex_rd (e.trans e2) hd⟩, h2 H2 (e.trans e2) _ fun H3 e3 => h3 H3 ((e.trans e2).trans e3) _ fun H4 e4 => by
    refine ⟨_, .inl ⟨_, (Sum.inl (u : Int) : Key), ex_rd (((e.trans e2).trans e3).trans e4) hd, rfl, rfl⟩, ?_⟩
    rw [valV_enc]
    have : ((look l u).map natV).getD (natV z) = natV ((look l u).getD z) := by cases look l u <;> rfl
    rw [this]
    exact q H4 ((e2.trans e3).trans e4)⟩
theorem ev_dget (hd : Rd H d (.dK (encD l))) (h1 : Ev td σ H (.ref d)) (h2 : Ev ty σ H (natV u)) (hl : look l u = some c) : Ev (tDGet td ty) σ H (natV c) := fun H1 e Q q =>
  h1 H1 e _ fun H2 e2 => h2 H2 (e.trans e2) _ fun H3 e3 => ⟨d, natV c, rfl, .inl ⟨_, (Sum.inl (u : Int) : Key), ex_rd ((e.trans e2).trans e3) hd, rfl, by rw [valV_enc, hl]; rfl⟩, q H3 (e2.trans e3)⟩
theorem ev_din (hd : Rd H d (.dK (encD l))) (h1 : Ev td σ H (.ref d)) (h2 : Ev ty σ H (natV u)) : Ev (tDIn ty td) σ H (.bl (look l u).isSome) := fun H1 e Q q =>
  h2 H1 e _ fun H2 e2 => h1 H2 (e.trans e2) _ fun H3 e3 => ⟨d, _, rfl, .inl ⟨_, (Sum.inl (u : Int) : Key), ex_rd ((e.trans e2).trans e3) hd, rfl, rfl⟩, by
    rw [valV_enc, Option.isSome_map]
    exact q H3 (e2.trans e3)⟩
theorem ev_dnotin (hd : Rd H d (.dK (encD l))) (h1 : Ev td σ H (.ref d)) (h2 : Ev ty σ H (natV u)) : Ev (tDNotIn ty td) σ H (.bl (!(look l u).isSome)) := fun H1 e Q q =>
  h2 H1 e _ fun H2 e2 => h1 H2 (e.trans e2) _ fun H3 e3 => ⟨d, _, rfl, .inl ⟨_, (Sum.inl (u : Int) : Key), ex_rd ((e.trans e2).trans e3) hd, rfl, rfl⟩, by
    rw [valV_enc, Option.isSome_map]
    exact q H3 (e2.trans e3)⟩
/-- d[u] = c -/
theorem s_dput (hd : H d = some (.dK (encD l))) (hn : (l.map (·.1)).Nodup) (hz : l.length < 100000) (hv : Ev tv σ H (natV c)) (h1 : Ev td σ H (.ref d)) (h2 : Ev ty σ H (natV u)) (k : ∀ H1, Ex H H1 → D.nx σ (upd H1 d (.dK (encD (put l u c))))) : sDPut td ty tv D σ H :=
  hv H (Ex.refl H) _ fun H2 e2 => h1 H2 e2 _ fun H3 e3 => h2 H3 (e2.trans e3) _ fun H4 e4 => ⟨d, _, rfl, .inl ⟨_, (Sum.inl (u : Int) : Key), ((e2.trans e3).trans e4) _ _ hd, rfl, sz_lt (by
    unfold encD
    rw [List.length_map]
    exact hz), rfl⟩, by
    rw [putK_enc l u c hn]
    exact k H4 ((e2.trans e3).trans e4)⟩
theorem q_dput (hd : H d = some (.dK (encD l))) (hn : (l.map (·.1)).Nodup) (hz : l.length < 100000) (hv : Ev tv σ H (natV c)) (h1 : Ev td σ H (.ref d)) (h2 : Ev ty σ H (natV u)) (k : ∀ H1, Ex H H1 → tz D σ (upd H1 d (.dK (encD (put l u c))))) : tSeq (sDPut td ty tv) tz D σ H := s_dput (D := { D with nx := tz D }) hd hn hz hv h1 h2 k
/-- a new dict -/
theorem q_dnew {i : Nat} (k : ∀ p, H p = none → tz D (σ.set i (some (.ref p))) (upd H p (.dK (encD [])))) : tSeq (tAsg tDNewK (gName i)) tz D σ H := fun p hp => k p hp
/-- for u, c in d.items() -/
theorem s_forItems (hd : H d = some (.dK (encD l))) (he : ∀ od : Obj, Ev td σ (upd H d (.frz od (.dK (encD l)))) (.ref d)) (Pv : Obj → Nat → L2.St → Hp → Prop)
    (h0 : ∀ od H1, Ex (upd H d (.frz od (.dK (encD l)))) H1 → Pv od 0 σ H1) (hl : ∀ od i σ' H', Pv od i σ' H' → H' d = some (.frz od (.dK (encD l)))) (hP : ∀ od i σ' H' H'', Ex H' H'' → Pv od i σ' H' → Pv od i σ' H'')
    (hs : ∀ (od : Obj) (i : Nat) (u c : Nat) σ' H', l[i]? = some (u, c) → Pv od i σ' H' → tu ⟨Pv od (i + 1), fun v H3 => H3 d = some (.frz od (.dK (encD l))) ∧ D.rt v (upd H3 d (.dK (encD l))), fun σ3 H3 => H3 d = some (.frz od (.dK (encD l))) ∧ D.nx σ3 (upd H3 d (.dK (encD l))), Pv od (i + 1)⟩ ((σ'.set a (some (natV u))).set b (some (natV c))) H')
    (hz : ∀ od σ' H', Pv od l.length σ' H' → D.nx σ' (upd H' d (.dK (encD l)))) : tLock (tFor (iItems td) (gTup K 2 (gCons (gName a) (gCons (gName b) gNil))) tu) D σ H := by
  refine ⟨d, _, hd, trivial, fun od => ?_⟩
  refine he od _ (Ex.refl _) _ fun H1 e1 => ?_
  have hd1 : H1 d = some (.frz od (.dK (encD l))) := e1 _ _ upd_same
  have len : (encD l).length = l.length := by
    unfold encD
    rw [List.length_map]
  refine ⟨d, od, _, rfl, hd1, fun i m σ' H' => m = l.length - i ∧ i ≤ l.length ∧ Pv od i σ' H', ⟨l.length, by simp, Nat.zero_le _, h0 od H1 e1⟩, ?_⟩
  rintro i m σ' H' ⟨rfl, hi, p⟩
  by_cases hlt : i < l.length
  · refine .inr ⟨⟨hl od i σ' H' p, by rw [len]; exact hlt⟩, Pv od (i + 1), fun σ3 H3 n => ⟨l.length - (i + 1), by omega, rfl, hlt, n⟩, ?_⟩
    rintro x H'' ⟨T, k, v, hk, rfl, nT, rfl⟩
    have e2 : Ex H' (upd H' T (.tup [kV k, v])) := Ex.new nT
    obtain ⟨⟨u, c⟩, huc⟩ : ∃ y, l[i]? = some y := ⟨l[i], List.getElem?_eq_getElem hlt⟩
    unfold encD at hk
    rw [List.getElem?_map, huc] at hk
    have ek := Option.some.inj hk
    obtain ⟨rfl, rfl⟩ := Prod.mk.inj ek
    refine ⟨T, [kV (Sum.inl (u : Int)), natV c], rfl, st_of upd_same, rfl, natV u, [natV c], rfl, natV c, [], rfl, rfl, ?_⟩
    exact hs od i u c σ' _ huc (hP od i σ' _ _ e2 p)
  · have e : i = l.length := by omega
    subst e
    exact .inl ⟨⟨hl od _ σ' H' p, by rw [len]; exact Nat.le_refl _⟩, hl od _ σ' H' p, hz od σ' H' p⟩
theorem q_forItems (hd : H d = some (.dK (encD l))) (he : ∀ od : Obj, Ev td σ (upd H d (.frz od (.dK (encD l)))) (.ref d)) (Pv : Obj → Nat → L2.St → Hp → Prop)
    (h0 : ∀ od H1, Ex (upd H d (.frz od (.dK (encD l)))) H1 → Pv od 0 σ H1) (hl : ∀ od i σ' H', Pv od i σ' H' → H' d = some (.frz od (.dK (encD l)))) (hP : ∀ od i σ' H' H'', Ex H' H'' → Pv od i σ' H' → Pv od i σ' H'')
    (hs : ∀ (od : Obj) (i : Nat) (u c : Nat) σ' H', l[i]? = some (u, c) → Pv od i σ' H' → tu ⟨Pv od (i + 1), fun v H3 => H3 d = some (.frz od (.dK (encD l))) ∧ D.rt v (upd H3 d (.dK (encD l))), fun σ3 H3 => H3 d = some (.frz od (.dK (encD l))) ∧ tz D σ3 (upd H3 d (.dK (encD l))), Pv od (i + 1)⟩ ((σ'.set a (some (natV u))).set b (some (natV c))) H')
    (hz : ∀ od σ' H', Pv od l.length σ' H' → tz D σ' (upd H' d (.dK (encD l)))) : tSeq (tLock (tFor (iItems td) (gTup K 2 (gCons (gName a) (gCons (gName b) gNil))) tu)) tz D σ H := s_forItems (D := { D with nx := tz D }) hd he Pv h0 hl hP hs hz
/-! a new dict that is handed back -/
def RetD (T : List (Nat × Nat)) (H : Hp) (Q : VK) : Prop := ∀ d H2, Ex H H2 → H d = none → H2 d = some (.dK (encD T)) → Q (.ref d) H2
def EvD (te : TE) (σ : L2.St) (H : Hp) (T : List (Nat × Nat)) : Prop := ∀ H1, Ex H H1 → ∀ Q : VK, (∀ d H2, Ex H1 H2 → H1 d = none → H2 d = some (.dK (encD T)) → Q (.ref d) H2) → te σ H1 Q
theorem ed_call {T : List (Nat × Nat)} {sp : Sp} {E : XK} {ta : TA} {P : List V → Hp → Prop} (h : EvC ta σ H P) (hs : ∀ vs H1, Ex H H1 → P vs H1 → ∀ Q : VK, RetD T H1 Q → ∀ E, sp vs H1 Q E) : EvD (tCall sp [] E ta) σ H T := fun H1 e Q q =>
  h H1 e _ fun vs H2 e2 hp => by
    show sp (vs ++ []) H2 Q E
    rw [List.append_nil]
    exact hs vs H2 (e.trans e2) hp Q (fun d H3 e3 hd h3 => q d H3 (e2.trans e3) (fresh_back e2 hd) h3) E
theorem q_asgD {T : List (Nat × Nat)} {i : Nat} (h : EvD te σ H T) (k : ∀ d H1, Ex H H1 → H d = none → H1 d = some (.dK (encD T)) → tz D (σ.set i (some (.ref d))) H1) : tSeq (tAsg te (gName i)) tz D σ H := h H (Ex.refl H) _ k
theorem s_asgD {T : List (Nat × Nat)} {i : Nat} (h : EvD te σ H T) (k : ∀ d H1, Ex H H1 → H d = none → H1 d = some (.dK (encD T)) → D.nx (σ.set i (some (.ref d))) H1) : tAsg te (gName i) D σ H := h H (Ex.refl H) _ k
/-! all that was stands, but at one place -/
def ExBut (d : Addr) (H H' : Hp) : Prop := ∀ a x, a ≠ d → H a = some x → H' a = some x
theorem ExBut.of {H H' : Hp} {d : Addr} (e : Ex H H') : ExBut d H H' := fun a x _ h => e a x h
theorem ExBut.ex {H H1 H2 : Hp} {d : Addr} (h : ExBut d H H1) (e : Ex H1 H2) : ExBut d H H2 := fun a x n k => e a x (h a x n k)
theorem ExBut.at {H H1 : Hp} {d : Addr} {o : HO} (h : ExBut d H H1) : ExBut d H (upd H1 d o) := fun a x n k => by
  rw [upd_ne n]
  exact h a x n k
theorem ExBut.new {H H1 : Hp} {d p : Addr} {o : HO} (h : ExBut d H H1) (hp : H p = none) : ExBut d H (upd H1 p o) := fun a x n k => by
  rw [upd_ne (ne_of_none k hp)]
  exact h a x n k
theorem ExBut.back {H H1 : Hp} {d : Addr} {o : HO} (h : ExBut d H H1) (hd : H d = some o) : Ex H (upd H1 d o) := fun a x k => by
  by_cases e : a = d
  · subst e
    rw [upd_same, ← hd]
    exact k
  · rw [upd_ne e]
    exact h a x e k
theorem but_nats {H H1 : Hp} {d : Addr} {kv : List (Key × V)} {v : V} {g : List Nat} (h : ExBut d H H1) (hd : H d = some (.dK kv)) (hv : (seqR K natR).at_ H v g) : (seqR K natR).at_ H1 v g := by
  obtain ⟨p, rfl, hp⟩ := nats_at.mp hv
  refine nats_at.mpr ⟨p, rfl, ?_⟩
  rcases hp with (hp | ⟨o, hp⟩) | hp
  · have hne : p ≠ d := fun e => by
      rw [e, hd] at hp
      cases hp
    exact .inl (.inl (h _ _ hne hp))
  · have hne : p ≠ d := fun e => by
      rw [e, hd] at hp
      cases hp
    exact .inl (.inr ⟨o, h _ _ hne hp⟩)
  · exact .inr hp
end
end Bf
namespace Bf
open PySem PySem.Spec PyProof.Rows L2
open Evl
section
variable {K : PySem.W.Frag} {σ : L2.St} {H H' : Hp} {ta tb te tl : TE} {tA : TA} {x y z v : V} {α β : Type} {R : Rep α} {S : Rep β} {D : Ends} {tu tz : TS}
/-- for x, y in zip(..), of two lists that are read -/
theorem s_forZip {l : List α} {m : List β} {i1 i2 : Nat} (hlm : l.length = m.length) (h : EvC tA σ H fun vs H2 => ∃ x r, vs = x :: r ∧ (seqR K R).at_ H2 x l ∧ ∃ y s, r = y :: s ∧ (seqR K S).at_ H2 y m ∧ s = []) (Pv : Nat → L2.St → Hp → Prop) (h0 : ∀ H1, Ex H H1 → Pv 0 σ H1)
    (hs : ∀ B i a b v w σ' H', Ex H B → Ex B H' → l[i]? = some a → m[i]? = some b → R.at_ H' v a → S.at_ H' w b → Pv i σ' H' → tu { D with nx := fun σ3 H3 => Ex B H3 ∧ Pv (i + 1) σ3 H3, ct := fun σ3 H3 => Ex B H3 ∧ Pv (i + 1) σ3 H3, bk := D.nx } ((σ'.set i1 (some v)).set i2 (some w)) H')
    (hP : ∀ i σ' H' H'', Ex H' H'' → Pv i σ' H' → Pv i σ' H'')
    (hd : ∀ σ' H', Ex H H' → Pv l.length σ' H' → D.nx σ' H') : tFor (iZip K tA) (gTup K 2 (gCons (gName i1) (gCons (gName i2) gNil))) tu D σ H := by
  refine h H (Ex.refl H) _ fun vs H1 e1 hv => ?_
  obtain ⟨_, _, rfl, ⟨a, xs, rfl, ha, hx⟩, _, _, rfl, ⟨b, ys, rfl, hb, hy⟩, rfl⟩ := hv
  refine ⟨a, b, xs, ys, rfl, ha, hb, RZ.for_zipL (by rw [hx.1, hy.1]; exact hlm) (fun i σ' H' => Ex H1 H' ∧ Pv i σ' H') ⟨Ex.refl H1, h0 H1 e1⟩ (fun i σ' H' q => ⟨ex_l q.1 ha, ex_l q.1 hb⟩) (fun i x y T σ' H' hi hj q nT => ?_) (fun σ' H' q => hd σ' H' (e1.trans q.1) (by rw [← hx.1]; exact q.2))⟩
  have hil : i < l.length := by
    rw [← hx.1]
    exact (List.getElem?_eq_some_iff.mp hi).1
  have him : i < m.length := by omega
  obtain ⟨x', h1, h2⟩ := hx.2 i _ (List.getElem?_eq_getElem hil)
  obtain ⟨y', h3, h4⟩ := hy.2 i _ (List.getElem?_eq_getElem him)
  have ex : x = x' := Option.some.inj (hi.symm.trans h1)
  have ey : y = y' := Option.some.inj (hj.symm.trans h3)
  subst ex ey
  have e2 : Ex H' (upd H' T (.tup [x, y])) := Ex.new nT
  refine ⟨T, [x, y], rfl, st_of upd_same, rfl, x, [y], rfl, y, [], rfl, rfl, ?_⟩
  exact hs H1 i _ _ x y σ' _ e1 (q.1.trans e2) (List.getElem?_eq_getElem hil) (List.getElem?_eq_getElem him) (R.mono (q.1.trans e2) h2) (S.mono (q.1.trans e2) h4) (hP i σ' _ _ e2 q.2)
theorem q_forZip {l : List α} {m : List β} {i1 i2 : Nat} (hlm : l.length = m.length) (h : EvC tA σ H fun vs H2 => ∃ x r, vs = x :: r ∧ (seqR K R).at_ H2 x l ∧ ∃ y s, r = y :: s ∧ (seqR K S).at_ H2 y m ∧ s = []) (Pv : Nat → L2.St → Hp → Prop) (h0 : ∀ H1, Ex H H1 → Pv 0 σ H1)
    (hs : ∀ B i a b v w σ' H', Ex H B → Ex B H' → l[i]? = some a → m[i]? = some b → R.at_ H' v a → S.at_ H' w b → Pv i σ' H' → tu { D with nx := fun σ3 H3 => Ex B H3 ∧ Pv (i + 1) σ3 H3, ct := fun σ3 H3 => Ex B H3 ∧ Pv (i + 1) σ3 H3, bk := tz D } ((σ'.set i1 (some v)).set i2 (some w)) H')
    (hP : ∀ i σ' H' H'', Ex H' H'' → Pv i σ' H' → Pv i σ' H'')
    (hd : ∀ σ' H', Ex H H' → Pv l.length σ' H' → tz D σ' H') : tSeq (tFor (iZip K tA) (gTup K 2 (gCons (gName i1) (gCons (gName i2) gNil))) tu) tz D σ H := s_forZip (D := { D with nx := tz D }) hlm h Pv h0 hs hP hd
/-- of two new lists, where the body may change what the def made -/
theorem s_forZipN {l : List α} {m : List β} {i1 i2 : Nat} (hlm : l.length = m.length) (ha : EvNL R ta σ H l) (hb : EvNL S tb σ H m) (Pv : Nat → L2.St → Hp → Prop) (h0 : ∀ H1, Ex H H1 → Pv 0 σ H1)
    (hs : ∀ B i a b v w σ' H', Ex H B → Kept H B H' → l[i]? = some a → m[i]? = some b → Stay R H B v a → Stay S H B w b → Pv i σ' H' → tu { D with nx := fun σ3 H3 => Kept H B H3 ∧ Pv (i + 1) σ3 H3, ct := fun σ3 H3 => Kept H B H3 ∧ Pv (i + 1) σ3 H3, bk := D.nx } ((σ'.set i1 (some v)).set i2 (some w)) H')
    (hP : ∀ i σ' H' H'', Ex H' H'' → Pv i σ' H' → Pv i σ' H'')
    (hd : ∀ σ' H', Pv l.length σ' H' → D.nx σ' H') : tFor (iZip K (tCons ta (tCons tb tNil))) (gTup K 2 (gCons (gName i1) (gCons (gName i2) gNil))) tu D σ H := by
  refine ha H (Ex.refl H) _ fun w1 H1 e1 hw1 => hb H1 e1 _ fun w2 B e2 hw2 => ?_
  have eB : Ex H B := e1.trans e2
  obtain ⟨p, xs, rfl, hp0, hp, hl, hx⟩ := hw1.on e2
  obtain ⟨r, ys, rfl, hr0, hr, hm, hy⟩ := hw2.from_ e1
  refine ⟨p, r, xs, ys, rfl, sq_of hp, sq_of hr, RZ.for_zipL (by rw [hl, hm]; exact hlm) (fun i σ' H' => Kept H B H' ∧ Pv i σ' H') ⟨Kept.self, h0 B eB⟩ (fun i σ' H' q => ⟨sq_of (q.1 p _ hp0 hp), sq_of (q.1 r _ hr0 hr)⟩) (fun i x y T σ' H' hi hj q nT => ?_) (fun σ' H' q => hd σ' H' (by rw [← hl]; exact q.2))⟩
  have hil : i < l.length := by
    rw [← hl]
    exact (List.getElem?_eq_some_iff.mp hi).1
  have him : i < m.length := by omega
  obtain ⟨x', h1, h2⟩ := hx i _ (List.getElem?_eq_getElem hil)
  obtain ⟨y', h3, h4⟩ := hy i _ (List.getElem?_eq_getElem him)
  have ex : x = x' := Option.some.inj (hi.symm.trans h1)
  have ey : y = y' := Option.some.inj (hj.symm.trans h3)
  subst ex ey
  have e3 : Ex H' (upd H' T (.tup [x, y])) := Ex.new nT
  refine ⟨T, [x, y], rfl, st_of upd_same, rfl, x, [y], rfl, y, [], rfl, rfl, ?_⟩
  exact hs B i _ _ x y σ' _ eB (q.1.ex e3) (List.getElem?_eq_getElem hil) (List.getElem?_eq_getElem him) h2 h4 (hP i σ' _ _ e3 q.2)
theorem q_forZipN {l : List α} {m : List β} {i1 i2 : Nat} (hlm : l.length = m.length) (ha : EvNL R ta σ H l) (hb : EvNL S tb σ H m) (Pv : Nat → L2.St → Hp → Prop) (h0 : ∀ H1, Ex H H1 → Pv 0 σ H1)
    (hs : ∀ B i a b v w σ' H', Ex H B → Kept H B H' → l[i]? = some a → m[i]? = some b → Stay R H B v a → Stay S H B w b → Pv i σ' H' → tu { D with nx := fun σ3 H3 => Kept H B H3 ∧ Pv (i + 1) σ3 H3, ct := fun σ3 H3 => Kept H B H3 ∧ Pv (i + 1) σ3 H3, bk := tz D } ((σ'.set i1 (some v)).set i2 (some w)) H')
    (hP : ∀ i σ' H' H'', Ex H' H'' → Pv i σ' H' → Pv i σ' H'')
    (hd : ∀ σ' H', Pv l.length σ' H' → tz D σ' H') : tSeq (tFor (iZip K (tCons ta (tCons tb tNil))) (gTup K 2 (gCons (gName i1) (gCons (gName i2) gNil))) tu) tz D σ H := s_forZipN (D := { D with nx := tz D }) hlm ha hb Pv h0 hs hP hd
/-- for i in range(n, -1, -1) -/
theorem s_forDown {j n : Nat} (h : EvA tA σ H [natV n, .int (-1), .int (-1)]) (hn : n ≤ 100000) (Pv : Nat → L2.St → Hp → Prop) (h0 : ∀ H1, Ex H H1 → Pv 0 σ H1)
    (hs : ∀ (i : Nat) σ' H', i ≤ n → Pv i σ' H' → tu { D with nx := Pv (i + 1), ct := Pv (i + 1), bk := D.nx } (σ'.set j (some (natV (n - i)))) H') (hd : ∀ σ' H', Pv (n + 1) σ' H' → D.nx σ' H') : tFor (iRng3 tA) (gName j) tu D σ H :=
  h H (Ex.refl H) _ fun H1 e => ⟨n, -1, -1, n + 1, rfl, by
    have := RgC.neg (i := (n : Int)) (j := -1) (by omega) (by omega) (by omega) (by omega)
    rw [show ((n : Int) - -1).toNat = n + 1 by omega] at this
    exact this, for_rangeC (lo := (n : Int)) (c := -1) (n := n + 1) Pv (h0 H1 e) (fun i σ' H' hi p => by
    have e0 : (n : Int) + (i : Nat) * (-1) = ((n - i : Nat) : Int) := by omega
    show tu { D with nx := Pv (i + 1), ct := Pv (i + 1), bk := D.nx } (σ'.set j (some (.int ((n : Int) + (i : Nat) * (-1))))) H'
    rw [e0]
    exact hs i σ' H' (by omega) p) hd⟩
theorem q_forDown {j n : Nat} (h : EvA tA σ H [natV n, .int (-1), .int (-1)]) (hn : n ≤ 100000) (Pv : Nat → L2.St → Hp → Prop) (h0 : ∀ H1, Ex H H1 → Pv 0 σ H1)
    (hs : ∀ (i : Nat) σ' H', i ≤ n → Pv i σ' H' → tu { D with nx := Pv (i + 1), ct := Pv (i + 1), bk := tz D } (σ'.set j (some (natV (n - i)))) H') (hd : ∀ σ' H', Pv (n + 1) σ' H' → tz D σ' H') : tSeq (tFor (iRng3 tA) (gName j) tu) tz D σ H := s_forDown (D := { D with nx := tz D }) h hn Pv h0 hs hd
/-- xs.extend(a new list) -/
theorem s_ext {l : Addr} {xs ys : List V} (hl : H l = some (.lst xs)) (ha : Ev ta σ H (.ref l)) (h : EvL te σ H ys) (hz : xs.length + ys.length ≤ 100000) (k : ∀ H1, Ex H H1 → D.nx σ (upd H1 l (.lst (xs ++ ys)))) :
    tDrop (tBM K "list" rExtend ta (tCons te tNil)) D σ H := ha H (Ex.refl H) _ fun H1 e1 =>
  ⟨Or.inl ⟨rfl, xs, sq_of (e1 l _ hl)⟩, h H1 e1 _ fun p H2 hp e2 h2 => ⟨l, p, xs, ys, rfl, rfl, e2 l _ (e1 l _ hl), h2, sz_of hz, k H2 (e1.trans e2)⟩⟩
/-- min, sum -/
def rMin2 : List V → Hp → VK → Prop := fun xs H Q => ∃ i j, xs = [.int i, .int j] ∧ Q (.int (if j < i then j else i)) H
theorem ev_min2 {a b : Nat} (ha : Ev ta σ H (natV a)) (hb : Ev tb σ H (natV b)) : Ev (tCB rMin2 (tCons ta (tCons tb tNil))) σ H (natV (min a b)) := fun H1 e Q q =>
  ha H1 e _ fun H2 e2 => hb H2 (e.trans e2) _ fun H3 e3 => ⟨a, b, rfl, by
    have e4 : (if (b : Int) < (a : Int) then (b : Int) else (a : Int)) = ((min a b : Nat) : Int) := by
      split <;> omega
    rw [e4]
    exact q H3 (e2.trans e3)⟩
theorem sum_cast : ∀ l : List Nat, (l.map (fun n : Nat => (n : Int))).sum = ((Na.total l : Nat) : Int)
  | [] => rfl
  | x :: l => by
    show (x : Int) + (l.map (fun n : Nat => (n : Int))).sum = ((x + Na.total l : Nat) : Int)
    rw [sum_cast l]
    omega
theorem ev_sum {p : Addr} {l : List Nat} (ha : Ev ta σ H (.ref p)) (h : SqL K H p (l.map natV)) : Ev (tCB (rSum K) (tCons ta tNil)) σ H (natV (Na.total l)) := fun H1 e Q q =>
  ha H1 e _ fun H2 e2 => ⟨p, l.map (fun n : Nat => (n : Int)), rfl, by
    rw [List.map_map]
    exact ex_l (e.trans e2) h, by
    rw [sum_cast]
    exact q H2 e2⟩
/-! ### lists of whole numbers, compared -/
def datN (l : List Nat) : List PyData := l.map fun n : Nat => .int (n : Int)
theorem dp_nats : ∀ l : List Nat, DpAll K H (l.map natV) (datN l)
  | [] => .nil
  | x :: l => .cons (.int _) (dp_nats l)
theorem dat_eqv : ∀ l m : List Nat, PyData.eqvAll (datN l) (datN m) = decide (l = m)
  | [], [] => rfl
  | [], _ :: _ => rfl
  | _ :: _, [] => rfl
  | x :: l, y :: m => by
    show (PyData.eqv (.int (x : Int)) (.int (y : Int)) && PyData.eqvAll (datN l) (datN m)) = _
    rw [dat_eqv l m]
    show (((x : Int) == (y : Int)) && decide (l = m)) = _
    rw [Bool.eq_iff_iff]
    simp
    exact fun _ => Int.ofNat_inj
theorem dat_lay : ∀ l : List Nat, PyData.canLayAll0 (datN l) = true
  | [] => rfl
  | x :: l => by
    show (PyData.canLay0 (.int (x : Int)) && PyData.canLayAll0 (datN l)) = true
    rw [dat_lay l]
    rfl
theorem dat_depth : ∀ l : List Nat, PyData.depthAll (datN l) = 0
  | [] => rfl
  | x :: l => by
    show max (PyData.depth (.int (x : Int))) (PyData.depthAll (datN l)) = 0
    rw [dat_depth l]
    rfl
theorem dat_shaped (l : List Nat) : SeqAt.shaped (.list (datN l)) = true := by
  show (PyData.canLayAll0 (datN l) && decide (PyData.depthAll (datN l) + 1 ≤ 64)) = true
  rw [dat_lay, dat_depth]
  rfl
theorem ev_neN {p : Addr} {l m : List Nat} (ha : Ev ta σ H (.ref p)) (hp : SqL K H p (l.map natV)) (hb : EvL tb σ H (m.map natV)) : Ev (tOp (rNeD K) ta tb) σ H (.bl (!decide (l = m))) := fun H1 e Q q =>
  ha H1 e _ fun H2 e2 => hb H2 (e.trans e2) _ fun b H3 hb0 e3 h3 => ⟨.list (datN l), .list (datN m), .lst (ex_l (e.trans (e2.trans e3)) hp) (dp_nats l), .lst (sq_of h3) (dp_nats m), dat_shaped l, dat_shaped m, by
    show Q (.bl (!PyData.eqvAll (datN l) (datN m))) H3
    rw [dat_eqv]
    exact q H3 (e2.trans e3)⟩
end
section
variable {X : Cx} {K : PySem.W.Frag}
theorem minS (hc : X.calm = true := by rfl) : CallR X (.builtin "min") rMin2 := call_min2 hc
theorem sumS (h : X.K = K := by rfl) (hc : X.calm = true := by rfl) : CallR X (.builtin "sum") (rSum K) := h ▸ cr_sum hc
theorem neS (hu : X.A.units + 64 < cLine) (h : X.K = K := by rfl) : OpR X (compareOp .NotEq) (rNeD K) := h ▸ op_neD hu
end
end Bf
namespace Bf
open PySem PySem.Spec PyProof.Rows L2
open Evl
/-- a dict of whole numbers -/
def dictR : Rep (List (Nat × Nat)) := ⟨fun H v l => ∃ d, v = .ref d ∧ H d = some (.dK (encD l)), fun e ⟨d, h1, h2⟩ => ⟨d, h1, e _ _ h2⟩⟩
section
variable {K : PySem.W.Frag} {σ : L2.St} {H H' : Hp} {ta tb te td ty tx tv : TE} {α β : Type} {R : Rep α} {D : Ends} {tu tz : TS} {l : List (Nat × Nat)} {d : Addr} {u c z : Nat} {a b : Nat}
theorem dict_ref {l : List (Nat × Nat)} {d : Addr} (h : H d = some (.dK (encD l))) : dictR.at_ H (.ref d) l := ⟨d, rfl, h⟩
theorem er_last {te : TE} {l : List α} {a : α} (h : EvR (seqR K R) te σ H l) (hj : l[l.length - 1]? = some a) : EvR R (tOp (rIxL K) te (tUn (rU fun i => .int (-i)) (tC (.int 1)))) σ H a := fun H1 e Q q =>
  h H1 e _ fun v H2 e2 ⟨p, xs, h1, h2, h3⟩ => by
    obtain ⟨x, hx, ha⟩ := h3.2 _ a hj
    have hl : l.length - 1 < l.length := (List.getElem?_eq_some_iff.mp hj).1
    have e0 : ixN xs.length (-1) = some (l.length - 1) := by
      unfold ixN
      rw [if_neg (by decide), if_pos (by rw [h3.1]; omega), h3.1]
      exact congrArg some (by omega)
    refine ⟨1, rfl, p, xs, -1, x, h1, rfl, h2, ?_, q x H2 e2 ha⟩
    unfold atI
    rw [e0]
    exact hx
theorem ev_dget2R (h1 : EvR dictR td σ H l) (h2 : Ev ty σ H (natV u)) (h3 : Ev tx σ H (natV z)) : Ev (tDGet2 td ty tx) σ H (natV ((look l u).getD z)) := fun H1 e Q q =>
  h1 H1 e _ fun v H2 e2 ⟨d, hv, hd⟩ => by
    subst hv
    exact ⟨d, rfl, .inl ⟨_, .inl hd⟩, h2 H2 (e.trans e2) _ fun H3 e3 => h3 H3 ((e.trans e2).trans e3) _ fun H4 e4 => by
      refine ⟨_, .inl ⟨_, (Sum.inl (u : Int) : Key), ex_rd (e3.trans e4) (.inl hd), rfl, rfl⟩, ?_⟩
      rw [valV_enc]
      have : ((look l u).map natV).getD (natV z) = natV ((look l u).getD z) := by cases look l u <;> rfl
      rw [this]
      exact q H4 ((e2.trans e3).trans e4)⟩
theorem ev_dgetR (h1 : EvR dictR td σ H l) (h2 : Ev ty σ H (natV u)) (hl : look l u = some c) : Ev (tDGet td ty) σ H (natV c) := fun H1 e Q q =>
  h1 H1 e _ fun v H2 e2 ⟨d, hv, hd⟩ => by
    subst hv
    exact h2 H2 (e.trans e2) _ fun H3 e3 => ⟨d, natV c, rfl, .inl ⟨_, (Sum.inl (u : Int) : Key), ex_rd e3 (.inl hd), rfl, by rw [valV_enc, hl]; rfl⟩, q H3 (e2.trans e3)⟩
theorem ev_dinR (h1 : EvR dictR td σ H l) (h2 : Ev ty σ H (natV u)) : Ev (tDIn ty td) σ H (.bl (look l u).isSome) := fun H1 e Q q =>
  h2 H1 e _ fun H2 e2 => h1 H2 (e.trans e2) _ fun v H3 e3 ⟨d, hv, hd⟩ => by
    subst hv
    refine ⟨d, _, rfl, .inl ⟨_, (Sum.inl (u : Int) : Key), .inl hd, rfl, rfl⟩, ?_⟩
    rw [valV_enc, Option.isSome_map]
    exact q H3 (e2.trans e3)
theorem ev_dnotinR (h1 : EvR dictR td σ H l) (h2 : Ev ty σ H (natV u)) : Ev (tDNotIn ty td) σ H (.bl (!(look l u).isSome)) := fun H1 e Q q =>
  h2 H1 e _ fun H2 e2 => h1 H2 (e.trans e2) _ fun v H3 e3 ⟨d, hv, hd⟩ => by
    subst hv
    refine ⟨d, _, rfl, .inl ⟨_, (Sum.inl (u : Int) : Key), .inl hd, rfl, rfl⟩, ?_⟩
    rw [valV_enc, Option.isSome_map]
    exact q H3 (e2.trans e3)
theorem er_var {v : V} {a : α} {i : Nat} (h : σ[i]? = some (some v)) (ha : R.at_ H v a) : EvR R (tVar i) σ H a := er_ev (ev_var h) ha
/-- {u: c} -/
theorem ed_disp1 {tk tv : TE} (hk : Ev tk σ H (natV u)) (hv : Ev tv σ H (natV c)) : EvD (tDisp [(tk, tv)]) σ H [(u, c)] := fun H1 e Q q p hp => by
  have e0 : Ex H1 (upd H1 p (.dK [])) := Ex.new hp
  refine hk _ (e.trans e0) _ fun H2 e2 => hv H2 ((e.trans e0).trans e2) _ fun H3 e3 => ?_
  have e5 : Ex (upd H1 p (.dK [])) H3 := e2.trans e3
  refine ⟨e5 _ _ upd_same, [(Sum.inl (u : Int), natV c)], rfl, (by show 1 ≤ 15; decide), ?_⟩
  exact q p _ (Ex.mut (e0.trans e5) hp) hp upd_same
theorem ed_new : EvD tDNewK σ H [] := fun H1 e Q q p hp => q p _ (Ex.new hp) hp upd_same
/-- a new dict as a thing that stays -/
theorem en_d {T : List (Nat × Nat)} (h : EvD te σ H T) : EvN dictR te σ H T := fun H1 e Q q => h H1 e _ fun d H2 e2 hd h2 => q _ H2 e2 fun H3 k => ⟨d, rfl, k d _ hd h2⟩
theorem RetD.to {T : List (Nat × Nat)} {Q : VK} (k : RetD T H Q) (e : Ex H H') {d : Addr} (hd : H d = none) (h : H' d = some (.dK (encD T))) : Q (.ref d) H' := k d H' e hd h
/-! ### a list of new dicts that grows -/
def Dicts (A : Hp) (p : Addr) (H : Hp) (xs : List V) (l : List (List (Nat × Nat))) : Prop := xs.length = l.length ∧ ∀ (i : Nat) (a : List (Nat × Nat)), l[i]? = some a → ∃ q, xs[i]? = some (.ref q) ∧ q ≠ p ∧ A q = none ∧ H q = some (.dK (encD a))
theorem Dicts.ex {A H H' : Hp} {p : Addr} {xs : List V} {l : List (List (Nat × Nat))} (h : Dicts A p H xs l) (e : Ex H H') : Dicts A p H' xs l :=
  ⟨h.1, fun i a hi => let ⟨q, h1, h2, h3, h4⟩ := h.2 i a hi; ⟨q, h1, h2, h3, e _ _ h4⟩⟩
theorem Dicts.upd {A H : Hp} {p : Addr} {xs : List V} {l : List (List (Nat × Nat))} {o : HO} (h : Dicts A p H xs l) : Dicts A p (L2.upd H p o) xs l :=
  ⟨h.1, fun i a hi => let ⟨q, h1, h2, h3, h4⟩ := h.2 i a hi; ⟨q, h1, h2, h3, by rw [upd_ne h2]; exact h4⟩⟩
theorem Dicts.nil {A H : Hp} {p : Addr} : Dicts A p H [] [] := ⟨rfl, fun i a h => by simp at h⟩
theorem Dicts.snoc {A H : Hp} {p q : Addr} {xs : List V} {l : List (List (Nat × Nat))} {a : List (Nat × Nat)} (h : Dicts A p H xs l) (hqp : q ≠ p) (hA : A q = none) (hq : H q = some (.dK (encD a))) : Dicts A p H (xs ++ [.ref q]) (l ++ [a]) := by
  refine ⟨by simp [h.1], fun i b hi => ?_⟩
  by_cases hl : i < l.length
  · rw [List.getElem?_append_left hl] at hi
    obtain ⟨r, h1, h2, h3, h4⟩ := h.2 i b hi
    exact ⟨r, by rw [List.getElem?_append_left (by rw [h.1]; exact hl)]; exact h1, h2, h3, h4⟩
  · rw [List.getElem?_append_right (by omega)] at hi
    have e0 : i - l.length = 0 := by
      have := (List.getElem?_eq_some_iff.mp hi).1
      simp at this
      omega
    rw [e0] at hi
    have eb : a = b := Option.some.inj hi
    subst eb
    refine ⟨q, ?_, hqp, hA, hq⟩
    rw [List.getElem?_append_right (by rw [h.1]; omega), h.1, e0]
    rfl
theorem Dicts.newL {A H : Hp} {p : Addr} {xs : List V} {l : List (List (Nat × Nat))} (h : Dicts A p H xs l) (hA : A p = none) (hp : H p = some (.lst xs)) : NewL dictR A H (.ref p) l :=
  ⟨p, xs, rfl, hA, hp, h.1, fun i a hi => let ⟨q, h1, _, h3, h4⟩ := h.2 i a hi; ⟨.ref q, h1, fun H2 k => ⟨q, rfl, k q _ h3 h4⟩⟩⟩
theorem Flats.newLst {A H : Hp} {p : Addr} {xs : List V} {l : List (List Nat)} (h : Flats A p H xs l) (hA : A p = none) (hp : H p = some (.lst xs)) : NewL (lstR natR) A H (.ref p) l :=
  ⟨p, xs, rfl, hA, hp, h.1, fun i a hi => let ⟨q, h1, _, h3, h4⟩ := h.2 i a hi; ⟨.ref q, h1, fun H2 k => ⟨q, _, rfl, k q _ h3 h4, nat_items a⟩⟩⟩
theorem NewL.seq {A B : Hp} {w : V} {l : List (List Nat)} (h : NewL (lstR natR) A B w l) : NewL (seqR K natR) A B w l := by
  obtain ⟨p, xs, h1, h2, h3, h4, h5⟩ := h
  exact ⟨p, xs, h1, h2, h3, h4, fun i a hi => let ⟨x, g1, g2⟩ := h5 i a hi; ⟨x, g1, fun H k => lst_seq (g2 H k)⟩⟩
theorem en_seq {te : TE} {l : List (List Nat)} (h : EvNL (lstR natR) te σ H l) : EvNL (seqR K natR) te σ H l := fun H1 e Q q => h H1 e _ fun v H2 e2 hv => q v H2 e2 hv.seq
/-- a + b of two lists of the program's own -/
theorem el_catV {x y : V} {l m : List Nat} (ha : Ev ta σ H x) (hx : (lstR natR).at_ H x l) (hb : Ev tb σ H y) (hy : (lstR natR).at_ H y m) (hz : l.length + m.length ≤ 100000) : EvL (tOp rCat ta tb) σ H ((l ++ m).map natV) := fun H1 e Q q => by
  obtain ⟨a, xs, rfl, h1, h2⟩ := hx
  obtain ⟨b, ys, rfl, h3, h4⟩ := hy
  have e1 := items_nat h2
  have e2 := items_nat h4
  subst e1 e2
  exact ha H1 e _ fun H2 e2 => hb H2 (e.trans e2) _ fun H3 e3 => ⟨a, b, _, _, rfl, rfl, ((e.trans e2).trans e3) _ _ h1, ((e.trans e2).trans e3) _ _ h3, sz_of (by rw [List.length_map, List.length_map]; exact hz), fun r hr => by
    rw [← List.map_append]
    exact q r _ (fresh_back (e2.trans e3) hr) ((e2.trans e3).trans (Ex.new hr)) upd_same⟩
/-! ### lists compared by == -/
theorem ev_eqN {p : Addr} {l m : List Nat} (ha : Ev ta σ H (.ref p)) (hp : SqL K H p (l.map natV)) (hb : EvR (seqR K natR) tb σ H m) : Ev (tOp (rEqD K) ta tb) σ H (.bl (decide (l = m))) := fun H1 e Q q =>
  ha H1 e _ fun H2 e2 => hb H2 (e.trans e2) _ fun v H3 e3 hv => by
    obtain ⟨b, rfl, h3⟩ := nats_at.mp hv
    refine ⟨.list (datN l), .list (datN m), .lst (ex_l (e.trans (e2.trans e3)) hp) (dp_nats l), .lst h3 (dp_nats m), dat_shaped l, dat_shaped m, ?_⟩
    show Q (.bl (PyData.eqvAll (datN l) (datN m))) H3
    rw [dat_eqv]
    exact q H3 (e2.trans e3)
end
section
variable {X : Cx} {K : PySem.W.Frag}
theorem eqS (hu : X.A.units + 64 < cLine) (h : X.K = K := by rfl) : OpR X (compareOp .Eq) (rEqD K) := h ▸ op_eqD hu
end
end Bf
namespace Bf
open PySem PySem.Spec PyProof.Rows L2
open Evl
/-! ### every r-th item from d on -/
theorem filt_len {α : Type} (xs : List α) (f : Nat → Nat) : ∀ c, (∀ k, k < c → f k < xs.length) → (((List.range c).map f).filterMap (xs[·]?)).length = c ∧ ∀ k, (((List.range c).map f).filterMap (xs[·]?))[k]? = if k < c then xs[f k]? else none
  | 0, _ => ⟨rfl, fun k => by simp⟩
  | c + 1, h => by
    obtain ⟨h1, h2⟩ := filt_len xs f c fun k hk => h k (by omega)
    have hc := h c (by omega)
    rw [List.range_succ, List.map_append, List.filterMap_append]
    have e : (([c].map f).filterMap (xs[·]?)) = [xs[f c]] := by
      simp [List.getElem?_eq_getElem hc]
    rw [e]
    refine ⟨by rw [List.length_append, h1]; rfl, fun k => ?_⟩
    by_cases hk : k < c
    · rw [List.getElem?_append_left (by rw [h1]; exact hk), h2, if_pos hk, if_pos (by omega)]
    · rw [List.getElem?_append_right (by rw [h1]; omega), h1]
      by_cases e2 : k = c
      · subst e2
        rw [Nat.sub_self, if_pos (by omega), List.getElem?_eq_getElem hc]
        rfl
      · rw [if_neg (by omega)]
        exact List.getElem?_eq_none_iff.mpr (by simp; omega)
def every {α : Type} (xs : List α) (d r : Nat) : List α :=
  (sliceRange (sliceBounds (some (d : Int)) none (some (r : Int)) xs.length).1 (sliceBounds (some (d : Int)) none (some (r : Int)) xs.length).2.1 (sliceBounds (some (d : Int)) none (some (r : Int)) xs.length).2.2).filterMap (xs[·]?)
theorem every_range {n d r : Nat} (hr : 0 < r) : sliceRange (sliceBounds (some (d : Int)) none (some (r : Int)) n).1 (sliceBounds (some (d : Int)) none (some (r : Int)) n).2.1 (sliceBounds (some (d : Int)) none (some (r : Int)) n).2.2 = (List.range (if d < n then (n - d + r - 1) / r else 0)).map fun k => d + r * k := by
  have e : sliceBounds (some (d : Int)) none (some (r : Int)) n = (((min d n : Nat) : Int), (n : Int), (r : Int)) := by
    simp only [sliceBounds, Option.getD_some]
    have h1 : ¬ ((d : Int) < 0) := by omega
    simp only [h1, if_false, show (r : Int) > 0 by omega, if_true]
    refine Prod.ext ?_ rfl
    show max 0 (min (d : Int) (n : Int)) = ((min d n : Nat) : Int)
    omega
  rw [e]
  unfold sliceRange
  simp only [show (r : Int) > 0 by omega, if_true]
  by_cases h : d < n
  · rw [if_pos h, if_pos (show ((min d n : Nat) : Int) < (n : Int) by omega)]
    have e2 : ((n : Int) - ((min d n : Nat) : Int) + (r : Int) - 1) / (r : Int) = (((n - d + r - 1) / r : Nat) : Int) := by
      rw [Int.natCast_ediv]
      congr 1
      omega
    rw [e2, Int.toNat_natCast]
    refine List.map_congr_left fun k _ => ?_
    rw [show min d n = d by omega]
    rw [← Int.natCast_mul, ← Int.natCast_add, Int.toNat_natCast]
  · rw [if_neg h, if_neg (show ¬((min d n : Nat) : Int) < (n : Int) by omega)]
    rfl
theorem every_at {α : Type} (xs : List α) (d r : Nat) (hr : 0 < r) (k : Nat) : (every xs d r)[k]? = xs[d + r * k]? := by
  unfold every
  rw [every_range hr]
  have hb : ∀ j, j < (if d < xs.length then (xs.length - d + r - 1) / r else 0) → d + r * j < xs.length := fun j hj => by
    split at hj
    · rename_i h
      have h1 : (j + 1) * r ≤ xs.length - d + r - 1 := (Nat.le_div_iff_mul_le hr).mp hj
      rw [Nat.add_mul, Nat.one_mul, Nat.mul_comm] at h1
      omega
    · exact absurd hj (Nat.not_lt_zero _)
  rw [(filt_len xs _ _ hb).2 k]
  by_cases h : k < (if d < xs.length then (xs.length - d + r - 1) / r else 0)
  · rw [if_pos h]
  · rw [if_neg h]
    refine (List.getElem?_eq_none_iff.mpr ?_).symm
    by_cases hd : d < xs.length
    · rw [if_pos hd] at h
      have h1 : ¬(k + 1) * r ≤ xs.length - d + r - 1 := fun z => h ((Nat.le_div_iff_mul_le hr).mpr z)
      rw [Nat.add_mul, Nat.one_mul, Nat.mul_comm] at h1
      omega
    · have := Nat.zero_le (r * k)
      omega
theorem every_len {α : Type} (xs : List α) (d r : Nat) (hr : 2 ≤ r) : (every xs d r).length ≤ (xs.length + 1) / 2 := by
  by_cases h : (every xs d r).length = 0
  · omega
  · have h1 : (every xs d r).length - 1 < (every xs d r).length := by omega
    have h2 := List.getElem?_eq_getElem h1
    rw [every_at xs d r (by omega)] at h2
    have h3 := (List.getElem?_eq_some_iff.mp h2).1
    have h4 : 2 * ((every xs d r).length - 1) ≤ r * ((every xs d r).length - 1) := Nat.mul_le_mul_right _ hr
    omega
theorem every_map {α β : Type} (f : α → β) (xs : List α) (d r : Nat) (hr : 0 < r) : every (xs.map f) d r = (every xs d r).map f := by
  apply List.ext_getElem?
  intro k
  rw [every_at _ _ _ hr, List.getElem?_map, List.getElem?_map, every_at _ _ _ hr]
theorem vals_filt {xs : List V} {its : List Value} (r : Vals xs its) : ∀ l : List Nat, Vals (l.filterMap (xs[·]?)) (l.filterMap (its[·]?))
  | [] => .nil
  | i :: l => by
    rw [List.filterMap_cons, List.filterMap_cons]
    have hl := r.length
    by_cases hi : i < xs.length
    · obtain ⟨u, h1, h2⟩ := r.get (List.getElem?_eq_getElem hi)
      rw [List.getElem?_eq_getElem hi, h1]
      exact .cons h2 (vals_filt r l)
    · rw [List.getElem?_eq_none_iff.mpr (by omega), List.getElem?_eq_none_iff.mpr (by omega)]
      exact vals_filt r l
/-! ### xs[d::r] -/
def rEvery (K : PySem.W.Frag) : V → Option Int → Option Int → Option Int → Hp → VK → Prop := fun x lo hi st H Q => ∃ a xs, ∃ d r : Nat, x = .ref a ∧ lo = some (d : Int) ∧ hi = none ∧ st = some (r : Int) ∧ 0 < r ∧ SqL K H a xs ∧ ∀ p, H p = none → Q (.ref p) (upd H p (.lst (every xs d r)))
def tSl3 (r : V → Option Int → Option Int → Option Int → Hp → VK → Prop) (te : TE) (tl th ts : TO) : TE := fun σ H Q => te σ H fun x H1 => tl σ H1 fun l H2 => th σ H2 fun u H3 => ts σ H3 fun o H4 => r x l u o H4 Q
section
variable {X : Cx} {K : PySem.W.Frag}
theorem pe_every {e : Expr} {es : Expr} {lo hi : Option Expr} {te : TE} {tl th ts : TO} {p3 pos : Pos} (he : PE X e te) (hl : PO X lo tl) (hu : PO X hi th) (hs : PO X (some es) ts) (hK : X.K = K := by rfl) : PE X (.Subscript e (.Slice lo hi (some es) p3) pos) (tSl3 (rEvery K) te tl th ts) := by
  subst hK
  constructor
  intro pins s σ H Q I h
  apply Subscript_
  apply thn (he.run pins s σ H _ I h)
  rintro v s1 ⟨x, H1, I1, rx, h1⟩
  apply wpAny_Slice
  apply thn (hl.run pins s1 σ H1 _ I1 h1)
  rintro vl s2 ⟨l, H2, I2, pl, h2⟩
  apply thn (hu.run pins s2 σ H2 _ I2 h2)
  rintro vu s3 ⟨u, H3, I3, pu, h3⟩
  apply thn (hs.run pins s3 σ H3 _ I3 h3)
  rintro vs s4 ⟨o, H4, I4, ps, a, xs, d, r, rfl, rfl, rfl, rfl, hr, hx, q⟩
  cases rx
  let cut : Obj := { cls := .type "slice", data := .fields #[vl, vu, vs] }
  have I5 := I4.kept (h' := s4.heap.push cut) (t' := s4.toks) fun b ob z => Heap.get?_push_of_some cut z
  obtain ⟨its, rv, ht, hz⟩ := I5.list hx
  have hlen := rv.length
  have few : its.toArray.size ≤ sizeLine := by
    rw [List.size_toArray, ← hlen]
    exact hz
  change wpAny (model X.prog X.w) X.A (subscriptTail e (.Slice lo hi (some es) p3) (.ref a) (.ref s4.heap.objs.size)) (EP X pins σ Q) X.xe { s4 with heap := s4.heap.push cut }
  apply tail_any (ops := [Value.ref a, Value.ref s4.heap.objs.size]) ht.isList.typeIs PySem.slot_list_getitem.lookup ?_ (by with_unfolding_all rfl)
  apply wpAny_getItem_list_slice ht.isList (Heap.IsSliceOf.new s4.heap vl vu vs) pl pu ps (by simp; omega) ?_ few
  have epick : slicePick its.toArray (some (d : Int)) none (some (r : Int)) = (every its d r).toArray := by
    unfold slicePick every
    rw [List.size_toArray]
    refine congrArg List.toArray (congrArg (fun f => List.filterMap f _) (funext fun i => ?_))
    simp
  have hva : Vals (every xs d r) (every its d r) := by
    unfold every
    rw [hlen]
    exact vals_filt rv _
  rw [epick]
  refine ⟨.ref _, _, I5.laid (t' := s4.toks) (o := .lst (every xs d r)) (fun b ob q => Heap.get?_push_of_some _ q) (Nat.le_refl _) ?_, rfl, q _ (I5.hok.fresh (Nat.le_refl _))⟩
  refine ⟨?_, _, 0, hva, Heap.get?_push_size _ rfl⟩
  have h1 : (every xs d r).length ≤ xs.length := by
    by_cases h : (every xs d r).length = 0
    · omega
    · have h2 := List.getElem?_eq_getElem (show (every xs d r).length - 1 < (every xs d r).length by omega)
      rw [every_at xs d r hr] at h2
      have h3 := (List.getElem?_eq_some_iff.mp h2).1
      have h4 : 1 * ((every xs d r).length - 1) ≤ r * ((every xs d r).length - 1) := Nat.mul_le_mul_right _ hr
      omega
  exact Nat.le_trans h1 hz
end
section
variable {K : PySem.W.Frag} {σ : L2.St} {H : Hp} {te td tr : TE}
theorem el_every {a : Addr} {xs : List V} {d r : Nat} (h : Ev te σ H (.ref a)) (h1 : Ev td σ H (natV d)) (h2 : Ev tr σ H (natV r)) (hs : SqL K H a xs) (hr : 0 < r) : EvL (tSl3 (rEvery K) te (tPart td) tNoPart (tPart tr)) σ H (every xs d r) := fun H1 e _ q =>
  h H1 e _ fun H2 e2 => eo_some h1 H2 (e.trans e2) _ fun H3 e3 => eo_none H3 ((e.trans e2).trans e3) _ fun H3' e3' => eo_some h2 H3' (((e.trans e2).trans e3).trans e3') _ fun H4 e4 =>
    ⟨a, xs, d, r, rfl, rfl, rfl, rfl, hr, ex_l ((((e.trans e2).trans e3).trans e3').trans e4) hs, fun p hp => q p _ (fresh_back (((e2.trans e3).trans e3').trans e4) hp) ((((e2.trans e3).trans e3').trans e4).trans (Ex.new hp)) upd_same⟩
end
end Bf
namespace Bf
open Na
/-! ### all of a rod's pushes, deck by deck -/
def conv1 (b w : Nat) (T : Nat → Nat) (c : Nat) : Nat := sumBy (fun j => if j * w ≤ c then T (c - j * w) else 0) (List.range (b + 1))
def roll (ds : List Deck) (T : Nat → Nat) (c : Nat) : Nat := sumBy (fun p => if worthOf ds p ≤ c then T (c - worthOf ds p) else 0) (pushes ds)
theorem worth_cons (d : Deck) (r : List Deck) (k : Nat) (p : Push) : worthOf (d :: r) (k :: p) = k * d.worth + worthOf r p := rfl
theorem if_sum {α : Type} {P : Prop} [Decidable P] (f : α → Nat) (l : List α) : (if P then sumBy f l else 0) = sumBy (fun x => if P then f x else 0) l := by
  split
  · rfl
  · exact (sumBy_zero fun _ _ => rfl).symm
theorem roll_cons (d : Deck) (r : List Deck) (T : Nat → Nat) : roll (d :: r) T = roll r (conv1 d.beads d.worth T) := by
  funext c
  have e : roll (d :: r) T c = sumBy (fun k => sumBy (fun p => if k * d.worth + worthOf r p ≤ c then T (c - (k * d.worth + worthOf r p)) else 0) (pushes r)) (List.range (d.beads + 1)) := by
    show sumBy _ ((List.range (d.beads + 1)).flatMap fun (k : Nat) => (pushes r).map fun (p : Push) => k :: p) = _
    rw [sumBy_flat]
    exact sumBy_congr fun k _ => sumBy_map _ _ _
  rw [e, sumBy_comm]
  unfold roll conv1
  refine sumBy_congr fun p _ => ?_
  rw [if_sum]
  refine sumBy_congr fun k _ => ?_
  by_cases h : k * d.worth + worthOf r p ≤ c
  · rw [if_pos h, if_pos (show worthOf r p ≤ c by omega), if_pos (show k * d.worth ≤ c - worthOf r p by omega), show c - (k * d.worth + worthOf r p) = c - worthOf r p - k * d.worth by omega]
  · rw [if_neg h]
    by_cases h1 : worthOf r p ≤ c
    · rw [if_pos h1, if_neg (by omega)]
    · rw [if_neg h1]
theorem roll_nil (T : Nat → Nat) : roll [] T = T := by
  funext c
  show (if 0 ≤ c then T (c - 0) else 0) + 0 = T c
  rw [if_pos (Nat.zero_le c)]
  rfl
/-! ### the ways of the rods to the right, with n units of the next rod -/
def valW (gs : List (List Nat)) (v i n : Nat) : Nat := v % prodR (gs.take i) + n * prodR (gs.take i)
def wayN (gs : List (List Nat)) (v i n : Nat) : Nat := cnt3F isZero (gs.take i) (valW gs v i n)
theorem pos_prod : ∀ (gs : List (List Nat)), AllPos gs → 0 < prodR gs
  | [], _ => Nat.one_pos
  | g :: gs, h => by
    rw [prodR_cons]
    exact Nat.mul_pos (h g (List.mem_cons_self ..)) (pos_prod gs fun y hy => h y (List.mem_cons_of_mem _ hy))
theorem lefts_div : ∀ (gs : List (List Nat)) (u : Nat), lefts gs u = u / prodR gs
  | [], u => (Nat.div_one u).symm
  | g :: gs, u => by
    rw [prodR_cons, ← Nat.div_div_eq_div_mul]
    exact lefts_div gs _
def dig (gs : List (List Nat)) (v i : Nat) (g : List Nat) : Nat := lefts (gs.take i) v % ix g 0
theorem valW_succ {gs : List (List Nat)} {i : Nat} {g : List Nat} (hi : gs[i]? = some g) (v n : Nat) : valW gs v (i + 1) n = v % prodR (gs.take i) + (dig gs v i g + n * ix g 0) * prodR (gs.take i) := by
  unfold valW dig
  rw [prodR_snoc hi, lefts_div, Nat.mod_mul, Nat.add_mul, Nat.mul_comm (v / _ % _), Nat.add_assoc, Nat.mul_assoc, Nat.mul_comm (ix g 0)]
theorem under {P a c w : Nat} (hP : 0 < P) (ha : a < P) : w * P ≤ a + c * P ↔ w ≤ c := by
  constructor
  · intro h
    have : w * P < (c + 1) * P := by
      rw [Nat.add_mul, Nat.one_mul]
      omega
    exact Nat.le_of_lt_succ (Nat.lt_of_mul_lt_mul_right this)
  · intro h
    have := Nat.mul_le_mul_right P h
    omega
theorem under_sub {P a c w : Nat} (h : w ≤ c) : a + c * P - w * P = a + (c - w) * P := by
  have := Nat.mul_le_mul_right P h
  rw [Nat.sub_mul]
  omega
theorem arr_at {gs : List (List Nat)} (h : AllPos gs) (v i c w : Nat) : cnt3F (isN w) (gs.take i) (v % prodR (gs.take i) + c * prodR (gs.take i)) = if w ≤ c then wayN gs v i (c - w) else 0 := by
  have hP := pos_prod _ (h.take i)
  rw [arr_eq _ _ _ (h.take i)]
  by_cases hw : w ≤ c
  · rw [if_pos hw, if_pos ((under hP (Nat.mod_lt _ hP)).mpr hw), under_sub hw]
    rfl
  · rw [if_neg hw, if_neg fun z => hw ((under hP (Nat.mod_lt _ hP)).mp z)]
theorem wayN_succ {gs : List (List Nat)} (h : AllPos gs) {i : Nat} {g : List Nat} (hi : gs[i]? = some g) (v n : Nat) : wayN gs v (i + 1) n = roll (D3 g) (wayN gs v i) (dig gs v i g + n * ix g 0) := by
  unfold wayN
  rw [cnt_left hi (h g (List.mem_of_getElem? hi)), valW_succ hi]
  exact sumBy_congr fun p _ => arr_at h v i _ _
theorem roll_three (g : List Nat) (T : Nat → Nat) : roll (D3 g) T = conv1 (ix g 5) (ix g 6) (conv1 (ix g 3) (ix g 4) (conv1 (ix g 1) (ix g 2) T)) := by
  show roll [mk (ix g 1, ix g 2), mk (ix g 3, ix g 4), mk (ix g 5, ix g 6)] T = _
  rw [roll_cons, roll_cons, roll_cons, roll_nil]
  rfl
/-! ### a deck more, list by list -/
def deckW (xs : List Nat) (b w : Nat) : List Nat := (List.range (xs.length + b * w)).map (conv1 b w fun n => xs.getD n 0)
theorem getD_map_range {f : Nat → Nat} {n c d : Nat} : ((List.range n).map f).getD c d = if c < n then f c else d := by
  rw [List.getD_eq_getElem?_getD, List.getElem?_map]
  by_cases h : c < n
  · rw [List.getElem?_range h, if_pos h]
    rfl
  · rw [if_neg h, List.getElem?_eq_none_iff.mpr (by rw [List.length_range]; omega)]
    rfl
theorem getD_out {xs : List Nat} {n d : Nat} (h : xs.length ≤ n) : xs.getD n d = d := by
  rw [List.getD_eq_getElem?_getD, List.getElem?_eq_none_iff.mpr h]
  rfl
theorem deckW_at (xs : List Nat) (b w c : Nat) : (deckW xs b w).getD c 0 = conv1 b w (fun n => xs.getD n 0) c := by
  unfold deckW
  rw [getD_map_range]
  split
  · rfl
  · rename_i h
    refine (sumBy_zero fun j hj => ?_).symm
    have hj := List.mem_range.mp hj
    have : j * w ≤ b * w := Nat.mul_le_mul_right w (by omega)
    split
    · exact getD_out (by omega)
    · rfl
theorem deckW_len (xs : List Nat) (b w : Nat) : (deckW xs b w).length = xs.length + b * w := by
  unfold deckW
  rw [List.length_map, List.length_range]
/-- as many numbers as the decks ask, of whatever kind -/
def rodStep (F : List Nat → Nat → Nat → List Nat) (g xs : List Nat) : List Nat := (decks g).foldl (fun xs d => F xs d.1 d.2) xs
def rowAt (F : List Nat → Nat → Nat → List Nat) (E : List Nat → Nat → Nat → List Nat) (gs : List (List Nat)) (u a0 : Nat) : Nat → List Nat
  | 0 => [a0]
  | i + 1 => E (rodStep F (gs.getD i []) (rowAt F E gs u a0 i)) (dig gs u i (gs.getD i [])) (ix (gs.getD i []) 0)
theorem rowAt_succ (F E : List Nat → Nat → Nat → List Nat) (u a0 : Nat) {gs : List (List Nat)} {i : Nat} {g : List Nat} (hi : gs[i]? = some g) : rowAt F E gs u a0 (i + 1) = E (rodStep F g (rowAt F E gs u a0 i)) (dig gs u i g) (ix g 0) := by
  have e : gs.getD i [] = g := by
    rw [List.getD_eq_getElem?_getD, hi]
    rfl
  rw [← e]
  rfl
/-- E takes every r-th item from d on -/
def Every (E : List Nat → Nat → Nat → List Nat) : Prop := ∀ xs d r, 0 < r → (∀ k, (E xs d r)[k]? = xs[d + r * k]?) ∧ (2 ≤ r → (E xs d r).length ≤ (xs.length + 1) / 2)
theorem Every.getD {E : List Nat → Nat → Nat → List Nat} (h : Every E) (xs : List Nat) {d r : Nat} (hr : 0 < r) (k z : Nat) : (E xs d r).getD k z = xs.getD (d + k * r) z := by
  rw [List.getD_eq_getElem?_getD, (h xs d r hr).1 k, List.getD_eq_getElem?_getD, Nat.mul_comm]
theorem stepW (g xs : List Nat) (c : Nat) : (rodStep deckW g xs).getD c 0 = roll (D3 g) (fun n => xs.getD n 0) c := by
  rw [roll_three]
  show (deckW (deckW (deckW xs (ix g 1) (ix g 2)) (ix g 3) (ix g 4)) (ix g 5) (ix g 6)).getD c 0 = _
  rw [deckW_at, show (fun n => (deckW (deckW xs (ix g 1) (ix g 2)) (ix g 3) (ix g 4)).getD n 0) = _ from funext fun n => deckW_at _ _ _ n, show (fun n => (deckW xs (ix g 1) (ix g 2)).getD n 0) = _ from funext fun n => deckW_at _ _ _ n]
theorem rowW {E : List Nat → Nat → Nat → List Nat} (hE : Every E) {gs : List (List Nat)} (h : AllPos gs) (u : Nat) : ∀ i, i ≤ gs.length → ∀ n, (rowAt deckW E gs u 1 i).getD n 0 = wayN gs u i n
  | 0, _, n => by
    show [1].getD n 0 = isZero (u % 1 + n * 1)
    rw [Nat.mod_one, Nat.zero_add, Nat.mul_one]
    cases n <;> rfl
  | i + 1, hi, n => by
    obtain ⟨g, e⟩ : ∃ g, gs[i]? = some g := ⟨gs[i], List.getElem?_eq_getElem (by omega)⟩
    rw [rowAt_succ _ _ _ _ e, hE.getD _ (h g (List.mem_of_getElem? e)), stepW, wayN_succ h e]
    rw [show (fun n => (rowAt deckW E gs u 1 i).getD n 0) = wayN gs u i from funext fun n => rowW hE h u i (by omega) n]
/-- how long the lists are -/
def Longer (F : List Nat → Nat → Nat → List Nat) : Prop := ∀ xs b w, (F xs b w).length = xs.length + b * w
theorem step_len {F : List Nat → Nat → Nat → List Nat} (hF : Longer F) (g xs : List Nat) (hw : worthT g ≤ 255) : ∀ j, (((decks g).take j).foldl (fun xs d => F xs d.1 d.2) xs).length ≤ xs.length + 255 := fun j => by
  have e : ∀ (l : List (Nat × Nat)) (xs : List Nat) (t : Nat), (l.foldl (fun xs d => F xs d.1 d.2) xs).length + t = xs.length + l.foldl (fun t d => t + d.1 * d.2) t := fun l => by
    induction l with
    | nil => intro xs t; rfl
    | cons d l ih =>
      intro xs t
      show (l.foldl (fun xs d => F xs d.1 d.2) (F xs d.1 d.2)).length + t = xs.length + l.foldl (fun t d => t + d.1 * d.2) (t + d.1 * d.2)
      have h1 := ih (F xs d.1 d.2) (t + d.1 * d.2)
      rw [hF] at h1
      omega
  have m : ∀ (l : List (Nat × Nat)) (t : Nat), t ≤ l.foldl (fun t d => t + d.1 * d.2) t := fun l => by
    induction l with
    | nil => intro t; exact Nat.le_refl _
    | cons d l ih => intro t; exact Nat.le_trans (Nat.le_add_right _ _) (ih _)
  have h1 := e ((decks g).take j) xs 0
  have h2 : ((decks g).take j).foldl (fun t d => t + d.1 * d.2) 0 ≤ worthT g := by
    unfold worthT
    conv => rhs; rw [← List.take_append_drop j (decks g), List.foldl_append]
    exact m _ _
  omega
theorem row_len {F E : List Nat → Nat → Nat → List Nat} (hF : Longer F) (hE : Every E) {gs : List (List Nat)} (u a0 : Nat) (h : ∀ g ∈ gs, numsSound g = true ∧ worthT g ≤ 255) : ∀ i, i ≤ gs.length → (rowAt F E gs u a0 i).length ≤ 258
  | 0, _ => by
    show 1 ≤ 258
    decide
  | i + 1, hi => by
    obtain ⟨g, e⟩ : ∃ g, gs[i]? = some g := ⟨gs[i], List.getElem?_eq_getElem (by omega)⟩
    obtain ⟨hs, hw⟩ := h g (List.mem_of_getElem? e)
    rw [rowAt_succ _ _ _ _ e]
    have h2 := (nums_facts hs).1
    have h3 := (hE (rodStep F g (rowAt F E gs u a0 i)) (dig gs u i g) (ix g 0) (by omega)).2 h2
    have h4 := row_len hF hE u a0 h i (by omega)
    have h5 := step_len hF g (rowAt F E gs u a0 i) hw 3
    have h6 : (rodStep F g (rowAt F E gs u a0 i)).length ≤ (rowAt F E gs u a0 i).length + 255 := h5
    omega
def rows (F E : List Nat → Nat → Nat → List Nat) (gs : List (List Nat)) (u a0 n : Nat) : List (List Nat) := (List.range (n + 1)).map (rowAt F E gs u a0)
theorem rows_succ (F E : List Nat → Nat → Nat → List Nat) (gs : List (List Nat)) (u a0 n : Nat) : rows F E gs u a0 (n + 1) = rows F E gs u a0 n ++ [rowAt F E gs u a0 (n + 1)] := by
  unfold rows
  rw [List.range_succ, List.map_append]
  rfl
theorem rows_at {F E : List Nat → Nat → Nat → List Nat} {gs : List (List Nat)} {u a0 n i : Nat} (h : i ≤ n) : (rows F E gs u a0 n)[i]? = some (rowAt F E gs u a0 i) := by
  unfold rows
  rw [List.getElem?_map, List.getElem?_range (by omega)]
  rfl
theorem rows_len (F E : List Nat → Nat → Nat → List Nat) (gs : List (List Nat)) (u a0 n : Nat) : (rows F E gs u a0 n).length = n + 1 := by
  unfold rows
  rw [List.length_map, List.length_range]
def numAt (xs : List Nat) (z : Int) (o : Nat) : Nat := if z < 0 then o else xs.getD z.toNat o
theorem numAt_nat (xs : List Nat) (n o : Nat) : numAt xs (n : Int) o = xs.getD n o := by
  unfold numAt
  rw [if_neg (by omega), Int.toNat_natCast]
theorem numAt_sub (xs : List Nat) (c w o : Nat) : numAt xs ((c : Int) - (w : Int)) o = if w ≤ c then xs.getD (c - w) o else o := by
  by_cases h : w ≤ c
  · rw [if_pos h, show (c : Int) - (w : Int) = ((c - w : Nat) : Int) by omega, numAt_nat]
  · unfold numAt
    rw [if_neg h, if_pos (by omega)]
theorem valW_all {gs : List (List Nat)} (h : AllPos gs) (u : Nat) : valW gs u gs.length (u / prodR gs) = u := by
  unfold valW
  rw [List.take_length, Nat.mul_comm]
  exact Nat.mod_add_div u _
theorem wayN_all {gs : List (List Nat)} (h : AllPos gs) (u : Nat) : wayN gs u gs.length (u / prodR gs) = cnt3F isZero gs u := by
  unfold wayN
  rw [valW_all h, List.take_length]
/-! ### the deck's beads without end, then those that are too many taken off -/
def sums (w : Nat) (T : Nat → Nat) (n c : Nat) : Nat := sumBy (fun j => if j * w ≤ c then T (c - j * w) else 0) (List.range n)
theorem sums_more (w : Nat) (T : Nat → Nat) (hw : 0 < w) (c : Nat) : ∀ n m, c < n → n ≤ m → sums w T m c = sums w T n c
  | n, m, hc, hm => by
    obtain ⟨k, rfl⟩ : ∃ k, m = n + k := ⟨m - n, by omega⟩
    unfold sums
    rw [List.range_add, sumBy_append]
    have : sumBy (fun j => if j * w ≤ c then T (c - j * w) else 0) ((List.range k).map fun x => n + x) = 0 := sumBy_zero fun j hj => by
      obtain ⟨x, _, rfl⟩ := List.mem_map.mp hj
      rw [if_neg]
      have : (n + x) * 1 ≤ (n + x) * w := Nat.mul_le_mul_left _ hw
      omega
    omega
theorem sums_split (w : Nat) (T : Nat → Nat) (b n c : Nat) : sums w T (b + 1 + n) c = conv1 b w T c + if (b + 1) * w ≤ c then sums w T n (c - (b + 1) * w) else 0 := by
  unfold sums conv1
  rw [List.range_add, sumBy_append, sumBy_map, if_sum]
  refine congrArg (sumBy (fun j => if j * w ≤ c then T (c - j * w) else 0) (List.range (b + 1)) + ·) (sumBy_congr fun j _ => ?_)
  rw [Nat.add_mul (b + 1) j w]
  by_cases h : (b + 1) * w + j * w ≤ c
  · rw [if_pos h, if_pos (show (b + 1) * w ≤ c by omega), if_pos (by omega), Nat.sub_sub]
  · rw [if_neg h]
    split
    · rw [if_neg (by omega)]
    · rfl
def endless (w : Nat) (T : Nat → Nat) (c : Nat) : Nat := sums w T (c + 1) c
theorem endless_low (w : Nat) (T : Nat → Nat) {c : Nat} (h : c < w) : endless w T c = T c := by
  unfold endless
  rw [← sums_more w T (by omega) c (c + 1) (0 + 1 + (c + 1)) (by omega) (by omega), sums_split, if_neg (by omega)]
  show (if 0 * w ≤ c then T (c - 0 * w) else 0) + 0 + 0 = T c
  rw [Nat.zero_mul, if_pos (Nat.zero_le _)]
  rfl
theorem endless_step (w : Nat) (T : Nat → Nat) (hw : 0 < w) (k : Nat) : endless w T (w + k) = T (w + k) + endless w T k := by
  unfold endless
  rw [← sums_more w T hw (w + k) (w + k + 1) (0 + 1 + (w + k + 1)) (by omega) (by omega), sums_split, if_pos (by omega), show w + k - (0 + 1) * w = k by omega, sums_more w T hw k (k + 1) (w + k + 1) (by omega) (by omega)]
  refine congrArg (· + _) ?_
  show (if 0 * w ≤ w + k then T (w + k - 0 * w) else 0) + 0 = T (w + k)
  rw [Nat.zero_mul, if_pos (Nat.zero_le _)]
  rfl
theorem endless_cut (w b : Nat) (T : Nat → Nat) (hw : 0 < w) (c : Nat) : endless w T c = conv1 b w T c + if (b + 1) * w ≤ c then endless w T (c - (b + 1) * w) else 0 := by
  unfold endless
  rw [← sums_more w T hw c (c + 1) (b + 1 + (c + 1)) (by omega) (by omega), sums_split]
  refine congrArg (conv1 b w T c + ·) ?_
  split
  · exact (sums_more w T hw _ _ _ (by omega) (by omega))
  · rfl
end Bf
namespace Bf
open Na
/-! ### the fewest beads, deck by deck -/
def convL (b w : Nat) (T : Nat → Option Nat) (c : Nat) : Option Nat := minBy (fun j => plusO j (if j * w ≤ c then T (c - j * w) else none)) (List.range (b + 1))
def rollL (ds : List Deck) (T : Nat → Option Nat) (c : Nat) : Option Nat := minBy (fun p => plusO (total p) (if worthOf ds p ≤ c then T (c - worthOf ds p) else none)) (pushes ds)
theorem minBy_flat {α β : Type} (f : β → Option Nat) (g : α → List β) : ∀ l : List α, minBy f (l.flatMap g) = minBy (fun x => minBy f (g x)) l
  | [] => rfl
  | x :: l => by
    rw [List.flatMap_cons, minBy_append, minBy_flat f g l]
    rfl
theorem rollL_cons (d : Deck) (r : List Deck) (T : Nat → Option Nat) : rollL (d :: r) T = rollL r (convL d.beads d.worth T) := by
  funext c
  have e : rollL (d :: r) T c = minBy (fun k => minBy (fun p => plusO (k + total p) (if k * d.worth + worthOf r p ≤ c then T (c - (k * d.worth + worthOf r p)) else none)) (pushes r)) (List.range (d.beads + 1)) := by
    show minBy _ ((List.range (d.beads + 1)).flatMap fun (k : Nat) => (pushes r).map fun (p : Push) => k :: p) = _
    rw [minBy_flat]
    exact minBy_congr fun k _ => minBy_map _ _ _
  rw [e, minBy_comm]
  unfold rollL convL
  refine minBy_congr fun p _ => ?_
  by_cases h1 : worthOf r p ≤ c
  · rw [if_pos h1, ← minBy_plus]
    refine minBy_congr fun k _ => ?_
    rw [plus_plus, Nat.add_comm k]
    refine congrArg (plusO _) ?_
    by_cases h : k * d.worth + worthOf r p ≤ c
    · rw [if_pos h, if_pos (show k * d.worth ≤ c - worthOf r p by omega), show c - (k * d.worth + worthOf r p) = c - worthOf r p - k * d.worth by omega]
    · rw [if_neg h, if_neg (by omega)]
  · rw [if_neg h1]
    refine minBy_none fun k _ => ?_
    rw [if_neg (by omega)]
    rfl
theorem rollL_nil (T : Nat → Option Nat) : rollL [] T = T := by
  funext c
  show mn (plusO 0 (if 0 ≤ c then T (c - 0) else none)) none = T c
  rw [mn_none, if_pos (Nat.zero_le c), Nat.sub_zero]
  cases T c with
  | none => rfl
  | some x => exact congrArg some (Nat.zero_add x)
def fewN (gs : List (List Nat)) (v i n : Nat) : Option Nat := least3 zeroL (gs.take i) (valW gs v i n)
theorem arrL_at {gs : List (List Nat)} (h : AllPos gs) (v i c w : Nat) : least3 (isL w) (gs.take i) (v % prodR (gs.take i) + c * prodR (gs.take i)) = if w ≤ c then fewN gs v i (c - w) else none := by
  have hP := pos_prod _ (h.take i)
  rw [arrL_eq _ _ _ (h.take i)]
  by_cases hw : w ≤ c
  · rw [if_pos hw, if_pos ((under hP (Nat.mod_lt _ hP)).mpr hw), under_sub hw]
    rfl
  · rw [if_neg hw, if_neg fun z => hw ((under hP (Nat.mod_lt _ hP)).mp z)]
theorem fewN_succ {gs : List (List Nat)} (h : AllPos gs) {i : Nat} {g : List Nat} (hi : gs[i]? = some g) (v n : Nat) : fewN gs v (i + 1) n = rollL (D3 g) (fewN gs v i) (dig gs v i g + n * ix g 0) := by
  unfold fewN
  rw [least_left hi (h g (List.mem_of_getElem? hi)), valW_succ hi]
  exact minBy_congr fun p _ => congrArg (plusO _) (arrL_at h v i _ _)
theorem rollL_three (g : List Nat) (T : Nat → Option Nat) : rollL (D3 g) T = convL (ix g 5) (ix g 6) (convL (ix g 3) (ix g 4) (convL (ix g 1) (ix g 2) T)) := by
  show rollL [mk (ix g 1, ix g 2), mk (ix g 3, ix g 4), mk (ix g 5, ix g 6)] T = _
  rw [rollL_cons, rollL_cons, rollL_cons, rollL_nil]
  rfl
theorem fewN_all {gs : List (List Nat)} (h : AllPos gs) (u : Nat) : fewN gs u gs.length (u / prodR gs) = least3 zeroL gs u := by
  unfold fewN
  rw [valW_all h, List.take_length]
/-! ### bead by bead -/
def beadO (w : Nat) (T : Nat → Option Nat) (c : Nat) : Option Nat := if w ≤ c then mn (T c) (plusO 1 (T (c - w))) else T c
theorem mn_self (a : Option Nat) : mn a a = a := by
  cases a with
  | none => rfl
  | some x => exact congrArg some (Nat.min_self x)
theorem mn_absorb (a t : Option Nat) : mn a (mn a t) = mn a t := by
  rw [← mn_assoc, mn_self]
theorem convL_zero (w : Nat) (T : Nat → Option Nat) (c : Nat) : convL 0 w T c = T c := by
  show mn (plusO 0 (if 0 * w ≤ c then T (c - 0 * w) else none)) none = T c
  rw [mn_none, Nat.zero_mul, if_pos (Nat.zero_le c), Nat.sub_zero]
  cases T c with
  | none => rfl
  | some x => exact congrArg some (Nat.zero_add x)
theorem convL_first (b w : Nat) (T : Nat → Option Nat) (c : Nat) : convL (b + 1) w T c = mn (T c) (plusO 1 (if w ≤ c then convL b w T (c - w) else none)) := by
  have e : convL (b + 1) w T c = mn (plusO 0 (if 0 * w ≤ c then T (c - 0 * w) else none)) (minBy (fun j => plusO (j + 1) (if (j + 1) * w ≤ c then T (c - (j + 1) * w) else none)) (List.range (b + 1))) := by
    unfold convL
    rw [List.range_succ_eq_map (n := b + 1)]
    exact congrArg (mn _) (minBy_map _ _ _)
  rw [e, Nat.zero_mul, if_pos (Nat.zero_le c), Nat.sub_zero]
  have e0 : plusO 0 (T c) = T c := by
    cases T c with
    | none => rfl
    | some x => exact congrArg some (Nat.zero_add x)
  rw [e0]
  refine congrArg (mn (T c)) ?_
  by_cases h : w ≤ c
  · rw [if_pos h]
    unfold convL
    rw [← minBy_plus]
    refine minBy_congr fun j _ => ?_
    rw [plus_plus, Nat.add_comm 1 j, Nat.add_mul, Nat.one_mul]
    refine congrArg (plusO _) ?_
    by_cases h2 : j * w + w ≤ c
    · rw [if_pos h2, if_pos (show j * w ≤ c - w by omega), show c - (j * w + w) = c - w - j * w by omega]
    · rw [if_neg h2, if_neg (by omega)]
  · rw [if_neg h]
    refine minBy_none fun j _ => ?_
    rw [if_neg]
    · rfl
    · rw [Nat.add_mul, Nat.one_mul]
      omega
theorem convL_last (b w : Nat) (T : Nat → Option Nat) (c : Nat) : ∃ t, convL (b + 1) w T c = mn (convL b w T c) t := by
  unfold convL
  rw [List.range_succ (n := b + 1), minBy_append]
  exact ⟨_, rfl⟩
theorem convL_bead (w : Nat) (T : Nat → Option Nat) : ∀ (b c : Nat), convL (b + 1) w T c = beadO w (convL b w T) c
  | 0, c => by
    rw [convL_first]
    unfold beadO
    rw [convL_zero, convL_zero]
    by_cases h : w ≤ c
    · rw [if_pos h, if_pos h]
    · rw [if_neg h, if_neg h]
      exact mn_none _
  | b + 1, c => by
    unfold beadO
    by_cases h : w ≤ c
    · rw [if_pos h, convL_first (b + 1), if_pos h, convL_first b w T c, if_pos h, mn_assoc, ← plus_mn]
      obtain ⟨t, ht⟩ := convL_last b w T (c - w)
      rw [ht, mn_absorb]
    · rw [if_neg h, convL_first (b + 1), convL_first b w T c, if_neg h, if_neg h]
/-! ### numbers for it: one bead more than any make has stands for none -/
def enc (o : Option Nat) : Nat := min 2881 (o.getD 2881)
def bead (w : Nat) (T : Nat → Nat) (c : Nat) : Nat := if w ≤ c then min (T c) (T (c - w) + 1) else T c
def beads (w : Nat) (T : Nat → Nat) : Nat → Nat → Nat
  | 0 => T
  | k + 1 => bead w (beads w T k)
theorem enc_mn (a b : Option Nat) : enc (mn a (plusO 1 b)) = min (enc a) (enc b + 1) := by
  unfold enc
  cases a <;> cases b
  · show min 2881 2881 = min (min 2881 2881) (min 2881 2881 + 1)
    omega
  · rename_i y
    show min 2881 (1 + y) = min (min 2881 2881) (min 2881 y + 1)
    omega
  · rename_i x
    show min 2881 x = min (min 2881 x) (min 2881 2881 + 1)
    omega
  · rename_i x y
    show min 2881 (min x (1 + y)) = min (min 2881 x) (min 2881 y + 1)
    omega
theorem enc_bead (w : Nat) (T : Nat → Option Nat) (c : Nat) : bead w (fun n => enc (T n)) c = enc (beadO w T c) := by
  unfold bead beadO
  split
  · exact (enc_mn _ _).symm
  · rfl
theorem enc_beads (w : Nat) (T : Nat → Option Nat) : ∀ b, beads w (fun n => enc (T n)) b = fun c => enc (convL b w T c)
  | 0 => funext fun c => by
    rw [convL_zero]
    rfl
  | b + 1 => funext fun c => by
    show bead w (beads w (fun n => enc (T n)) b) c = _
    rw [enc_beads w T b, enc_bead, ← convL_bead]
def deckF (xs : List Nat) (b w : Nat) : List Nat := (List.range (xs.length + b * w)).map (beads w (fun n => xs.getD n 2881) b)
theorem beads_out (w : Nat) (xs : List Nat) : ∀ (k c : Nat), xs.length + k * w ≤ c → beads w (fun n => xs.getD n 2881) k c = 2881
  | 0, c, h => getD_out (by omega)
  | k + 1, c, h => by
    rw [Nat.add_mul, Nat.one_mul] at h
    show bead w (beads w (fun n => xs.getD n 2881) k) c = 2881
    unfold bead
    rw [if_pos (by omega), beads_out w xs k c (by omega), beads_out w xs k (c - w) (by omega)]
    rfl
theorem deckF_at (xs : List Nat) (b w c : Nat) : (deckF xs b w).getD c 2881 = beads w (fun n => xs.getD n 2881) b c := by
  unfold deckF
  rw [getD_map_range]
  split
  · rfl
  · exact (beads_out w xs b c (by omega)).symm
theorem deckF_len : Longer deckF := fun xs b w => by
  unfold deckF
  rw [List.length_map, List.length_range]
theorem stepF (g xs : List Nat) (T : Nat → Option Nat) (hT : ∀ n, xs.getD n 2881 = enc (T n)) (c : Nat) : (rodStep deckF g xs).getD c 2881 = enc (rollL (D3 g) T c) := by
  rw [rollL_three]
  show (deckF (deckF (deckF xs (ix g 1) (ix g 2)) (ix g 3) (ix g 4)) (ix g 5) (ix g 6)).getD c 2881 = _
  have e1 : (fun n => (deckF xs (ix g 1) (ix g 2)).getD n 2881) = fun n => enc (convL (ix g 1) (ix g 2) T n) := funext fun n => by
    rw [deckF_at, show (fun n => xs.getD n 2881) = fun n => enc (T n) from funext hT, enc_beads]
  have e2 : (fun n => (deckF (deckF xs (ix g 1) (ix g 2)) (ix g 3) (ix g 4)).getD n 2881) = fun n => enc (convL (ix g 3) (ix g 4) (convL (ix g 1) (ix g 2) T) n) := funext fun n => by
    rw [deckF_at, e1, enc_beads]
  rw [deckF_at, e2, enc_beads]
theorem rowF {E : List Nat → Nat → Nat → List Nat} (hE : Every E) {gs : List (List Nat)} (h : AllPos gs) (u : Nat) : ∀ i, i ≤ gs.length → ∀ n, (rowAt deckF E gs u 0 i).getD n 2881 = enc (fewN gs u i n)
  | 0, _, n => by
    show [0].getD n 2881 = enc (zeroL (u % 1 + n * 1))
    rw [Nat.mod_one, Nat.zero_add, Nat.mul_one]
    cases n <;> rfl
  | i + 1, hi, n => by
    obtain ⟨g, e⟩ : ∃ g, gs[i]? = some g := ⟨gs[i], List.getElem?_eq_getElem (by omega)⟩
    rw [rowAt_succ _ _ _ _ e, hE.getD _ (h g (List.mem_of_getElem? e)), stepF g _ (fewN gs u i) (fun n => rowF hE h u i (by omega) n), fewN_succ h e]
/-! ### no make has so many beads -/
theorem total_le {g : List Nat} (hg : numsSound g = true) {p : Push} (hp : p ∈ pushes (D3 g)) : total p ≤ 45 := by
  obtain ⟨a, b, c, ha, hb, hc, rfl⟩ := mem_p3.mp hp
  have hs := (nums_facts hg).2.2.1
  have h1 := (sound_le (hs (ix g 1, ix g 2) (by unfold decks; simp))).1
  have h2 := (sound_le (hs (ix g 3, ix g 4) (by unfold decks; simp))).1
  have h3 := (sound_le (hs (ix g 5, ix g 6) (by unfold decks; simp))).1
  rw [total_three]
  have h1 : ix g 1 ≤ 15 := h1
  have h2 : ix g 3 ≤ 15 := h2
  have h3 : ix g 5 ≤ 15 := h3
  omega
theorem least_le : ∀ (gs : List (List Nat)) (v b : Nat), AllGood gs → least3 zeroL gs v = some b → b ≤ 45 * gs.length
  | [], v, b, _, h => by
    have h' : (if v = 0 then some 0 else none) = some b := h
    split at h'
    · rw [← Option.some.inj h']
      exact Nat.zero_le _
    · cases h'
  | g :: gs, v, b, hg, h => by
    have h' : minBy (fun p => plusO (total p) (aboveL (rodOf g) (least3 zeroL gs) v (worthOf (D3 g) p))) (pushes (D3 g)) = some b := h
    obtain ⟨p, hp, hpb⟩ := minBy_mem h'
    have ht := total_le (hg g (List.mem_cons_self ..)) hp
    rw [aboveL_if] at hpb
    split at hpb
    · cases e : least3 zeroL gs ((v - worthOf (D3 g) p) / (rodOf g).ratio) with
      | none =>
        rw [e] at hpb
        cases hpb
      | some d =>
        rw [e] at hpb
        have e1 : total p + d = b := Option.some.inj hpb
        have := least_le gs _ d (fun x hx => hg x (List.mem_cons_of_mem _ hx)) e
        rw [List.length_cons]
        omega
    · cases hpb
theorem few_le {gs : List (List Nat)} (hg : AllGood gs) (hl : gs.length ≤ 64) {v i n b : Nat} (h : fewN gs v i n = some b) : b ≤ 2880 := by
  have h1 := least_le _ _ _ (hg.take i) h
  have h2 : (gs.take i).length ≤ 64 := by
    rw [List.length_take]
    omega
  omega
theorem enc_some {b : Nat} (h : b ≤ 2880) : enc (some b) = b := by
  show min 2881 b = b
  omega
theorem enc_none : enc none = 2881 := rfl
end Bf
namespace Bf
open PySem PySem.Spec PyProof.Rows L2
open Evl
/-! ### a def that is handed in as a value, and called by the name that it got -/
theorem Def.held {P : Program} {w : World} {K : PySem.W.Frag} {mg : Str → Option Value} {base : Heap} {name : Str} {k : Nat} {ps : List Str} {sp : Sp} (D : Def P w K mg base name k ps sp) : ∃ f, mg name = some (.ref f) ∧ L2.Held P w K mg base k f sp := by
  obtain ⟨f, fd, h1, h2, h3, h4⟩ := D.ex
  exact ⟨f, h1, fd, ps, h4, h2, h3⟩
section
variable {K : PySem.W.Frag} {σ : L2.St} {H H' : Hp} {ta tb te tl tx : TE} {tA : TA} {x y z v : V} {α β : Type} {R : Rep α} {D : Ends} {tu tz : TS}
theorem er_L {i : Nat} {f : Addr} {sp : Sp} {E : XK} {a : α} (h : EvR R (tCall sp [] E tA) σ H a) (hi : σ[i]? = some (some (.ref f))) : EvR R (tCallL i f sp [] E tA) σ H a := fun H1 e Q q => ⟨hi, h H1 e Q q⟩
/-! ### [x] * n; a list of the program's own + a new one -/
theorem el_rep1 {n : Nat} (ha : EvL ta σ H [x]) (hb : ∀ H1, Ex H H1 → Ev tb σ H1 (natV n)) (hn : n ≤ 100000) : EvL (tOp rRep ta tb) σ H (List.replicate n x) := fun H1 e Q q =>
  ha H1 e _ fun p H2 hp e2 h2 => hb H2 (e.trans e2) H2 (Ex.refl _) _ fun H3 e3 => ⟨p, n, [x], rfl, rfl, e3 _ _ h2, by omega, by omega, sz_of (by simp; omega), fun r hr => by
    rw [Int.toNat_natCast, List.flatten_replicate_singleton]
    exact q r _ (fresh_back (e2.trans e3) hr) ((e2.trans e3).trans (Ex.new hr)) upd_same⟩
theorem el_catR {a : Addr} {xs zs : List V} (ha : Ev ta σ H (.ref a)) (h : H a = some (.lst xs)) (hb : EvL tb σ H zs) (hz : xs.length + zs.length ≤ 100000) : EvL (tOp rCat ta tb) σ H (xs ++ zs) := fun H1 e Q q =>
  ha H1 e _ fun H2 e2 => hb H2 (e.trans e2) _ fun b H3 hb e3 h3 => ⟨a, b, xs, zs, rfl, rfl, ((e.trans e2).trans e3) _ _ h, h3, sz_of hz, fun r hr => q r _ (fresh_back (e2.trans e3) hr) ((e2.trans e3).trans (Ex.new hr)) upd_same⟩
/-! ### a list of whole numbers that is read and written -/
theorem ev_at {p : Addr} {ys : List Nat} {j o : Nat} (hp : H p = some (.lst (ys.map natV))) (hj : j < ys.length) (h1 : Ev ta σ H (.ref p)) (h2 : Ev tb σ H (natV j)) : Ev (tOp (rIxL K) ta tb) σ H (natV (ys.getD j o)) := by
  refine ev_op h1 h2 (rv_ixL (sq_of hp) (atI_nat (j := j) ?_))
  rw [List.getElem?_map, List.getD_eq_getElem?_getD, List.getElem?_eq_getElem hj]
  rfl
theorem s_setN {l : Addr} {ys : List Nat} {j n : Nat} (hl : H l = some (.lst (ys.map natV))) (h : Ev te σ H (natV n)) (ho : Ev ta σ H (.ref l)) (hi : Ev tb σ H (natV j)) (hj : j < ys.length) (k : ∀ H1, Ex H H1 → D.nx σ (upd H1 l (.lst ((ys.set j n).map natV)))) :
    tAsg te (gSub ta tb rSetL) D σ H := s_setL hl h ho hi (by rw [List.length_map]; exact hj) fun H1 e1 => by
  rw [← List.map_set]
  exact k H1 e1
theorem getD_set {ys : List Nat} {j n c d : Nat} (hj : j < ys.length) : (ys.set j n).getD c d = if c = j then n else ys.getD c d := by
  rw [List.getD_eq_getElem?_getD, List.getElem?_set, List.getD_eq_getElem?_getD]
  by_cases h : j = c
  · rw [if_pos h, if_pos hj, if_pos h.symm]
    rfl
  · rw [if_neg h, if_neg fun z => h z.symm]
/-- for i in range(hi, lo, -1) -/
theorem s_forDn {j : Nat} {hi lo : Int} (h : EvA tA σ H [.int hi, .int lo, .int (-1)]) (hb : -100000 ≤ hi ∧ hi ≤ 100000 ∧ -100000 ≤ lo ∧ lo ≤ 100000) (Pv : Nat → L2.St → Hp → Prop) (h0 : ∀ H1, Ex H H1 → Pv 0 σ H1)
    (hs : ∀ (i : Nat) σ' H', lo < hi - (i : Int) → Pv i σ' H' → tu { D with nx := Pv (i + 1), ct := Pv (i + 1), bk := D.nx } (σ'.set j (some (.int (hi - (i : Int))))) H') (hd : ∀ σ' H', Pv (hi - lo).toNat σ' H' → D.nx σ' H') : tFor (iRng3 tA) (gName j) tu D σ H :=
  h H (Ex.refl H) _ fun H1 e => ⟨hi, lo, -1, (hi - lo).toNat, rfl, RgC.neg (i := hi) (j := lo) (by omega) (by omega) (by omega) (by omega), for_rangeC (lo := hi) (c := -1) (n := (hi - lo).toNat) Pv (h0 H1 e) (fun i σ' H' hi' p => by
    have e0 : hi + (i : Nat) * (-1) = hi - (i : Int) := by omega
    show tu { D with nx := Pv (i + 1), ct := Pv (i + 1), bk := D.nx } (σ'.set j (some (.int (hi + (i : Nat) * (-1))))) H'
    rw [e0]
    exact hs i σ' H' (by omega) p) hd⟩
theorem q_forDn {j : Nat} {hi lo : Int} (h : EvA tA σ H [.int hi, .int lo, .int (-1)]) (hb : -100000 ≤ hi ∧ hi ≤ 100000 ∧ -100000 ≤ lo ∧ lo ≤ 100000) (Pv : Nat → L2.St → Hp → Prop) (h0 : ∀ H1, Ex H H1 → Pv 0 σ H1)
    (hs : ∀ (i : Nat) σ' H', lo < hi - (i : Int) → Pv i σ' H' → tu { D with nx := Pv (i + 1), ct := Pv (i + 1), bk := tz D } (σ'.set j (some (.int (hi - (i : Int))))) H') (hd : ∀ σ' H', Pv (hi - lo).toNat σ' H' → tz D σ' H') : tSeq (tFor (iRng3 tA) (gName j) tu) tz D σ H := s_forDn (D := { D with nx := tz D }) h hb Pv h0 hs hd
/-! ### a list of new flat lists, from its first one on -/
/-- the list at p has so far got these; all that was stands -/
def Grown (H : Hp) (p : Addr) (l : List (List Nat)) (H3 : Hp) : Prop := Ex H H3 ∧ ∃ xs, H3 p = some (.lst xs) ∧ Flats H p H3 xs l
theorem Grown.ex {H H3 H4 : Hp} {p : Addr} {l : List (List Nat)} (g : Grown H p l H3) (e : Ex H3 H4) : Grown H p l H4 := by
  obtain ⟨g1, xs, g3, g4⟩ := g
  exact ⟨g1.trans e, xs, e _ _ g3, g4.ex e⟩
theorem Grown.seq {H H3 : Hp} {p : Addr} {l : List (List Nat)} (g : Grown H p l H3) : (seqR K (lstR natR)).at_ H3 (.ref p) l := by
  obtain ⟨_, xs, g3, g4⟩ := g
  exact ⟨p, xs, rfl, sq_of g3, g4.1, fun i a hi => let ⟨q, h1, _, _, h4⟩ := g4.2 i a hi; ⟨.ref q, h1, q, _, rfl, h4, nat_items a⟩⟩
theorem q_asgNest {i n : Nat} (hx : Ev tx σ H (natV n)) (k : ∀ p H1, H p = none → Grown H p [[n]] H1 → tz D (σ.set i (some (.ref p))) H1) : tSeq (tAsg (tLst (tCons (tLst (tCons tx tNil)) tNil)) (gName i)) tz D σ H := by
  refine hx H (Ex.refl H) _ fun H1 e1 => ?_
  refine ⟨sz_of (by show 1 ≤ 100000; decide), fun q hq => ?_⟩
  have e2 : Ex H1 (upd H1 q (.lst [natV n])) := Ex.new hq
  refine ⟨sz_of (by show 1 ≤ 100000; decide), fun p hp => ?_⟩
  have hqp : q ≠ p := fun z => by
    rw [← z, upd_same] at hp
    cases hp
  refine k p _ (fresh_back (e1.trans e2) hp) ⟨(e1.trans e2).trans (Ex.new hp), [.ref q], upd_same, rfl, fun j a hj => ?_⟩
  match j, hj with
  | 0, hj =>
    obtain rfl := Option.some.inj hj
    refine ⟨q, rfl, hqp, fresh_back e1 hq, ?_⟩
    rw [upd_ne hqp, upd_same]
    rfl
theorem every_is : Every every := fun xs d r hr => ⟨every_at xs d r hr, every_len xs d r⟩
theorem deckW_is : Longer deckW := deckW_len
theorem deckW_zero (xs : List Nat) (w : Nat) : deckW xs 0 w = xs := by
  apply List.ext_getElem?
  intro k
  by_cases h : k < xs.length
  · unfold deckW
    rw [List.getElem?_map, List.getElem?_range (by omega), List.getElem?_eq_getElem h]
    show some ((if 0 * w ≤ k then xs.getD (k - 0 * w) 0 else 0) + 0) = _
    rw [Nat.zero_mul, if_pos (Nat.zero_le _), Nat.sub_zero, Nat.add_zero, List.getD_eq_getElem?_getD, List.getElem?_eq_getElem h]
    rfl
  · rw [List.getElem?_eq_none_iff.mpr (by rw [deckW_len]; omega), List.getElem?_eq_none_iff.mpr (by omega)]
theorem list_getD {xs ys : List Nat} {d : Nat} (hl : xs.length = ys.length) (h : ∀ c, c < xs.length → xs.getD c d = ys.getD c d) : xs = ys := by
  apply List.ext_getElem?
  intro k
  by_cases hk : k < xs.length
  · have := h k hk
    rw [List.getD_eq_getElem?_getD, List.getD_eq_getElem?_getD, List.getElem?_eq_getElem hk, List.getElem?_eq_getElem (by omega)] at this
    rw [List.getElem?_eq_getElem hk, List.getElem?_eq_getElem (by omega)]
    exact congrArg some this
  · rw [List.getElem?_eq_none_iff.mpr (by omega), List.getElem?_eq_none_iff.mpr (by omega)]
end
end Bf
namespace Zn
open PySem PySem.Spec PyProof.Rows L2
/-! ### zip over any number of lists: its iterators at N, N + 1 .., what it was given at N + n, its own tuple at N + n + 1, itself at N + n + 2 -/
abbrev Tu (h : Heap) (a : Nat) (vs : List Value) : Prop := h.get? a = some { cls := .type "tuple", data := .seq vs.toArray }
abbrev Lists := List (Nat × Array Value)
/-- the lists lie below N -/
def Low (N : Nat) (L : Lists) : Prop := ∀ (j a : Nat) X, L[j]? = some (a, X) → a < N
/-- within turn i, behind the first d draws -/
def Drawn (N : Nat) (L : Lists) (i d : Nat) (h : Heap) : Prop := ∀ (j a : Nat) X, L[j]? = some (a, X) → h.IsListIter (N + j) a (if j < d then i + 1 else i) ∧ h.IsList a X
/-- what the first d draws of turn i gave -/
def got (L : Lists) (i d : Nat) : List Value := (L.take d).map fun p => p.2.getD i .none
def its (N n : Nat) : List Value := (List.range n).map fun j => Value.ref (N + j)
/-- all but the zip's own cells is as it was -/
def Else (N n : Nat) (h h' : Heap) : Prop := ∀ (c : Nat) o, (c < N ∨ N + n + 2 < c) → h.get? c = some o → h'.get? c = some o
theorem Else.by {N n c : Nat} {h h' g : Heap} (e : Else N n h h') (x : Heap.SameBut c h' g) (h1 : N ≤ c) (h2 : c ≤ N + n + 2) : Else N n h g := fun b o hb q => x.extBut b o (fun z => by have z' : (b : Nat) = c := z; omega) (e b o hb q)
theorem Drawn.by {N i d c : Nat} {L : Lists} {h h' : Heap} (D : Drawn N L i d h) (lo : Low N L) (x : Heap.SameBut c h h') (hc : N + L.length ≤ c) : Drawn N L i d h' := fun j a X hj => by
  have h1 := (List.getElem?_eq_some_iff.mp hj).1
  have h2 := lo j a X hj
  exact ⟨(D j a X hj).1.extBut x.extBut (fun z => by have z' : N + j = c := z; omega), (D j a X hj).2.extBut x.extBut (fun z => by have z' : (a : Nat) = c := z; omega)⟩
theorem Drawn.next {N i n : Nat} {L : Lists} {h : Heap} (D : Drawn N L i n h) (hn : n = L.length) : Drawn N L (i + 1) 0 h := fun j a X hj => by
  have h1 := (List.getElem?_eq_some_iff.mp hj).1
  have h2 := D j a X hj
  rw [if_pos (by omega)] at h2
  rw [if_neg (Nat.not_lt_zero _)]
  exact h2
theorem got_more {L : Lists} {i d a : Nat} {X : Array Value} (h : L[d]? = some (a, X)) : got L i (d + 1) = got L i d ++ [X.getD i .none] := by
  unfold got
  rw [List.take_add_one, h, Option.toList_some, List.map_append]
  rfl
section
variable {prog : Program} {w : World} {A : Around} {E : Value → Shared → Prop} {s : Shared} {N i d n : Nat} {L : Lists}
theorem draw {a : Nat} {X : Array Value} {Q : Value → Shared → Prop} (D : Drawn N L i d s.heap) (lo : Low N L) (hd : L[d]? = some (a, X)) (hi : i < X.size)
    (k : ∀ h', Drawn N L i (d + 1) h' → Heap.SameBut (N + d) s.heap h' → Q (X.getD i .none) { s with heap := h' }) : wpAny (model prog w) A (Builtin.SmallTypes.nextOf (.ref (N + d))) Q E s := by
  have c := D d a X hd
  rw [if_neg (Nat.lt_irrefl _)] at c
  have ha := lo d a X hd
  have hx : X[i]? = some (X.getD i .none) := by rw [Array.getD_eq_getD_getElem?, Array.getElem?_eq_getElem hi]; rfl
  refine wpAny_nextOf_list_item c.1 c.2 hx fun h' ci x => k h' (fun j b Y hj => ?_) x
  have hb := lo j b Y hj
  have cj := D j b Y hj
  refine ⟨?_, cj.2.extBut x.extBut (fun z => by have z' : (b : Nat) = N + d := z; omega)⟩
  rcases Nat.lt_trichotomy j d with q | q | q
  · rw [if_pos (by omega)]
    rw [if_pos q] at cj
    exact cj.1.extBut x.extBut (fun z => by have z' : N + j = N + d := z; omega)
  · subst q
    rw [hd] at hj
    cases hj
    rw [if_pos (by omega)]
    exact ci
  · rw [if_neg (by omega)]
    rw [if_neg (by omega)] at cj
    exact cj.1.extBut x.extBut (fun z => by have z' : N + j = N + d := z; omega)
end
section
variable {prog : Program} {w : World} {A : Around} {E : Value → Shared → Prop} {s : Shared} {N i d n : Nat} {L : Lists}
theorem its_more {N n : Nat} : (its N n).toArray.isEmpty = decide (n = 0) := by
  cases n with
  | zero => rfl
  | succ n => simp [its]
theorem got_all {L : Lists} {i n : Nat} (hn : n = L.length) : (got L i n).length = n := by
  unfold got
  rw [List.length_map, List.length_take]
  omega
theorem its_drop {N n d : Nat} {x : Value} {rest : List Value} (h : (its N n).drop d = x :: rest) : d < n ∧ x = .ref (N + d) ∧ rest = (its N n).drop (d + 1) := by
  have hl : (its N n).length = n := by simp [its]
  have hd : d < n := by
    have := congrArg List.length h
    rw [List.length_drop, hl, List.length_cons] at this
    omega
  have e := List.drop_eq_getElem_cons (l := its N n) (i := d) (by omega)
  rw [h] at e
  injection e with e1 e2
  exact ⟨hd, by rw [e1]; simp [its], e2⟩
/-- a new tuple, where the last one is still somebody's -/
theorem held {T : Nat} {f : Bool} {oT : Obj} {Q : Value → Shared → Prop} (hz : IsZipHeld s.heap (N + n + 2) (N + n) (N + n + 1) T f) (hT : s.heap.get? T = some oT) (hi : Tu s.heap (N + n) (its N n))
    (D : Drawn N L i 0 s.heap) (lo : Low N L) (hn : n = L.length) (n0 : 0 < n) (nb : n ≤ 1000) (hX : ∀ (j a : Nat) X, L[j]? = some (a, X) → i < X.size)
    (k : ∀ h', IsZipHeld h' (N + n + 2) (N + n) (N + n + 1) T true → Drawn N L (i + 1) 0 h' → Tu h' s.heap.objs.size (got L i n) → h'.objs.size = s.heap.objs.size + 1 → Else N n s.heap h' → Tu h' (N + n) (its N n) → Q (.ref s.heap.objs.size) { s with heap := h' }) :
    wpAny (model prog w) A (Builtin.«zip.__next__» ⟨[.ref (N + n + 2)], []⟩) (fun fin s' => ∃ v, fin = .done (.ret v) ∧ Q v s') E s := by
  obtain ⟨hp, g, dd, tk, os⟩ := s
  have f2 := fun {A : Around} {Q} q => wpAny_field (M := model prog w) (A := A) (E := E) (s := ⟨hp, g, dd, tk, os⟩) (Q := Q) hz rfl (i := 2) (x := .bool false) rfl q
  have f3 := fun {A : Around} {Q} q => wpAny_field (M := model prog w) (A := A) (E := E) (s := ⟨hp, g, dd, tk, os⟩) (Q := Q) hz rfl (i := 3) (x := .ref (N + n)) rfl q
  have e1 : ¬(its N n).toArray.isEmpty = true := by rw [its_more]; simp; omega
  have e2 : decide ((its N n).toArray.isEmpty = true) = false := decide_eq_false e1
  wp_walk using f2, f3, wpAny_seqItems hi rfl, wpAny_tupleHeld_zip hz hT, wpAny_ite_false e2
  intro h1 hz1 x1
  have a1 : (Else N n hp h1) := fun b o hb q => x1.extBut b o (fun z => by have z' : (b : Nat) = N + n + 2 := z; omega) q
  have D1 := D.by lo x1 (by omega)
  have hi1 : Tu h1 (N + n) (its N n) := x1.extBut _ _ (fun z => by have z' : N + n = N + n + 2 := z; omega) hi
  wp_walk using MeetsSeq2.wpAny_forIn_array _ (fun rest b s' => ∃ d h', rest = (its N n).drop d ∧ b = (none, (got L i d).toArray) ∧ s' = ⟨h', g, dd, tk, os⟩ ∧ d ≤ n ∧ Drawn N L i d h' ∧ IsZipHeld h' (N + n + 2) (N + n) (N + n + 1) T true ∧ Else N n hp h' ∧ h'.objs.size = hp.objs.size ∧ Tu h' (N + n) (its N n)) _
  case turn =>
    rintro x rest b s' ⟨d, h', hr, rfl, rfl, hd, hD, hz', hk, hs, ht⟩
    obtain ⟨hd', rfl, rfl⟩ := its_drop hr.symm
    obtain ⟨⟨a, X⟩, hL⟩ : ∃ p, L[d]? = some p := ⟨_, List.getElem?_eq_getElem (by omega)⟩
    have dr := fun {A : Around} {Q} q => draw (prog := prog) (w := w) (A := A) (E := E) (Q := Q) (s := ⟨h', g, dd, tk, os⟩) hD lo hL (hX d a X hL) q
    wp_walk using dr
    intro h2 D2 x2
    wp_walk
    have c1 : N + d ≤ N + n := by omega
    exact ⟨d + 1, h2, rfl, by rw [got_more hL, List.push_toArray], rfl, hd', D2, x2.extBut _ _ (fun z => by have z' : N + n + 2 = N + d := z; omega) hz', hk.by x2 (by omega) (by omega), x2.1.trans hs, x2.extBut _ _ (fun z => by have z' : N + n = N + d := z; omega) ht⟩
  case fin =>
    rintro b s' ⟨d, h', hr, rfl, rfl, hd, hD, hz', hk, hs, ht⟩
    have hdn : d = n := by
      have := congrArg List.length hr
      simp [its] at this
      omega
    subst hdn
    have nt := fun {A : Around} {Q} q => wpAny_newTuple (M := model prog w) (A := A) (E := E) (items := got L i d) (s := ⟨h', g, dd, tk, os⟩) (Q := Q) q (by rw [got_all hn]; exact Nat.le_trans nb (by decide))
    wp_walk using nt
    refine ⟨_, rfl, ?_⟩
    show Q (.ref h'.objs.size) ⟨h'.push _, g, dd, tk, os⟩
    have p1 : Tu (h'.push { cls := .type "tuple", data := .seq (got L i d).toArray }) h'.objs.size (got L i d) := Heap.get?_push_size _ rfl
    have p2 : (h'.push { cls := .type "tuple", data := .seq (got L i d).toArray }).objs.size = h'.objs.size + 1 := Heap.size_push ..
    rw [hs] at p1 p2 ⊢
    exact k _ (Heap.get?_push_of_some _ hz') (fun j a X hj => let ⟨q1, q2⟩ := (hD.next hn) j a X hj; ⟨q1.at fun o e => Heap.get?_push_of_some _ e, q2.at fun o e => Heap.get?_push_of_some _ e⟩) p1 p2 (fun c o hc e => Heap.get?_push_of_some _ (hk c o hc e)) (Heap.get?_push_of_some _ ht)
  case h =>
    exact ⟨0, h1, rfl, rfl, rfl, Nat.zero_le _, D1, hz1, a1, x1.1, hi1⟩
theorem put {T k : Nat} {vs : List Value} {x : Value} {Q : Unit → Shared → Prop} (hT : Tu s.heap T vs) (hb : vs.length ≤ 1000) (q : ∀ h', Tu h' T (vs.set k x) → Heap.SameBut T s.heap h' → Q () { s with heap := h' }) :
    wpAny (model prog w) A (updateSeq T fun z => z.setIfInBounds k x) Q E s := by
  have b1 : vs.toArray.size ≤ sizeLine := by rw [List.size_toArray]; exact Nat.le_trans hb (by decide)
  have b2 : (vs.toArray.setIfInBounds k x).size ≤ sizeLine + 1 := by rw [Array.size_setIfInBounds]; exact Nat.le_succ_of_le b1
  apply wpAny_updateSeq hT rfl (hz := b1) (_hz' := b2)
  apply q
  · have e := Heap.get?_update_self (Obj.mapSeq fun z => z.setIfInBounds k x) hT rfl
    show (s.heap.update T (Obj.mapSeq fun z => z.setIfInBounds k x)).get? T = _
    rw [e]
    simp [Obj.mapSeq]
  · exact Heap.SameBut.update ..
theorem zip_drop {N n d : Nat} {x : Value × Nat} {rest : List (Value × Nat)} (h : (its N n).zipIdx.drop d = x :: rest) : d < n ∧ x = (.ref (N + d), d) ∧ rest = (its N n).zipIdx.drop (d + 1) := by
  have hl : (its N n).zipIdx.length = n := by simp [its]
  have hd : d < n := by
    have := congrArg List.length h
    rw [List.length_drop, hl, List.length_cons] at this
    omega
  have e := List.drop_eq_getElem_cons (l := (its N n).zipIdx) (i := d) (by omega)
  rw [h] at e
  injection e with e1 e2
  exact ⟨hd, by rw [e1]; simp [its], e2⟩
theorem got_set {L : Lists} {vs : List Value} {i d a n : Nat} {X : Array Value} (h : L[d]? = some (a, X)) (hv : vs.length = n) (hd : d < n) : (got L i d ++ vs.drop d).set d (X.getD i .none) = got L i (d + 1) ++ vs.drop (d + 1) := by
  have hl : (got L i d).length = d := by
    unfold got
    have := (List.getElem?_eq_some_iff.mp h).1
    rw [List.length_map, List.length_take]
    omega
  rw [got_more h, List.drop_eq_getElem_cons (show d < vs.length by omega), List.set_append_right _ _ (by omega), hl, Nat.sub_self, List.set_cons_zero, List.append_assoc]
  rfl
/-- its own tuple once more, the first time -/
theorem first {vs : List Value} {Q : Value → Shared → Prop} (hz : IsZip s.heap (N + n + 2) (N + n) (N + n + 1) .none) (hv : Tu s.heap (N + n + 1) vs) (hvl : vs.length = n) (hi : Tu s.heap (N + n) (its N n))
    (D : Drawn N L i 0 s.heap) (lo : Low N L) (hn : n = L.length) (n0 : 0 < n) (nb : n ≤ 1000) (hX : ∀ (j a : Nat) X, L[j]? = some (a, X) → i < X.size)
    (k : ∀ h', IsZip h' (N + n + 2) (N + n) (N + n + 1) (rawInt s.heap.objs.size) → Drawn N L (i + 1) 0 h' → Tu h' s.heap.objs.size (got L i n) → h'.objs.size = s.heap.objs.size + 1 → Else N n s.heap h' → Tu h' (N + n) (its N n) → Q (.ref s.heap.objs.size) { s with heap := h' }) :
    wpAny (model prog w) A (Builtin.«zip.__next__» ⟨[.ref (N + n + 2)], []⟩) (fun fin s' => ∃ v, fin = .done (.ret v) ∧ Q v s') E s := by
  obtain ⟨hp, g, dd, tk, os⟩ := s
  have f0 := fun {A : Around} {Q} q => wpAny_field (M := model prog w) (A := A) (E := E) (s := ⟨hp, g, dd, tk, os⟩) (Q := Q) hz rfl (i := 0) (x := .none) rfl q
  have f2 := fun {A : Around} {Q} q => wpAny_field (M := model prog w) (A := A) (E := E) (s := ⟨hp, g, dd, tk, os⟩) (Q := Q) hz rfl (i := 2) (x := .bool false) rfl q
  have f3 := fun {A : Around} {Q} q => wpAny_field (M := model prog w) (A := A) (E := E) (s := ⟨hp, g, dd, tk, os⟩) (Q := Q) hz rfl (i := 3) (x := .ref (N + n)) rfl q
  have f4 := fun {A : Around} {Q} q => wpAny_field (M := model prog w) (A := A) (E := E) (s := ⟨hp, g, dd, tk, os⟩) (Q := Q) hz rfl (i := 4) (x := .ref (N + n + 1)) rfl q
  have e1 : ¬(its N n).toArray.isEmpty = true := by rw [its_more]; simp; omega
  have e2 : decide ((its N n).toArray.isEmpty = true) = false := decide_eq_false e1
  have w0 := fun {A : Around} {Q} q => wpAny_setField_rec (prog := prog) (w := w) (A := A) (E := E) (s := ⟨hp, g, dd, tk, os⟩) (Q := Q) (k := 0) (x := .ellipsis) hz (by simp) q
  wp_walk using f0, f2, f3, f4, wpAny_seqItems hi rfl, wpAny_ite_false e2, w0
  intro h1 z1 x1
  have hz1 : IsZip h1 (N + n + 2) (N + n) (N + n + 1) .ellipsis := z1
  have a1 : (Else N n hp h1) := fun b o hb q => x1.extBut b o (fun z => by have z' : (b : Nat) = N + n + 2 := z; omega) q
  have D1 := D.by lo x1 (by omega)
  have hi1 : Tu h1 (N + n) (its N n) := x1.extBut _ _ (fun z => by have z' : N + n = N + n + 2 := z; omega) hi
  have hv1 : Tu h1 (N + n + 1) vs := x1.extBut _ _ (fun z => by have z' : N + n + 1 = N + n + 2 := z; omega) hv
  wp_walk using wpAny_forIn_list _ (fun rest b s' => ∃ d h', rest = (its N n).zipIdx.drop d ∧ b = (none, ()) ∧ s' = ⟨h', g, dd, tk, os⟩ ∧ d ≤ n ∧ Drawn N L i d h' ∧ IsZip h' (N + n + 2) (N + n) (N + n + 1) .ellipsis ∧ Else N n hp h' ∧ h'.objs.size = hp.objs.size ∧ Tu h' (N + n) (its N n) ∧ Tu h' (N + n + 1) (got L i d ++ vs.drop d)) _
  case turn =>
    rintro x rest b s' ⟨d, h', hr, rfl, rfl, hd, hD, hz', hk, hs, ht, hw⟩
    obtain ⟨hd', rfl, rfl⟩ := zip_drop hr.symm
    obtain ⟨⟨a, X⟩, hL⟩ : ∃ p, L[d]? = some p := ⟨_, List.getElem?_eq_getElem (by omega)⟩
    have dr := fun {A : Around} {E} {Q} q => draw (prog := prog) (w := w) (A := A) (E := E) (Q := Q) (s := ⟨h', g, dd, tk, os⟩) hD lo hL (hX d a X hL) q
    wp_walk using wpAny_onRaise, dr
    intro h2 D2 x2
    have c1 : N + d ≤ N + n := by omega
    have hw2 : Tu h2 (N + n + 1) (got L i d ++ vs.drop d) := x2.extBut _ _ (fun z => by have z' : N + n + 1 = N + d := z; omega) hw
    have wl : (got L i d ++ vs.drop d).length ≤ 1000 := by
      unfold got
      rw [List.length_append, List.length_map, List.length_take, List.length_drop]
      omega
    have pu := fun {A : Around} {E} {Q} q => put (prog := prog) (w := w) (A := A) (E := E) (Q := Q) (s := ⟨h2, g, dd, tk, os⟩) (k := d) (x := X.getD i .none) hw2 wl q
    wp_walk using wpAny_seqItems hw2 rfl, pu
    intro h3 hw3 x3
    wp_walk
    rw [got_set hL hvl hd'] at hw3
    exact ⟨d + 1, h3, rfl, rfl, rfl, hd', D2.by lo x3 (by omega), x3.extBut _ _ (fun z => by have z' : N + n + 2 = N + n + 1 := z; omega) (x2.extBut _ _ (fun z => by have z' : N + n + 2 = N + d := z; omega) hz'), (hk.by x2 (by omega) (by omega)).by x3 (by omega) (by omega), x3.1.trans (x2.1.trans hs), x3.extBut _ _ (fun z => by have z' : N + n = N + n + 1 := z; omega) (x2.extBut _ _ (fun z => by have z' : N + n = N + d := z; omega) ht), hw3⟩
  case h => exact ⟨0, h1, rfl, rfl, rfl, Nat.zero_le _, D1, hz1, a1, x1.1, hi1, hv1⟩
  rintro b s' ⟨d, h', hr, rfl, rfl, hd, hD, hz', hk, hs, ht, hw⟩
  have hdn : d = n := by
    have := congrArg List.length hr
    simp [its] at this
    omega
  subst hdn
  rw [List.drop_eq_nil_of_le (Nat.le_of_eq hvl), List.append_nil] at hw
  have nt := fun {A : Around} {E} {Q} q => wpAny_newTuple (M := model prog w) (A := A) (E := E) (items := got L i d) (s := ⟨h', g, dd, tk, os⟩) (Q := Q) q (by rw [got_all hn]; exact Nat.le_trans nb (by decide))
  have hzp : IsZip (h'.push { cls := .type "tuple", data := .seq (got L i d).toArray }) (N + d + 2) (N + d) (N + d + 1) .ellipsis := Heap.get?_push_of_some _ hz'
  have w1 := fun {A : Around} {E} {Q} x q => wpAny_setField_rec (prog := prog) (w := w) (A := A) (E := E) (s := ⟨h'.push { cls := .type "tuple", data := .seq (got L i d).toArray }, g, dd, tk, os⟩) (Q := Q) (k := 0) (x := x) hzp (by simp) q
  wp_walk using wpAny_seqItems hw rfl, nt, w1
  intro h2 y2 x2
  have hz2 : IsZip h2 (N + d + 2) (N + d) (N + d + 1) (rawInt h'.objs.size) := y2
  have w2 := fun {A : Around} {E} {Q} x q => wpAny_setField_rec (prog := prog) (w := w) (A := A) (E := E) (s := ⟨h2, g, dd, tk, os⟩) (Q := Q) (k := 1) (x := x) hz2 (by simp) q
  wp_walk using w2
  intro h3 y3 x3
  wp_walk
  have z3 : IsZip h3 (N + d + 2) (N + d) (N + d + 1) (rawInt h'.objs.size) := y3
  have up : ∀ (c : Nat) o, c ≠ N + d + 2 → h'.get? c = some o → h3.get? c = some o := fun c o hc e => x3.extBut _ _ hc (x2.extBut _ _ hc (Heap.get?_push_of_some _ e))
  have lz : N + d + 2 < h'.objs.size := Heap.lt_size hz'
  have p1 : Tu h3 h'.objs.size (got L i d) := x3.extBut _ _ (fun z => by have z' : h'.objs.size = N + d + 2 := z; omega) (x2.extBut _ _ (fun z => by have z' : h'.objs.size = N + d + 2 := z; omega) (Heap.get?_push_size _ rfl))
  have p2 : h3.objs.size = h'.objs.size + 1 := by rw [x3.1, x2.1, Heap.size_push]
  refine ⟨_, rfl, ?_⟩
  show Q (.ref h'.objs.size) ⟨h3, g, dd, tk, os⟩
  rw [hs] at z3 p1 p2 ⊢
  refine k h3 z3 (fun j a X hj => ?_) p1 p2 (fun c o hc e => up c o (by omega) (hk c o hc e)) (up _ _ (by omega) ht)
  have b1 := (List.getElem?_eq_some_iff.mp hj).1
  have b2 := lo j a X hj
  obtain ⟨q1, q2⟩ := (hD.next hn) j a X hj
  exact ⟨q1.at fun o e => up _ o (by omega) e, q2.at fun o e => up _ o (by omega) e⟩
/-- the first list is at its end: StopIteration -/
theorem ended {T : Nat} {f : Bool} {oT : Obj} {Q : PySem.Fin → Shared → Prop} (hh : A.handled = none) (hz : IsZipHeld s.heap (N + n + 2) (N + n) (N + n + 1) T f) (hT : s.heap.get? T = some oT) (hi : Tu s.heap (N + n) (its N n))
    (D : Drawn N L i 0 s.heap) (lo : Low N L) (hn : n = L.length) (n0 : 0 < n) {a : Nat} {X : Array Value} (hL : L[0]? = some (a, X)) (hX : X.size ≤ i)
    (k : ∀ h' e, Else N n s.heap h' → (∃ o, h'.get? e = some o ∧ o.cls = .type "StopIteration") → E (.ref e) { s with heap := h' }) :
    wpAny (model prog w) A (Builtin.«zip.__next__» ⟨[.ref (N + n + 2)], []⟩) Q E s := by
  obtain ⟨hp, g, dd, tk, os⟩ := s
  have f2 := fun {A : Around} {Q} q => wpAny_field (M := model prog w) (A := A) (E := E) (s := ⟨hp, g, dd, tk, os⟩) (Q := Q) hz rfl (i := 2) (x := .bool false) rfl q
  have f3 := fun {A : Around} {Q} q => wpAny_field (M := model prog w) (A := A) (E := E) (s := ⟨hp, g, dd, tk, os⟩) (Q := Q) hz rfl (i := 3) (x := .ref (N + n)) rfl q
  have e1 : ¬(its N n).toArray.isEmpty = true := by rw [its_more]; simp; omega
  have e2 : decide ((its N n).toArray.isEmpty = true) = false := decide_eq_false e1
  wp_walk using f2, f3, wpAny_seqItems hi rfl, wpAny_tupleHeld_zip hz hT, wpAny_ite_false e2
  intro h1 hz1 x1
  have D1 := (D.by lo x1 (by omega)) 0 a X hL
  rw [if_neg (Nat.lt_irrefl _)] at D1
  have en := fun {A : Around} {E} {Q} hh q => wpAny_nextOf_list_end (prog := prog) (w := w) (A := A) (E := E) (Q := Q) (s := ⟨h1, g, dd, tk, os⟩) hh D1.1 D1.2 (Array.getElem?_eq_none hX) q
  wp_walk using MeetsSeq2.wpAny_forIn_array _ (fun rest b s' => rest = its N n ∧ b = (none, #[]) ∧ s' = ⟨h1, g, dd, tk, os⟩) _
  case h => exact ⟨rfl, rfl, rfl⟩
  case fin =>
    rintro b s' ⟨hr, _, _⟩
    have := congrArg List.length hr
    simp [its] at this
    omega
  rintro x rest b s' ⟨hr, rfl, rfl⟩
  obtain ⟨_, rfl, _⟩ := its_drop (d := 0) hr.symm
  wp_walk using en hh
  intro h2 e x2 he
  exact k h2 e (fun c o hc q => x2 _ _ (fun z => by have z' : (c : Nat) = N + 0 := z; omega) (x1.extBut _ _ (fun z => by have z' : (c : Nat) = N + n + 2 := z; omega) q)) he
/-- the zip at its i-th turn; S: where the list of what it gives lies -/
def At (N n : Nat) (L : Lists) (S i : Nat) (h : Heap) : Prop := Drawn N L i 0 h ∧ Tu h (N + n) (its N n) ∧
  ((i = 0 ∧ IsZip h (N + n + 2) (N + n) (N + n + 1) .none ∧ ∃ vs, vs.length = n ∧ Tu h (N + n + 1) vs) ∨ (0 < i ∧ ∃ T f vs, IsZipHeld h (N + n + 2) (N + n) (N + n + 1) T f ∧ Tu h T vs ∧ S < T))
theorem At.keep {S : Nat} {h h' : Heap} (x : At N n L S i h) (lo : Low N L) (hn : n = L.length) (hS : N + n + 2 < S) (hk : ∀ (c : Nat) o, c ≠ S → h.get? c = some o → h'.get? c = some o) : At N n L S i h' := by
  obtain ⟨x1, x2, x3⟩ := x
  refine ⟨fun j a X hj => ?_, hk _ _ (by omega) x2, ?_⟩
  · have b1 := (List.getElem?_eq_some_iff.mp hj).1
    have b2 := lo j a X hj
    exact ⟨(x1 j a X hj).1.at fun o e => hk _ o (by omega) e, (x1 j a X hj).2.at fun o e => hk _ o (by omega) e⟩
  · rcases x3 with ⟨y1, y2, vs, y3, y4⟩ | ⟨y1, T, f, vs, y2, y3, y4⟩
    · exact .inl ⟨y1, hk _ _ (by omega) y2, vs, y3, hk _ _ (by omega) y4⟩
    · exact .inr ⟨y1, T, f, vs, hk _ _ (by omega) y2, hk _ _ (by omega) y3, y4⟩
theorem next {S : Nat} {Q : Option Value → Shared → Prop} (x : At N n L S i s.heap) (lo : Low N L) (hn : n = L.length) (n0 : 0 < n) (nb : n ≤ 1000) (hX : ∀ (j a : Nat) X, L[j]? = some (a, X) → i < X.size) (hS0 : N + n + 2 < S) (hS : S < s.heap.objs.size)
    (k : ∀ h', At N n L S (i + 1) h' → Tu h' s.heap.objs.size (got L i n) → h'.objs.size = s.heap.objs.size + 1 → Else N n s.heap h' → Q (some (.ref s.heap.objs.size)) { s with heap := h' }) : wpAny (model prog w) A (pyNext (.ref (N + n + 2))) Q E s := by
  obtain ⟨x1, x2, x3⟩ := x
  have hty : s.TypeIs (.ref (N + n + 2)) "zip" := by rcases x3 with ⟨_, y2, _⟩ | ⟨_, T, f, vs, y2, _⟩ <;> exact ⟨_, y2, rfl⟩
  apply wpAny_bind
  apply wpAny_attempt
  apply wpAny_callSpecial?_slot hty F.slot_zip_next
  refine wpAny_call_entry F.slot_zip_next hty F.entry_zip_next ?_ (F.args_zip_next_1 _)
  rcases x3 with ⟨y1, y2, vs, y3, y4⟩ | ⟨y1, T, f, vs, y2, y3, y4⟩
  · subst y1
    exact first y2 y4 y3 x2 x1 lo hn n0 nb hX fun h' z1 z2 z3 z4 z5 z6 => wpAny_pure (k h' ⟨z2, z6, .inr ⟨Nat.succ_pos _, s.heap.objs.size, false, _, z1, z3, hS⟩⟩ z3 z4 z5)
  · exact held y2 y3 x2 x1 lo hn n0 nb hX fun h' z1 z2 z3 z4 z5 z6 => wpAny_pure (k h' ⟨z2, z6, .inr ⟨Nat.succ_pos _, T, true, vs, z1, z5 _ _ (by omega) y3, y4⟩⟩ z3 z4 z5)
theorem over {S : Nat} {Q : Option Value → Shared → Prop} (hh : A.handled = none) (x : At N n L S i s.heap) (lo : Low N L) (hn : n = L.length) (n0 : 0 < n) {a : Nat} {X : Array Value} (hL : L[0]? = some (a, X)) (hX : X.size = i) (h0 : 0 < i)
    (k : ∀ h', Else N n s.heap h' → Q none { s with heap := h' }) : wpAny (model prog w) A (pyNext (.ref (N + n + 2))) Q E s := by
  obtain ⟨x1, x2, ⟨y1, _⟩ | ⟨y1, T, f, vs, y2, y3, y4⟩⟩ := x
  · omega
  have hty : s.TypeIs (.ref (N + n + 2)) "zip" := ⟨_, y2, rfl⟩
  apply wpAny_bind
  apply wpAny_attempt
  apply wpAny_callSpecial?_slot hty F.slot_zip_next
  refine wpAny_call_entry F.slot_zip_next hty F.entry_zip_next ?_ (F.args_zip_next_1 _)
  refine ended hh y2 y3 x2 x1 lo hn n0 hL (Nat.le_of_eq hX) fun h' e hk ⟨o, ho, hc⟩ => ?_
  have st := fun {A : Around} {E} {Q} q => wpAny_isInstance (M := model prog w) (A := A) (E := E) (T := "StopIteration") (b := true) (s := { s with heap := h' }) (v := .ref e) (Q := Q) ⟨o, ho, hc⟩ isSubtype_stop q
  wp_walk using st
  exact k h' hk
/-! ### list(that zip) -/
def refs (S i : Nat) : List Value := (List.range i).map fun j => Value.ref (S + 1 + j)
/-- the list at S behind the i-th turn: new tuples, one behind the other -/
structure Full (N n : Nat) (L : Lists) (S i : Nat) (h0 h : Heap) : Prop where
  at_ : At N n L S i h
  list : ∃ c, h.get? S = some { cls := .type "list", data := .seq (refs S i).toArray c }
  size : h.objs.size = S + 1 + i
  rows : ∀ j, j < i → Tu h (S + 1 + j) (got L j n)
  rest : ∀ (c : Nat) o, c ≠ S → (c < N ∨ N + n + 2 < c) → h0.get? c = some o → h.get? c = some o
/-- the list, whole -/
structure Done (N n : Nat) (L : Lists) (S m : Nat) (h0 h : Heap) : Prop where
  list : ∃ c, h.get? S = some { cls := .type "list", data := .seq (refs S m).toArray c }
  rows : ∀ j, j < m → Tu h (S + 1 + j) (got L j n)
  rest : ∀ (c : Nat) o, c ≠ S → (c < N ∨ N + n + 2 < c) → h0.get? c = some o → h.get? c = some o
theorem refs_more (S i : Nat) : refs S (i + 1) = refs S i ++ [.ref (S + 1 + i)] := by
  unfold refs
  rw [List.range_succ, List.map_append]
  rfl
theorem refs_len (S i : Nat) : (refs S i).length = i := by simp [refs]
theorem turns {R : Result → Shared → Prop} {S m : Nat} {h0 : Heap} {res : Value} (hh : A.handled = none) (lo : Low N L) (hn : n = L.length) (n0 : 0 < n) (nb : n ≤ 1000) {a0 : Nat} {X0 : Array Value} (hL : L[0]? = some (a0, X0)) (hm : X0.size = m) (m0 : 0 < m)
    (mb : m ≤ sizeLine) (hX : ∀ (j a : Nat) X, L[j]? = some (a, X) → m ≤ X.size) (hS : N + n + 2 < S) (k : ∀ h', Done N n L S m h0 h' → R (.ok (.ret res)) { s with heap := h' }) :
    ∀ (r i : Nat) (h : Heap), i + r = m → Full N n L S i h0 h → codeAny (model prog w) A (.builtin "list.extend.loop" ⟨[.ref S, .ref (N + n + 2), res], []⟩) R { s with heap := h } := by
  intro r
  induction r with
  | zero =>
    intro i h hi F
    obtain ⟨hp, g, dd, tk, os⟩ := s
    apply codeAny_builtin PySem.F.entry_extend_loop
    rw [Around.under_plainId PySem.F.plain_extend_loop _]
    have ov := fun {E} {Q} q => over (prog := prog) (w := w) (A := A.in1) (E := E) (Q := Q) (s := ⟨h, g, dd, tk, os⟩) hh F.at_ lo hn n0 hL (by omega) (by omega) q
    wp_walk using ov
    intro h' e
    wp_walk
    obtain rfl : i = m := hi
    obtain ⟨c, hc⟩ := F.list
    exact k h' ⟨⟨c, e _ _ (by omega) hc⟩, fun j hj => e _ _ (by omega) (F.rows j hj), fun c o h1 h2 q => e c o h2 (F.rest c o h1 h2 q)⟩
  | succ r ih =>
    intro i h hi F
    obtain ⟨hp, g, dd, tk, os⟩ := s
    apply codeAny_builtin PySem.F.entry_extend_loop
    rw [Around.under_plainId PySem.F.plain_extend_loop _]
    have sz : h.objs.size = S + 1 + i := F.size
    obtain ⟨c, hc⟩ := F.list
    have nx := fun {E} {Q} q => next (prog := prog) (w := w) (A := A.in1) (E := E) (Q := Q) (s := ⟨h, g, dd, tk, os⟩) F.at_ lo hn n0 nb (fun j a X hj => by have := hX j a X hj; omega) hS (by rw [show h.objs.size = _ from F.size]; omega) q
    wp_walk using nx
    intro h' at' tu sz' e
    have hc' := e _ _ (by omega) hc
    have rb : (refs S i).toArray.size ≤ sizeLine := by rw [List.size_toArray, refs_len]; exact Nat.le_trans (show i ≤ m by omega) mb
    have pu := fun {E} {Q} q => wpAny_updateSeq (M := model prog w) (A := A.in1) (E := E) (Q := Q) (s := ⟨h', g, dd, tk, os⟩) (f := fun z => z.push (Value.ref h.objs.size)) hc' rfl q rb (by rw [Array.size_push]; exact Nat.succ_le_succ rb)
    wp_walk using pu
    have up : ∀ (b : Nat) o, b ≠ S → h'.get? b = some o → (h'.update S (Obj.mapSeq fun z => z.push (Value.ref h.objs.size))).get? b = some o := fun b o hb q => (Heap.SameBut.update ..).extBut b o hb q
    refine ⟨plainId_quiet PySem.F.plain_extend_loop _, ih (i + 1) _ (by omega) ⟨at'.keep lo hn hS up, ?_, ?_, fun j hj => ?_, fun b o h1 h2 q => up b o h1 (e b o h2 (F.rest b o h1 h2 q))⟩⟩
    · have q := Heap.get?_update_self (Obj.mapSeq fun z => z.push (Value.ref h.objs.size)) hc' rfl
      rw [refs_more, ← sz, ← List.push_toArray]
      exact ⟨_, q⟩
    · have q : (h'.update S (Obj.mapSeq fun z => z.push (Value.ref h.objs.size))).objs.size = h'.objs.size := (Heap.SameBut.update (h := h') ..).1
      show (h'.update S (Obj.mapSeq fun z => z.push (Value.ref h.objs.size))).objs.size = _
      rw [q, sz']
      show h.objs.size + 1 = _
      omega
    · by_cases q : j = i
      · subst q
        have tu' : Tu h' (S + 1 + j) (got L j n) := by rw [← sz]; exact tu
        exact up _ _ (by omega) tu'
      · exact up _ _ (show S + 1 + j ≠ S by omega) (e _ _ (by omega) (F.rows j (by omega)))
theorem no_len : typeLookup (.type "zip") "__len__" = pure none := am_miss_of_fast (by decide +kernel)
theorem no_hint : typeLookup (.type "zip") "__length_hint__" = pure none := am_miss_of_fast (by decide +kernel)
theorem extend {R : Result → Shared → Prop} {S m c0 : Nat} {res : Value} (hh : A.handled = none) (lo : Low N L) (hn : n = L.length) (n0 : 0 < n) (nb : n ≤ 1000) {a0 : Nat} {X0 : Array Value} (hL : L[0]? = some (a0, X0)) (hm : X0.size = m) (m0 : 0 < m)
    (mb : m ≤ sizeLine) (hX : ∀ (j a : Nat) X, L[j]? = some (a, X) → m ≤ X.size) (hS : N + n + 2 < S) (k : ∀ h', Done N n L S m s.heap h' → R (.ok (.ret res)) { s with heap := h' })
    (x : At N n L S 0 s.heap) (hl : s.heap.get? S = some { cls := .type "list", data := .seq #[] c0 }) (hz : s.heap.objs.size = S + 1) :
    wpAny (model prog w) A.in1 (Builtin.List.listExtendWith (.ref S) (.ref (N + n + 2)) res)
      (fun fin t => match fin with | .done f => R (.ok f) t | .again c => c.quiet = true ∧ codeAny (model prog w) A c R t) (fun e t => R (.error e) t) s := by
  have y2 : IsZip s.heap (N + n + 2) (N + n) (N + n + 1) .none := by
    rcases x.2.2 with ⟨_, y, _⟩ | ⟨y, _⟩
    · exact y
    · exact absurd y (Nat.lt_irrefl _)
  have ty : s.TypeIs (.ref (N + n + 2)) "zip" := ⟨_, y2, rfl⟩
  obtain ⟨hp, g, dd, tk, os⟩ := s
  have sr : Builtin.List.listSameRef (.ref S) (.ref (N + n + 2)) = false := by
    have : S ≠ N + n + 2 := by omega
    simp [Builtin.List.listSameRef, this]
  have s1 := fun {A : Around} {E} {Q} q => wpAny_specialOf (M := model prog w) (A := A) (E := E) (s := ⟨hp, g, dd, tk, os⟩) (Q := Q) ty no_len q
  have s2 := fun {A : Around} {E} {Q} q => wpAny_specialOf (M := model prog w) (A := A) (E := E) (s := ⟨hp, g, dd, tk, os⟩) (Q := Q) ty no_hint q
  have e1 : decide ((Builtin.List.listSameRef (.ref S) (.ref (N + n + 2)) || Value.type "zip" == Value.type "list" || Value.type "zip" == Value.type "tuple") = true) = false := by rw [sr]; decide
  have u1 := fun {A : Around} {E} {Q} q => wpAny_updateSeq (M := model prog w) (A := A) (E := E) (Q := Q) (s := ⟨hp, g, dd, tk, os⟩) (f := fun z => z.push .none) hl rfl q (by simp) (by simp)
  have hl2 := Heap.get?_update_self (Obj.mapSeq fun z => z.push Value.none) hl rfl
  have u2 := fun {A : Around} {E} {Q} q => wpAny_updateSeq (M := model prog w) (A := A) (E := E) (Q := Q) (s := ⟨hp.update S (Obj.mapSeq fun z => z.push .none), g, dd, tk, os⟩) (f := fun z => z.pop) hl2 rfl q (by simp; decide) (by simp)
  have hl3 := Heap.get?_update_self (Obj.mapSeq fun z => z.pop) hl2 rfl
  wp_walk using s1, s2, wpAny_typeOf ty, wpAny_pyIter_zip y2, wpAny_ite_false e1, u1, u2
  have b1 := (Heap.SameBut.update (h := hp) (a := S) (f := Obj.mapSeq fun z => z.push Value.none))
  have b2 := (Heap.SameBut.update (h := hp.update S (Obj.mapSeq fun z => z.push Value.none)) (a := S) (f := Obj.mapSeq fun z => z.pop))
  have up : ∀ (b : Nat) o, b ≠ S → hp.get? b = some o → ((hp.update S (Obj.mapSeq fun z => z.push Value.none)).update S (Obj.mapSeq fun z => z.pop)).get? b = some o := fun b o hb q => b2.extBut b o hb (b1.extBut b o hb q)
  refine ⟨plainId_quiet PySem.F.plain_extend_loop _, ?_⟩
  refine turns (s := ⟨hp, g, dd, tk, os⟩) (h0 := hp) hh lo hn n0 nb hL hm m0 mb hX hS k m 0 _ (Nat.zero_add m) ⟨x.keep lo hn hS up, ⟨_, hl3⟩, ?_, fun j hj => absurd hj (Nat.not_lt_zero _), fun c o h1 _ q => up c o h1 q⟩
  exact (b2.1.trans b1.1).trans hz
theorem init {R : Result → Shared → Prop} {S m : Nat} (hh : A.handled = none) (lo : Low N L) (hn : n = L.length) (n0 : 0 < n) (nb : n ≤ 1000) {a0 : Nat} {X0 : Array Value} (hL : L[0]? = some (a0, X0)) (hm : X0.size = m) (m0 : 0 < m)
    (mb : m ≤ sizeLine) (hX : ∀ (j a : Nat) X, L[j]? = some (a, X) → m ≤ X.size) (hS : N + n + 2 < S) (k : ∀ h', Done N n L S m s.heap h' → R (.ok (.ret .none)) { s with heap := h' })
    (x : At N n L S 0 s.heap) (hl : s.heap.get? S = some { cls := .type "list", data := .seq #[] 0 }) (hz : s.heap.objs.size = S + 1) :
    wpAny (model prog w) A.in1 (Builtin.«list.__init__» ⟨[.ref S, .ref (N + n + 2)], []⟩)
      (fun fin t => match fin with | .done f => R (.ok f) t | .again c => c.quiet = true ∧ codeAny (model prog w) A c R t) (fun e t => R (.error e) t) s := by
  obtain ⟨hp, g, dd, tk, os⟩ := s
  have i1 := fun {A : Around} {E} {Q} q => wpAny_seqItems (M := model prog w) (A := A) (E := E) (Q := Q) (s := ⟨hp, g, dd, tk, os⟩) hl rfl q
  have u1 := fun {A : Around} {E} {Q} q => wpAny_updateSeq (M := model prog w) (A := A) (E := E) (Q := Q) (s := ⟨hp, g, dd, tk, os⟩) (f := fun _ => #[]) hl rfl q (by simp) (by simp)
  have hl2 := Heap.get?_update_self (Obj.mapSeq fun _ => #[]) hl rfl
  have b1 := (Heap.SameBut.update (h := hp) (a := S) (f := Obj.mapSeq fun _ => #[]))
  have ex := extend (prog := prog) (w := w) (s := ⟨hp.update S (Obj.mapSeq fun _ => #[]), g, dd, tk, os⟩) (res := .none) (R := R) hh lo hn n0 nb hL hm m0 mb hX hS (fun h' D => k h' ⟨D.list, D.rows, fun c o h1 h2 q => D.rest c o h1 h2 (b1.extBut c o h1 q)⟩)
    (x.keep lo hn hS fun c o hc q => b1.extBut c o hc q) hl2 (b1.1.trans hz)
  wp_walk using i1, u1, ex
abbrev nil : Obj := { cls := .type "list", data := .seq #[] }
theorem listOf {Q : Value → Shared → Prop} {m : Nat} (hh : A.handled = none) (lo : Low N L) (hn : n = L.length) (n0 : 0 < n) (nb : n ≤ 1000) {a0 : Nat} {X0 : Array Value} (hL : L[0]? = some (a0, X0)) (hm : X0.size = m) (m0 : 0 < m)
    (mb : m ≤ sizeLine) (hX : ∀ (j a : Nat) X, L[j]? = some (a, X) → m ≤ X.size) (hz : s.heap.objs.size = N + n + 3) (x : At N n L s.heap.objs.size 0 s.heap)
    (k : ∀ h', Done N n L s.heap.objs.size m s.heap h' → Q (.ref s.heap.objs.size) { s with heap := h' }) : wpAny (model prog w) A (call (.type "list") [.ref (N + n + 2)]) Q E s := by
  have grown := fun (c : Nat) o (_ : c ≠ s.heap.objs.size) (q : s.heap.get? c = some o) => Heap.get?_push_of_some nil q
  have new : (s.heap.push nil).get? s.heap.objs.size = some nil := Heap.get?_push_size _ rfl
  apply callType_codes (Q₁ := fun o t => o = .ref s.heap.objs.size ∧ t = { s with heap := s.heap.push nil }) PySem.F.called_list (PySem.F.typeCall_list_1 _) PySem.F.entry_list_init
  · exact code_list_new _ ⟨rfl, rfl⟩
  · rintro _ _ ⟨rfl, rfl⟩
    refine ⟨⟨_, new, rfl⟩, PySem.F.args_list_init_2 _ _, ?_⟩
    refine init (A := A.in1) (s := { s with heap := s.heap.push nil }) hh lo hn n0 nb hL hm m0 mb hX (by omega) (fun h' D => ?_) (x.keep lo hn (by omega) grown) new (by rw [Heap.size_push])
    exact ⟨rfl, k h' ⟨D.list, D.rows, fun c o h1 h2 q => D.rest c o h1 h2 (grown c o h1 q)⟩⟩
end
end Zn
namespace Zn
open PySem PySem.Spec PyProof.Rows L2
section
variable {prog : Program} {w : World} {A : Around} {E : Value → Shared → Prop} {s : Shared} {N i d n : Nat} {L : Lists}
/-! ### the zip itself -/
abbrev tup (vs : List Value) : Obj := { cls := .type "tuple", data := .seq vs.toArray }
def args (L : Lists) : List Value := L.map fun p => .ref p.1
/-- behind the first d lists' iterators -/
def Begun (N d : Nat) (L : Lists) (h0 h : Heap) : Prop := h.objs.size = N + d ∧ (∀ (c : Nat) o, h0.get? c = some o → h.get? c = some o) ∧ ∀ (j a : Nat) X, j < d → L[j]? = some (a, X) → h.IsListIter (N + j) a 0
theorem args_drop {L : Lists} {d : Nat} {x : Value} {rest : List Value} (h : (args L).drop d = x :: rest) : ∃ a X, L[d]? = some (a, X) ∧ x = .ref a ∧ rest = (args L).drop (d + 1) := by
  have hl : (args L).length = L.length := by simp [args]
  have hd : d < L.length := by
    have := congrArg List.length h
    rw [List.length_drop, hl, List.length_cons] at this
    omega
  have e := List.drop_eq_getElem_cons (l := args L) (i := d) (by omega)
  rw [h] at e
  injection e with e1 e2
  exact ⟨L[d].1, L[d].2, List.getElem?_eq_getElem hd, by rw [e1]; simp [args], e2⟩
theorem new_meets (L : Lists) (nb : L.length ≤ 1000) : Meets (Builtin.«zip.__new__» ⟨.type "zip" :: args L, []⟩) (fun _ R s => (∀ (j a : Nat) X, L[j]? = some (a, X) → s.heap.IsList a X) ∧
    ∀ h', At s.heap.objs.size L.length L h'.objs.size 0 h' → h'.objs.size = s.heap.objs.size + L.length + 3 → (∀ (c : Nat) o, s.heap.get? c = some o → h'.get? c = some o) → R (.ok (.ret (.ref (s.heap.objs.size + L.length + 2)))) { s with heap := h' }) :=
  .of_wp fun prog w A R s ⟨hl, k⟩ => by
    obtain ⟨hp, g, dd, tk, os⟩ := s
    have hsub := sub_zip
    wp_walk using wpAny_forIn_list _ (fun rest b s' => ∃ d h', rest = (args L).drop d ∧ b = (its hp.objs.size d).toArray ∧ s' = ⟨h', g, dd, tk, os⟩ ∧ d ≤ L.length ∧ Begun hp.objs.size d L hp h') _
    case h => exact ⟨0, hp, rfl, rfl, rfl, Nat.zero_le _, rfl, fun c o q => q, fun j a X hj => absurd hj (Nat.not_lt_zero _)⟩
    case turn =>
      rintro x rest b s' ⟨d, h', hr, rfl, rfl, hd, z1, z2, z3⟩
      obtain ⟨a, X, hL, rfl, rfl⟩ := args_drop hr.symm
      have hd' := (List.getElem?_eq_some_iff.mp hL).1
      have ha : h'.IsList a X := (hl d a X hL).at fun o e => z2 _ o e
      have it := fun {A : Around} {E} {Q} q => wpAny_pyIter_list (prog := prog) (w := w) (A := A) (E := E) (Q := Q) (s := ⟨h', g, dd, tk, os⟩) ha q
      wp_walk using it
      refine ⟨d + 1, _, rfl, ?_, rfl, hd', ?_, fun c o q => Heap.get?_push_of_some _ (z2 c o q), fun j b Y hj hb => ?_⟩
      · show (its hp.objs.size d).toArray.push (Value.ref h'.objs.size) = _
        rw [z1, List.push_toArray]
        unfold its
        rw [List.range_succ, List.map_append]
        rfl
      · show (h'.push _).objs.size = _
        rw [Heap.size_push, z1]
        omega
      · by_cases q : j = d
        · subst q
          rw [hL] at hb
          cases hb
          have e : (h'.push { cls := .type "list_iterator", data := .fields #[.ref a, .int 0 0] }).get? h'.objs.size = some { cls := .type "list_iterator", data := .fields #[.ref a, .int 0 0] } := Heap.get?_push_size _ rfl
          rw [z1] at e
          exact ⟨_, e, rfl, rfl⟩
        · exact (z3 j b Y (by omega) hb).at fun o e => Heap.get?_push_of_some _ e
    rintro b s' ⟨d, h', hr, rfl, rfl, hd, z1, z2, z3⟩
    have hdn : d = L.length := by
      have := congrArg List.length hr
      simp [args] at this
      omega
    subst hdn
    have len : (its hp.objs.size L.length).length ≤ sizeLine := by
      rw [show (its hp.objs.size L.length).length = L.length by simp [its]]
      exact Nat.le_trans nb (by decide)
    have t1 := fun {A : Around} {E} {Q} q => wpAny_newTuple (M := model prog w) (A := A) (E := E) (items := its hp.objs.size L.length) (s := ⟨h', g, dd, tk, os⟩) (Q := Q) q len
    have t2 := fun {A : Around} {E} {Q} h q => wpAny_newTuple (M := model prog w) (A := A) (E := E) (items := (its hp.objs.size L.length).map fun _ => Value.none) (s := ⟨h, g, dd, tk, os⟩) (Q := Q) q (by rw [List.length_map]; exact len)
    wp_walk using t1, t2
    refine ⟨_, rfl, ?_⟩
    have g1 : (h'.push (tup (its hp.objs.size L.length))).objs.size = hp.objs.size + L.length + 1 := by rw [Heap.size_push, z1]
    have g2 : ((h'.push (tup (its hp.objs.size L.length))).push (tup ((its hp.objs.size L.length).map fun _ => Value.none))).objs.size = hp.objs.size + L.length + 2 := by rw [Heap.size_push, g1]
    let o3 : Obj := { cls := .type "zip", data := .fields #[.none, .bool false, .bool false, .ref h'.objs.size, .ref (h'.push (tup (its hp.objs.size L.length))).objs.size] }
    let G := ((h'.push (tup (its hp.objs.size L.length))).push (tup ((its hp.objs.size L.length).map fun _ => Value.none))).push o3
    have q3 : G.get? (hp.objs.size + L.length + 2) = some o3 := by rw [← g2]; exact Heap.get?_push_size _ rfl
    have q2 : Tu G (hp.objs.size + L.length + 1) ((its hp.objs.size L.length).map fun _ => Value.none) := by
      rw [← g1]
      exact Heap.get?_push_of_some _ (Heap.get?_push_size _ rfl)
    have q1 : Tu G (hp.objs.size + L.length) (its hp.objs.size L.length) := by
      rw [← z1]
      exact Heap.get?_push_of_some _ (Heap.get?_push_of_some _ (Heap.get?_push_size _ rfl))
    have up : ∀ (c : Nat) o, h'.get? c = some o → G.get? c = some o := fun c o q => Heap.get?_push_of_some _ (Heap.get?_push_of_some _ (Heap.get?_push_of_some _ q))
    have qz : IsZip G (hp.objs.size + L.length + 2) (hp.objs.size + L.length) (hp.objs.size + L.length + 1) .none := by
      rw [← g1, ← z1]
      rw [← z1] at q3
      exact q3
    have k' := k G ⟨fun j a X hj => ?_, q1, .inl ⟨rfl, qz, _, by simp [its], q2⟩⟩ ?_ fun c o q => up c o (z2 c o q)
    · rw [← g2] at k'
      exact k'
    · have hj' := (List.getElem?_eq_some_iff.mp hj).1
      rw [if_neg (Nat.not_lt_zero _)]
      exact ⟨(z3 j a X hj' hj).at fun o e => up _ o e, (hl j a X hj).at fun o e => up _ o (z2 _ o e)⟩
    · show (Heap.push _ o3).objs.size = _
      rw [Heap.size_push, g2]
/-- list(zip(..)): the arguments' lists L, none of them shorter than the first -/
theorem listZip {Q : Value → Shared → Prop} {m : Nat} (hh : A.handled = none) (nb : L.length ≤ 1000) {a0 : Nat} {X0 : Array Value} (hL : L[0]? = some (a0, X0)) (hm : X0.size = m) (m0 : 0 < m) (mb : m ≤ sizeLine)
    (hX : ∀ (j a : Nat) X, L[j]? = some (a, X) → s.heap.IsList a X ∧ m ≤ X.size) (c1 : checkTypeCall "zip" ⟨args L, []⟩ = pure ()) (c2 : checkBuiltinCall "zip.__new__" ⟨.type "zip" :: args L, []⟩ = pure ()) (c3 : ∀ o, argsOk "object.__init__" ⟨o :: args L, []⟩)
    (k : ∀ h', (∃ c, h'.get? (s.heap.objs.size + L.length + 3) = some { cls := .type "list", data := .seq (refs (s.heap.objs.size + L.length + 3) m).toArray c }) → (∀ j, j < m → Tu h' (s.heap.objs.size + L.length + 4 + j) (got L j L.length)) →
      (∀ (c : Nat) o, s.heap.get? c = some o → h'.get? c = some o) → Q (.ref (s.heap.objs.size + L.length + 3)) { s with heap := h' }) :
    wpAny (model prog w) A (call (.type "zip") (args L)) (fun v s' => wpAny (model prog w) A (call (.type "list") [v]) Q E s') E s := by
  have n0 := (List.getElem?_eq_some_iff.mp hL).1
  refine callType_new PySem.F.called_zip (by decide) c1 c2 c3 PySem.F.entry_zip_new (new_meets L nb) ⟨fun j a X hj => (hX j a X hj).1, fun h1 at1 z1 up => ⟨?_, ?_⟩⟩
  · rcases at1.2.2 with ⟨_, y, _⟩ | ⟨y, _⟩
    · exact ⟨_, y, rfl⟩
    · exact absurd y (Nat.lt_irrefl _)
  · refine listOf (s := { s with heap := h1 }) hh (fun j a X hj => ?_) rfl n0 nb hL hm m0 mb (fun j a X hj => (hX j a X hj).2) z1 at1 fun h' D => ?_
    · obtain ⟨o, ho, _⟩ := (hX j a X hj).1
      exact Heap.lt_size ho
    · obtain ⟨D1, D2, D3⟩ := D
      have z1' : ({ s with heap := h1 } : Shared).heap.objs.size = s.heap.objs.size + L.length + 3 := z1
      rw [z1'] at D1 D2 D3 ⊢
      refine k h' D1 D2 fun c o q => ?_
      have hc : (c : Nat) < s.heap.objs.size := Heap.lt_size q
      exact D3 c o (by omega) (.inl hc) (up c o q)
end
end Zn
namespace Bf
open PySem PySem.Spec PyProof.Rows L2
open Evl
/-! ### list(zip(..)) as the layer sees it -/
/-- a new list of new tuples: their items stand in the lists -/
def Tups (H H' : Hp) (p : Addr) (n : Nat) (row : Nat → Option (List V)) : Prop := Ex H H' ∧ H p = none ∧ ∃ ts : List Addr, ts.length = n ∧ p ∉ ts ∧ (∀ t ∈ ts, H t = none) ∧ H' p = some (.lst (ts.map V.ref)) ∧ ∀ (j : Nat) (t : Addr), ts[j]? = some t → ∃ r, row j = some r ∧ H' t = some (.tup r)
/-- the list at p, its tuples right behind it -/
def rowsAt (H : Hp) (p m : Nat) (rs : Nat → List V) : Nat → Option HO := fun b => if b = p then some (.lst ((List.range m).map fun j => V.ref (p + 1 + j))) else if p < b ∧ b ≤ p + m then some (.tup (rs (b - p - 1))) else H b
theorem rowsAt_off {H : Hp} {p m : Nat} {rs : Nat → List V} {b : Nat} (h : b < p) : rowsAt H p m rs b = H b := by
  unfold rowsAt
  rw [if_neg (by omega), if_neg (by omega)]
theorem vals_refs (p : Nat) : ∀ l : List Nat, Vals (l.map fun j => V.ref (p + 1 + j)) (l.map fun j => Value.ref (p + 1 + j))
  | [] => .nil
  | _ :: l => .cons rfl (vals_refs p l)
section
variable {X : Cx} {K : PySem.W.Frag} {pins : List (Addr × Obj)} {σ : L2.St} {H : Hp} {s : Shared}
theorem rows_inv {h' : Heap} {p m w : Nat} {rs : Nat → List V} {rv : Nat → List Value} (I : Inv X pins σ H s) (hp : s.heap.objs.size ≤ p) (hm : m ≤ sizeLine) (hw : w ≤ 1000) (hl : ∃ c, h'.get? p = some { cls := .type "list", data := .seq (Zn.refs p m).toArray c })
    (ht : ∀ j, j < m → Zn.Tu h' (p + 1 + j) (rv j)) (hr : ∀ j, j < m → (rs j).length = w ∧ Vals (rs j) (rv j)) (hk : ∀ (c : Nat) o, s.heap.get? c = some o → h'.get? c = some o) : Inv X pins σ (rowsAt H p m rs : Hp) { s with heap := h' } := by
  have old : ∀ b u, H b = some u → rowsAt H p m rs b = H b := fun b u e => rowsAt_off (Nat.lt_of_lt_of_le (I.hok.lt e) hp)
  have low : ∀ (b : Nat) o, s.heap.get? b = some o → rowsAt H p m rs b = H b := fun b o e => rowsAt_off (Nat.lt_of_lt_of_le (Heap.lt_size e) hp)
  have un : Un (frs X.stack) [] H (rowsAt H p m rs) s.heap h' :=
    { keep := fun b o q _ _ _ => hk b o q
      slot := fun b o q _ _ _ => ⟨o.slots, hk b o q⟩
      free := fun b o q z _ => (low b o q).trans z
      there := fun b o q _ => ⟨o, hk b o q⟩
      tups := fun b xs q => (old b _ q).trans q
      frzs := fun b o u q => (old b _ q).trans q
      tbls := fun b ps q => ⟨#[], by rw [old b _ q, q, Array.append_empty]⟩ }
  have ok : HOk X.prog X.w (rowsAt H p m rs) h' := by
    intro (b : Nat) u q
    by_cases h1 : b = p
    · subst h1
      unfold rowsAt at q
      rw [if_pos rfl] at q
      cases q
      obtain ⟨c, e⟩ := hl
      refine ⟨by rw [List.length_map, List.length_range]; exact hm, Zn.refs b m, c, vals_refs b _, e⟩
    · by_cases h2 : p < b ∧ b ≤ p + m
      · unfold rowsAt at q
        rw [if_neg h1, if_pos h2] at q
        cases q
        obtain ⟨r1, r2⟩ := hr (b - p - 1) (by omega)
        refine ⟨by rw [r1]; exact Nat.le_trans hw (by decide), rv (b - p - 1), r2, ?_⟩
        have e := ht (b - p - 1) (by omega)
        rw [show p + 1 + (b - p - 1) = b by omega] at e
        exact ⟨_, e, rfl, _, rfl⟩
      · have q' : H b = some u := by
          unfold rowsAt at q
          rw [if_neg h1, if_neg h2] at q
          exact q
        exact (I.hok b u q').stay (fun c o _ e => hk c o e) (fun c e => (old c _ e).trans e) fun c xs e => (old c _ e).trans e
  exact I.call' (ch := []) rfl un ok I.bare fun b z => absurd z (List.not_mem_nil)
theorem rows_tups {p m : Nat} {rs : Nat → List V} (hp : s.heap.objs.size ≤ p) (I : Inv X pins σ H s) : Tups H (rowsAt H p m rs) p m fun j => some (rs j) := by
  refine ⟨fun b u e => (rowsAt_off (Nat.lt_of_lt_of_le (I.hok.lt e) hp)).trans e, I.hok.fresh hp, (List.range m).map fun j => p + 1 + j, by simp, ?_, ?_, ?_, fun j t hj => ?_⟩
  · intro z
    obtain ⟨j, _, e⟩ := List.mem_map.mp z
    have e' : p + 1 + j = p := e
    omega
  · intro t z
    obtain ⟨j, _, rfl⟩ := List.mem_map.mp z
    exact I.hok.fresh (show s.heap.objs.size ≤ p + 1 + j by omega)
  · unfold rowsAt
    rw [if_pos rfl, List.map_map]
    rfl
  · rw [List.getElem?_map] at hj
    by_cases hjm : j < m
    · rw [List.getElem?_range hjm] at hj
      cases hj
      refine ⟨_, rfl, ?_⟩
      show rowsAt H p m rs (p + 1 + j) = _
      unfold rowsAt
      rw [if_neg (by omega), if_pos (by omega), show p + 1 + j - p - 1 = j by omega]
    · rw [List.getElem?_eq_none (by rw [List.length_range]; omega)] at hj
      cases hj
end
/-- the items side by side at j -/
def rowM (M : List (Addr × List V)) (j : Nat) : List V := M.map fun p => p.2.getD j .non
def zipN (K : PySem.W.Frag) (n : Nat) (vs : List V) (H1 : Hp) (Q : VK) : Prop := ∃ (M : List (Addr × List V)) (m : Nat), vs = M.map (fun p => V.ref p.1) ∧ M.length = n ∧ 0 < m ∧ (∀ (j : Nat) a xs, M[j]? = some (a, xs) → SqL K H1 a xs ∧ m ≤ xs.length ∧ (j = 0 → xs.length = m)) ∧
  ∀ H' p, Tups H1 H' p m (fun j => some (rowM M j)) → Q (.ref p) H'
/-- what zip asks of its arguments is asked of their number alone -/
def ZipArgs (n : Nat) : Prop := ∀ us : List Value, us.length = n → checkTypeCall "zip" ⟨us, []⟩ = pure () ∧ checkBuiltinCall "zip.__new__" ⟨.type "zip" :: us, []⟩ = pure () ∧ ∀ o, argsOk "object.__init__" ⟨o :: us, []⟩
theorem args3 : ZipArgs 3
  | [a, b, c], _ => ⟨PySem.F.typeCall_zip_3 a b c, PySem.F.newCall_zip_3 a b c, fun o => PySem.F.args_object_init_4 o a b c⟩
theorem args4 : ZipArgs 4
  | [a, b, c, d], _ => ⟨by kernel_rfl, by kernel_rfl, fun o => by unfold argsOk; kernel_rfl⟩
section
variable {X : Cx} {K : PySem.W.Frag} {pins : List (Addr × Obj)} {σ : L2.St} {H : Hp} {s : Shared}
/-- the lists of the program, as the heap holds them -/
theorem lists_of (I : Inv X pins σ H s) : ∀ M : List (Addr × List V), (∀ (j : Nat) a xs, M[j]? = some (a, xs) → SqL X.K H a xs) →
    ∃ L : Zn.Lists, L.length = M.length ∧ L.map (·.1) = M.map (·.1) ∧ ∀ (j a : Nat) xs, M[j]? = some (a, xs) → ∃ its : List Value, L[j]? = some (a, its.toArray) ∧ Vals xs its ∧ s.heap.IsList a its.toArray ∧ xs.length ≤ sizeLine
  | [], _ => ⟨[], rfl, rfl, fun j a xs h => by simp at h⟩
  | (a, xs) :: M, h => by
    obtain ⟨L, l1, l2, l3⟩ := lists_of I M fun j b ys e => h (j + 1) b ys e
    obtain ⟨its, r, p, z⟩ := I.list (h 0 a xs rfl)
    refine ⟨(a, its.toArray) :: L, by rw [List.length_cons, List.length_cons, l1], by rw [List.map_cons, List.map_cons, l2], fun j b ys e => ?_⟩
    cases j with
    | zero =>
      cases e
      exact ⟨its, rfl, r, p.isList, z⟩
    | succ j => exact l3 j b ys e
theorem vals_list : ∀ (M : List (Addr × List V)) (L : Zn.Lists), L.length = M.length → ∀ i, (∀ (j a : Nat) xs, M[j]? = some (a, xs) → ∃ its : List Value, L[j]? = some (a, its.toArray) ∧ Vals xs its ∧ i < xs.length) → Vals (rowM M i) (Zn.got L i L.length)
  | [], [], _, _, _ => .nil
  | (a, xs) :: M, (b, Y) :: L, hl, i, h => by
    obtain ⟨its, e, r, hi⟩ := h 0 a xs rfl
    cases e
    obtain ⟨u, g1, g2⟩ := r.get (List.getElem?_eq_getElem hi)
    have t := vals_list M L (Nat.succ.inj hl) i fun j c ys e => h (j + 1) c ys e
    refine .cons ?_ (by simpa [Zn.got, rowM] using t)
    show L2.RelV (xs.getD i .non) (its.toArray.getD i .none)
    rw [List.getD_eq_getElem?_getD, List.getElem?_eq_getElem hi, Array.getD_eq_getD_getElem?, List.getElem?_toArray, g1]
    exact g2
theorem refs_vals : ∀ (M : List (Addr × List V)) (us : List Value), Vals (M.map fun p => V.ref p.1) us → us = M.map fun p => Value.ref p.1
  | [], [], _ => rfl
  | p :: M, u :: us, .cons r t => by
    have e : u = Value.ref p.1 := r
    rw [refs_vals M us t, e, List.map_cons]
theorem pe_listZipN {n : Nat} {e : Expr} {es : List Expr} {ta : TA} {p p2 pos pos2 : Pos} (hc : X.calm = true) (hg : Gl X "list") (hm : X.mg "list" = none) (hg2 : Gl X "zip") (hm2 : X.mg "zip" = none) (ha : PA X (e :: es) ta) (za : ZipArgs n) (n0 : 0 < n) (nb : n ≤ 1000) {P : List V → Hp → VK → Prop} (hP : ∀ vs H1 Q, P vs H1 Q → zipN K n vs H1 Q) (hK : X.K = K)
    (na : starEach [.Call (.Name "zip" p2) (e :: es) [] pos2] X.env = (false, eval (.Call (.Name "zip" p2) (e :: es) [] pos2) X.env) :: starEach [] X.env)
    (hs : starEach (e :: es) X.env = (false, eval e X.env) :: starEach es X.env) (hpl : (backTo pos2 (starEach es X.env)).any (·.1) = false) :
    PE X (.Call (.Name "list" p) [.Call (.Name "zip" p2) (e :: es) [] pos2] [] pos) (fun σ H Q => ta σ H fun vs H1 => P vs H1 Q) := by
  subst hK
  constructor
  intro pins s σ H Q I h
  have inner : ∀ (us : List Value) s1, (∃ vs H1, Inv X pins σ H1 s1 ∧ Vals vs us ∧ P vs H1 Q) → wpAny (model X.prog X.w) X.A (call (.type "zip") us) (fun v s' => wpAny (model X.prog X.w) X.A (call (.type "list") [v]) (EP X pins σ Q) X.xe s') X.xe s1 := by
    rintro us s1 ⟨vs, H1, I1, r, z⟩
    obtain ⟨M, m, rfl, ml, m0, hM, q⟩ := hP vs H1 Q z
    obtain ⟨L, l1, l2, l3⟩ := lists_of I1 M fun j a xs e => (hM j a xs e).1
    have len : L.length = n := l1.trans ml
    have eu : us = Zn.args L := by
      rw [refs_vals _ _ r, show Zn.args L = (L.map (·.1)).map Value.ref by simp [Zn.args], l2]
      simp
    subst eu
    obtain ⟨c1, c2, c3⟩ := za (Zn.args L) (by simp [Zn.args, len])
    have back : ∀ (j a : Nat) Y, L[j]? = some (a, Y) → ∃ (xs : List V) (its : List Value), M[j]? = some (a, xs) ∧ Y = its.toArray ∧ Vals xs its ∧ s1.heap.IsList a its.toArray := fun j a Y hj => by
      have hj' := (List.getElem?_eq_some_iff.mp hj).1
      obtain ⟨its, g1, g2, g3, _⟩ := l3 j M[j].1 M[j].2 (List.getElem?_eq_getElem (by omega))
      rw [hj] at g1
      cases g1
      exact ⟨_, its, List.getElem?_eq_getElem (by omega), rfl, g2, g3⟩
    obtain ⟨⟨a0, X0⟩, h0⟩ : ∃ p, L[0]? = some p := ⟨_, List.getElem?_eq_getElem (by rw [len]; exact n0)⟩
    obtain ⟨xs0, its0, e0, rfl, v0, _⟩ := back 0 a0 X0 h0
    have mb : m ≤ sizeLine := by
      obtain ⟨_, _, _, _, z⟩ := l3 0 a0 xs0 e0
      rw [← (hM 0 a0 xs0 e0).2.2 rfl]
      exact z
    refine Zn.listZip (m := m) (I1.ok.hd hc) (by omega) h0 ?_ m0 mb (fun j a Y hj => ?_) c1 c2 c3 fun h' k1 k2 k3 => ?_
    · rw [List.size_toArray, ← v0.length]
      exact (hM 0 a0 xs0 e0).2.2 rfl
    · obtain ⟨xs, its, f1, rfl, f2, f3⟩ := back j a Y hj
      refine ⟨f3, ?_⟩
      rw [List.size_toArray, ← f2.length]
      exact (hM j a xs f1).2.1
    · have hp : s1.heap.objs.size ≤ s1.heap.objs.size + L.length + 3 := by omega
      have J := rows_inv (p := s1.heap.objs.size + L.length + 3) (m := m) (w := n) (rs := rowM M) (rv := fun j => Zn.got L j L.length) I1 hp mb nb k1 k2 (fun j hj => ⟨by simp [rowM, ml], vals_list M L l1 j fun c a xs e => ?_⟩) k3
      · exact ⟨.ref _, _, J, rfl, q _ _ (rows_tups hp I1)⟩
      · obtain ⟨its, g1, g2, _, _⟩ := l3 c a xs e
        exact ⟨its, g1, g2, Nat.lt_of_lt_of_le hj (hM c a xs e).2.1⟩
  refine Call_ ?_
  refine ld_blt I hg hm boot_list ?_
  refine PyProof.Rows.callWith_type1 (args_cons ?_ na) na
  refine Call_ ?_
  refine ld_blt I hg2 hm2 PyProof.Rows.boot_zip ?_
  refine PyProof.Rows.callWith_type1 (thn (ha.run pos2 pins s σ H _ I h) fun us s1 ⟨vs, H1, I1, r1, q1⟩ => ?_) hs hpl
  exact wpAny_mono (inner us s1 ⟨vs, H1, I1, r1, q1⟩) (fun v s2 z => args_nil z) fun _ _ z => z
end
/-! ### of three lists, of four -/
def row3V (xs ys zs : List V) (j : Nat) : Option (List V) := (xs[j]?).bind fun x => (ys[j]?).bind fun y => (zs[j]?).bind fun z => some [x, y, z]
def row4V (xs ys zs us : List V) (j : Nat) : Option (List V) := (xs[j]?).bind fun x => (ys[j]?).bind fun y => (zs[j]?).bind fun z => (us[j]?).bind fun u => some [x, y, z, u]
def tListZip3 (K : PySem.W.Frag) (ta : TA) : TE := fun σ H Q => ta σ H fun vs H1 => ∃ (a b c : Addr) (xs ys zs : List V), vs = [.ref a, .ref b, .ref c] ∧ SqL K H1 a xs ∧ SqL K H1 b ys ∧ SqL K H1 c zs ∧ 0 < xs.length ∧ xs.length ≤ ys.length ∧ xs.length ≤ zs.length ∧
  ∀ H' p, Tups H1 H' p xs.length (row3V xs ys zs) → Q (.ref p) H'
def tListZip4 (K : PySem.W.Frag) (ta : TA) : TE := fun σ H Q => ta σ H fun vs H1 => ∃ (a b c d : Addr) (xs ys zs us : List V), vs = [.ref a, .ref b, .ref c, .ref d] ∧ SqL K H1 a xs ∧ SqL K H1 b ys ∧ SqL K H1 c zs ∧ SqL K H1 d us ∧ 0 < xs.length ∧ xs.length ≤ ys.length ∧ xs.length ≤ zs.length ∧ xs.length ≤ us.length ∧
  ∀ H' p, Tups H1 H' p xs.length (row4V xs ys zs us) → Q (.ref p) H'
theorem Tups.rows {H H' : Hp} {p : Addr} {n : Nat} {f g : Nat → Option (List V)} (t : Tups H H' p n f) (e : ∀ j, j < n → f j = g j) : Tups H H' p n g := by
  obtain ⟨t1, t2, ts, t3, t4, t5, t6, t7⟩ := t
  refine ⟨t1, t2, ts, t3, t4, t5, t6, fun j b hj => ?_⟩
  rw [← e j (t3 ▸ (List.getElem?_eq_some_iff.mp hj).1)]
  exact t7 j b hj
theorem at_ok {xs : List V} {j : Nat} (h : j < xs.length) : xs[j]? = some (xs.getD j .non) := by
  rw [List.getD_eq_getElem?_getD, List.getElem?_eq_getElem h]
  rfl
section
variable {X : Cx} {K : PySem.W.Frag}
theorem pe_listZip3 {e1 e2 e3 : Expr} {ta : TA} {p p2 pos pos2 : Pos} (hc : X.calm = true) (hg : Gl X "list") (hm : X.mg "list" = none) (hg2 : Gl X "zip") (hm2 : X.mg "zip" = none) (ha : PA X [e1, e2, e3] ta) (hK : X.K = K := by rfl)
    (na : starEach [.Call (.Name "zip" p2) [e1, e2, e3] [] pos2] X.env = (false, eval (.Call (.Name "zip" p2) [e1, e2, e3] [] pos2) X.env) :: starEach [] X.env := by rfl)
    (hs : starEach [e1, e2, e3] X.env = (false, eval e1 X.env) :: starEach [e2, e3] X.env := by rfl) (hpl : (backTo pos2 (starEach [e2, e3] X.env)).any (·.1) = false := by rfl) :
    PE X (.Call (.Name "list" p) [.Call (.Name "zip" p2) [e1, e2, e3] [] pos2] [] pos) (tListZip3 K ta) := by
  refine pe_listZipN hc hg hm hg2 hm2 ha args3 (by decide) (by decide) ?_ hK na hs hpl
  rintro _ H1 Q ⟨a, b, c, xs, ys, zs, rfl, h1, h2, h3, z0, z2, z3, q⟩
  refine ⟨[(a, xs), (b, ys), (c, zs)], xs.length, rfl, rfl, z0, fun j d us hj => ?_, fun H' r t => q H' r (t.rows fun j hj => ?_)⟩
  · match j, hj with
    | 0, rfl => exact ⟨h1, Nat.le_refl _, fun _ => rfl⟩
    | 1, rfl => exact ⟨h2, z2, fun z => nomatch z⟩
    | 2, rfl => exact ⟨h3, z3, fun z => nomatch z⟩
  · unfold row3V
    rw [at_ok hj, at_ok (show j < ys.length by omega), at_ok (show j < zs.length by omega)]
    rfl
theorem pe_listZip4 {e1 e2 e3 e4 : Expr} {ta : TA} {p p2 pos pos2 : Pos} (hc : X.calm = true) (hg : Gl X "list") (hm : X.mg "list" = none) (hg2 : Gl X "zip") (hm2 : X.mg "zip" = none) (ha : PA X [e1, e2, e3, e4] ta) (hK : X.K = K := by rfl)
    (na : starEach [.Call (.Name "zip" p2) [e1, e2, e3, e4] [] pos2] X.env = (false, eval (.Call (.Name "zip" p2) [e1, e2, e3, e4] [] pos2) X.env) :: starEach [] X.env := by rfl)
    (hs : starEach [e1, e2, e3, e4] X.env = (false, eval e1 X.env) :: starEach [e2, e3, e4] X.env := by rfl) (hpl : (backTo pos2 (starEach [e2, e3, e4] X.env)).any (·.1) = false := by rfl) :
    PE X (.Call (.Name "list" p) [.Call (.Name "zip" p2) [e1, e2, e3, e4] [] pos2] [] pos) (tListZip4 K ta) := by
  refine pe_listZipN hc hg hm hg2 hm2 ha args4 (by decide) (by decide) ?_ hK na hs hpl
  rintro _ H1 Q ⟨a, b, c, d, xs, ys, zs, us, rfl, h1, h2, h3, h4, z0, z2, z3, z4, q⟩
  refine ⟨[(a, xs), (b, ys), (c, zs), (d, us)], xs.length, rfl, rfl, z0, fun j f ws hj => ?_, fun H' r t => q H' r (t.rows fun j hj => ?_)⟩
  · match j, hj with
    | 0, rfl => exact ⟨h1, Nat.le_refl _, fun _ => rfl⟩
    | 1, rfl => exact ⟨h2, z2, fun z => nomatch z⟩
    | 2, rfl => exact ⟨h3, z3, fun z => nomatch z⟩
    | 3, rfl => exact ⟨h4, z4, fun z => nomatch z⟩
  · unfold row4V
    rw [at_ok hj, at_ok (show j < ys.length by omega), at_ok (show j < zs.length by omega), at_ok (show j < us.length by omega)]
    rfl
end
end Bf
namespace Bf
open PySem PySem.Spec PyProof.Rows L2
open Evl
def tripR {α β γ : Type} (A : Rep α) (B : Rep β) (C : Rep γ) : Rep (α × β × γ) := ⟨fun H v a => ∃ t x y z, v = .ref t ∧ H t = some (.tup [x, y, z]) ∧ A.at_ H x a.1 ∧ B.at_ H y a.2.1 ∧ C.at_ H z a.2.2,
  fun e ⟨t, x, y, z, h1, h2, h3, h4, h5⟩ => ⟨t, x, y, z, h1, e _ _ h2, A.mono e h3, B.mono e h4, C.mono e h5⟩⟩
def quadR {α β γ δ : Type} (A : Rep α) (B : Rep β) (C : Rep γ) (E : Rep δ) : Rep (α × β × γ × δ) := ⟨fun H v a => ∃ t x y z u, v = .ref t ∧ H t = some (.tup [x, y, z, u]) ∧ A.at_ H x a.1 ∧ B.at_ H y a.2.1 ∧ C.at_ H z a.2.2.1 ∧ E.at_ H u a.2.2.2,
  fun e ⟨t, x, y, z, u, h1, h2, h3, h4, h5, h6⟩ => ⟨t, x, y, z, u, h1, e _ _ h2, A.mono e h3, B.mono e h4, C.mono e h5, E.mono e h6⟩⟩
section
variable {K : PySem.W.Frag} {σ : L2.St} {H H' : Hp} {ta tb te tl : TE} {tA : TA} {x y z v : V} {α β γ δ : Type} {R : Rep α} {S : Rep β} {T : Rep γ} {U : Rep δ} {D : Ends} {tu tz : TS} {g : TG}
theorem zip_at {l : List α} {m : List β} {j : Nat} {a : α × β} (h : (l.zip m)[j]? = some a) : l[j]? = some a.1 ∧ m[j]? = some a.2 := List.getElem?_zip_eq_some.mp h
theorem er_zip3 {l : List α} {m : List β} {n : List γ} (h0 : 0 < l.length) (hm : l.length ≤ m.length) (hn : l.length ≤ n.length)
    (h : EvC tA σ H fun vs H2 => ∃ x r, vs = x :: r ∧ (seqR K R).at_ H2 x l ∧ ∃ y s, r = y :: s ∧ (seqR K S).at_ H2 y m ∧ ∃ z t, s = z :: t ∧ (seqR K T).at_ H2 z n ∧ t = []) : EvR (lstR (tripR R S T)) (tListZip3 K tA) σ H (l.zip (m.zip n)) := fun H1 e Q q =>
  h H1 e _ fun vs H2 e2 hv => by
    obtain ⟨_, _, rfl, ⟨a, xs, rfl, ha, hx⟩, _, _, rfl, ⟨b, ys, rfl, hb, hy⟩, _, _, rfl, ⟨c, zs, rfl, hc, hz⟩, rfl⟩ := hv
    refine ⟨a, b, c, xs, ys, zs, rfl, ha, hb, hc, by rw [hx.1]; exact h0, by rw [hx.1, hy.1]; exact hm, by rw [hx.1, hz.1]; exact hn, fun H3 p ht => ?_⟩
    obtain ⟨e3, hp, ts, htl, _, _, hts, hrow⟩ := ht
    refine q _ H3 (e2.trans e3) ⟨p, ts.map V.ref, rfl, hts, ?_, fun i t hi => ?_⟩
    · rw [List.length_map, htl, hx.1, List.length_zip, List.length_zip]
      omega
    · obtain ⟨h1, h2⟩ := zip_at hi
      obtain ⟨h3, h4⟩ := zip_at h2
      obtain ⟨x, hx1, hx2⟩ := hx.2 i _ h1
      obtain ⟨y, hy1, hy2⟩ := hy.2 i _ h3
      obtain ⟨z, hz1, hz2⟩ := hz.2 i _ h4
      have hil : i < ts.length := by
        rw [htl]
        exact (List.getElem?_eq_some_iff.mp hx1).1
      obtain ⟨r, hr1, hr2⟩ := hrow i _ (List.getElem?_eq_getElem hil)
      unfold row3V at hr1
      rw [hx1, hy1, hz1] at hr1
      obtain rfl := Option.some.inj hr1
      exact ⟨.ref ts[i], by rw [List.getElem?_map, List.getElem?_eq_getElem hil]; rfl, ts[i], x, y, z, rfl, hr2, R.mono e3 hx2, S.mono e3 hy2, T.mono e3 hz2⟩
theorem er_zip4 {l : List α} {m : List β} {n : List γ} {o : List δ} (h0 : 0 < l.length) (hm : l.length ≤ m.length) (hn : l.length ≤ n.length) (ho : l.length ≤ o.length)
    (h : EvC tA σ H fun vs H2 => ∃ x r, vs = x :: r ∧ (seqR K R).at_ H2 x l ∧ ∃ y s, r = y :: s ∧ (seqR K S).at_ H2 y m ∧ ∃ z t, s = z :: t ∧ (seqR K T).at_ H2 z n ∧ ∃ u t', t = u :: t' ∧ (seqR K U).at_ H2 u o ∧ t' = []) : EvR (lstR (quadR R S T U)) (tListZip4 K tA) σ H (l.zip (m.zip (n.zip o))) := fun H1 e Q q =>
  h H1 e _ fun vs H2 e2 hv => by
    obtain ⟨_, _, rfl, ⟨a, xs, rfl, ha, hx⟩, _, _, rfl, ⟨b, ys, rfl, hb, hy⟩, _, _, rfl, ⟨c, zs, rfl, hc, hz⟩, _, _, rfl, ⟨d, us, rfl, hd, hu⟩, rfl⟩ := hv
    refine ⟨a, b, c, d, xs, ys, zs, us, rfl, ha, hb, hc, hd, by rw [hx.1]; exact h0, by rw [hx.1, hy.1]; exact hm, by rw [hx.1, hz.1]; exact hn, by rw [hx.1, hu.1]; exact ho, fun H3 p ht => ?_⟩
    obtain ⟨e3, hp, ts, htl, _, _, hts, hrow⟩ := ht
    refine q _ H3 (e2.trans e3) ⟨p, ts.map V.ref, rfl, hts, ?_, fun i t hi => ?_⟩
    · rw [List.length_map, htl, hx.1, List.length_zip, List.length_zip, List.length_zip]
      omega
    · obtain ⟨h1, h2⟩ := zip_at hi
      obtain ⟨h3, h4⟩ := zip_at h2
      obtain ⟨h5, h6⟩ := zip_at h4
      obtain ⟨x, hx1, hx2⟩ := hx.2 i _ h1
      obtain ⟨y, hy1, hy2⟩ := hy.2 i _ h3
      obtain ⟨z, hz1, hz2⟩ := hz.2 i _ h5
      obtain ⟨u, hu1, hu2⟩ := hu.2 i _ h6
      have hil : i < ts.length := by
        rw [htl]
        exact (List.getElem?_eq_some_iff.mp hx1).1
      obtain ⟨r, hr1, hr2⟩ := hrow i _ (List.getElem?_eq_getElem hil)
      unfold row4V at hr1
      rw [hx1, hy1, hz1, hu1] at hr1
      obtain rfl := Option.some.inj hr1
      exact ⟨.ref ts[i], by rw [List.getElem?_map, List.getElem?_eq_getElem hil]; rfl, ts[i], x, y, z, u, rfl, hr2, R.mono e3 hx2, S.mono e3 hy2, T.mono e3 hz2, U.mono e3 hu2⟩
/-- for .. in reversed(a list that is read) -/
theorem s_forRevR {l : List α} (h : EvR (seqR K R) tl σ H l) (Pv : Nat → L2.St → Hp → Prop) (h0 : ∀ H1, Ex H H1 → Pv 0 σ H1)
    (hs : ∀ B i a v σ' H', Ex H B → Ex B H' → i < l.length → l[l.length - 1 - i]? = some a → R.at_ H' v a → Pv i σ' H' → g v σ' H' fun σ2 H2 => tu { D with nx := fun σ3 H3 => Ex B H3 ∧ Pv (i + 1) σ3 H3, ct := fun σ3 H3 => Ex B H3 ∧ Pv (i + 1) σ3 H3, bk := D.nx } σ2 H2)
    (hd : ∀ σ' H', Ex H H' → Pv l.length σ' H' → D.nx σ' H') : tFor (iRev K (tCons tl tNil)) g tu D σ H := by
  refine h H (Ex.refl H) _ fun w H1 e1 hw => ?_
  obtain ⟨p, xs, rfl, hp, hx⟩ := hw
  refine ⟨p, xs, rfl, hp, RT.for_Itv (xs := xs) (fun i σ' H' => Ex H1 H' ∧ Pv i σ' H') ⟨Ex.refl H1, h0 H1 e1⟩ (fun i σ' H' q => ex_l q.1 hp) (fun i x σ' H' hi hxi q => ?_) (fun σ' H' q => hd σ' H' (e1.trans q.1) (by rw [← hx.1]; exact q.2))⟩
  rw [hx.1] at hi hxi
  have hil : l.length - 1 - i < l.length := by omega
  obtain ⟨x', h1, h2⟩ := hx.2 _ _ (List.getElem?_eq_getElem hil)
  have ex : x = x' := Option.some.inj (hxi.symm.trans h1)
  subst ex
  exact hs H1 i _ x σ' H' e1 q.1 hi (List.getElem?_eq_getElem hil) (R.mono q.1 h2) q.2
theorem q_forRev3 {l : List (α × β × γ)} {i1 i2 i3 : Nat} (h : EvR (seqR K (tripR R S T)) tl σ H l) (Pv : Nat → L2.St → Hp → Prop) (h0 : ∀ H1, Ex H H1 → Pv 0 σ H1)
    (hs : ∀ B i a b c va vb vc σ' H', Ex H B → Ex B H' → i < l.length → l[l.length - 1 - i]? = some (a, b, c) → R.at_ H' va a → S.at_ H' vb b → T.at_ H' vc c → Pv i σ' H' → tu { D with nx := fun σ3 H3 => Ex B H3 ∧ Pv (i + 1) σ3 H3, ct := fun σ3 H3 => Ex B H3 ∧ Pv (i + 1) σ3 H3, bk := tz D } (((σ'.set i1 (some va)).set i2 (some vb)).set i3 (some vc)) H')
    (hd : ∀ σ' H', Ex H H' → Pv l.length σ' H' → tz D σ' H') : tSeq (tFor (iRev K (tCons tl tNil)) (gTup K 3 (gCons (gName i1) (gCons (gName i2) (gCons (gName i3) gNil)))) tu) tz D σ H :=
  s_forRevR (D := { D with nx := tz D }) h Pv h0 (fun B i a v σ' H' e1 e2 hi ha hv p => by
    obtain ⟨t, x, y, z, rfl, h1, h2, h3, h4⟩ := hv
    exact ⟨t, [x, y, z], rfl, st_of h1, rfl, x, [y, z], rfl, y, [z], rfl, z, [], rfl, rfl, hs B i a.1 a.2.1 a.2.2 x y z σ' H' e1 e2 hi ha h2 h3 h4 p⟩) hd
theorem q_forRev4 {l : List (α × β × γ × δ)} {i1 i2 i3 i4 : Nat} (h : EvR (seqR K (quadR R S T U)) tl σ H l) (Pv : Nat → L2.St → Hp → Prop) (h0 : ∀ H1, Ex H H1 → Pv 0 σ H1)
    (hs : ∀ B i a b c d va vb vc vd σ' H', Ex H B → Ex B H' → i < l.length → l[l.length - 1 - i]? = some (a, b, c, d) → R.at_ H' va a → S.at_ H' vb b → T.at_ H' vc c → U.at_ H' vd d → Pv i σ' H' → tu { D with nx := fun σ3 H3 => Ex B H3 ∧ Pv (i + 1) σ3 H3, ct := fun σ3 H3 => Ex B H3 ∧ Pv (i + 1) σ3 H3, bk := tz D } ((((σ'.set i1 (some va)).set i2 (some vb)).set i3 (some vc)).set i4 (some vd)) H')
    (hd : ∀ σ' H', Ex H H' → Pv l.length σ' H' → tz D σ' H') : tSeq (tFor (iRev K (tCons tl tNil)) (gTup K 4 (gCons (gName i1) (gCons (gName i2) (gCons (gName i3) (gCons (gName i4) gNil))))) tu) tz D σ H :=
  s_forRevR (D := { D with nx := tz D }) h Pv h0 (fun B i a v σ' H' e1 e2 hi ha hv p => by
    obtain ⟨t, x, y, z, u, rfl, h1, h2, h3, h4, h5⟩ := hv
    exact ⟨t, [x, y, z, u], rfl, st_of h1, rfl, x, [y, z, u], rfl, y, [z, u], rfl, z, [u], rfl, u, [], rfl, rfl, hs B i a.1 a.2.1 a.2.2.1 a.2.2.2 x y z u σ' H' e1 e2 hi ha h2 h3 h4 h5 p⟩) hd
end
/-! ### rods, digits, lists of numbers, side by side -/
def trio (F : List Nat → Nat → Nat → List Nat) (gs : List (List Nat)) (u a0 : Nat) : List (List Nat × Nat × List Nat) := gs.zip ((digs gs u).zip (rows F every gs u a0 gs.length))
theorem trio_len (F : List Nat → Nat → Nat → List Nat) (gs : List (List Nat)) (u a0 : Nat) : (trio F gs u a0).length = gs.length := by
  unfold trio
  rw [List.length_zip, List.length_zip, digs_len, rows_len]
  omega
theorem trio_at {F : List Nat → Nat → Nat → List Nat} {gs : List (List Nat)} {u a0 j d : Nat} {g r : List Nat} (h : (trio F gs u a0)[j]? = some (g, d, r)) : gs[j]? = some g ∧ d = dig gs u j g ∧ r = rowAt F every gs u a0 j := by
  obtain ⟨h1, h2⟩ := zip_at h
  obtain ⟨h3, h4⟩ := zip_at h2
  have hj := (List.getElem?_eq_some_iff.mp h1).1
  refine ⟨h1, ?_, ?_⟩
  · rw [digs_at _ _ _ _ h1] at h3
    exact (Option.some.inj h3).symm
  · rw [rows_at (Nat.le_of_lt hj)] at h4
    exact (Option.some.inj h4).symm
def quart (gs : List (List Nat)) (u : Nat) (st : List Nat) : List (List Nat × Nat × List Nat × List Nat) := gs.zip ((digs gs u).zip ((rows deckW every gs u 1 gs.length).zip (cut3 st)))
theorem quart_len {gs : List (List Nat)} (u : Nat) {st : List Nat} (h : st.length = 3 * gs.length) : (quart gs u st).length = gs.length := by
  unfold quart
  rw [List.length_zip, List.length_zip, List.length_zip, digs_len, rows_len, cut3_len]
  omega
theorem quart_at {gs : List (List Nat)} {u j d : Nat} {g r t st : List Nat} (h : (quart gs u st)[j]? = some (g, d, r, t)) : gs[j]? = some g ∧ d = dig gs u j g ∧ r = rowAt deckW every gs u 1 j ∧ (cut3 st)[j]? = some t := by
  obtain ⟨h1, h2⟩ := zip_at h
  obtain ⟨h3, h4⟩ := zip_at h2
  obtain ⟨h5, h6⟩ := zip_at h4
  have hj := (List.getElem?_eq_some_iff.mp h1).1
  refine ⟨h1, ?_, ?_, h6⟩
  · rw [digs_at _ _ _ _ h1] at h3
    exact (Option.some.inj h3).symm
  · rw [rows_at (Nat.le_of_lt hj)] at h5
    exact (Option.some.inj h5).symm
theorem units_le {gs : List (List Nat)} (h : AllPos gs) {u i x : Nat} (hx : valW gs u i x ≤ u) : x ≤ u := by
  have h1 := pos_prod _ (h.take i)
  have h2 := Nat.le_mul_of_pos_right x h1
  unfold valW at hx
  omega
/-- what is looked up: the ways of the rods to the right -/
theorem look_way {gs : List (List Nat)} (h : AllPos gs) {u m c w : Nat} (hm : m ≤ gs.length) : numAt (rowAt deckW every gs u 1 m) ((c : Int) - (w : Int)) 0 = cnt3F (isN w) (gs.take m) (u % prodR (gs.take m) + c * prodR (gs.take m)) := by
  rw [numAt_sub, arr_at h, rowW every_is h u m hm]
theorem look_few {gs : List (List Nat)} (h : AllPos gs) {u m c w : Nat} (hm : m ≤ gs.length) : numAt (rowAt deckF every gs u 0 m) ((c : Int) - (w : Int)) 2881 = enc (least3 (isL w) (gs.take m) (u % prodR (gs.take m) + c * prodR (gs.take m))) := by
  rw [numAt_sub, arrL_at h, rowF every_is h u m hm]
  split <;> rfl
theorem fit_enc {gs : List (List Nat)} (h : AllPos gs) (hg : AllGood gs) (hl : gs.length ≤ 64) {u m c b : Nat} {g p : List Nat} (hb : b ≤ 2880) : fitG (fun p => least3 (isL (Na.worthOf (D3 g) p)) (gs.take m) (u % prodR (gs.take m) + c * prodR (gs.take m))) b p = decide (Na.total p + enc (least3 (isL (Na.worthOf (D3 g) p)) (gs.take m) (u % prodR (gs.take m) + c * prodR (gs.take m))) = b) := by
  unfold fitG
  show decide (plusO (Na.total p) (least3 (isL (Na.worthOf (D3 g) p)) (gs.take m) (u % prodR (gs.take m) + c * prodR (gs.take m))) = some b) = _
  cases e : least3 (isL (Na.worthOf (D3 g) p)) (gs.take m) (u % prodR (gs.take m) + c * prodR (gs.take m)) with
  | none =>
    rw [enc_none]
    have h1 : ¬(plusO (Na.total p) none = some b) := fun z => by cases z
    rw [decide_eq_false h1, decide_eq_false (by omega)]
  | some y =>
    have hy : y ≤ 2880 := by
      rw [arrL_at h] at e
      split at e
      · exact few_le hg hl e
      · cases e
    rw [enc_some hy]
    refine decide_eq_decide.mpr ⟨fun z => Option.some.inj z, fun z => congrArg some z⟩
end Bf
namespace Bf
open PySem PySem.Spec PyProof.Rows L2
open Evl
open PySem.W (Codec)
def top (i : Nat) : Stmt := PySem.Challenge.pw_beadframes_s08_nth.main.body.getD i (.Pass ⟨0, 0, 0, 0⟩)
abbrev s_rods_of : Stmt := top 8
abbrev N_rods_of : List Str := ["make", "start"]
theorem sc_rods_of : FnScope N_rods_of ["make"] (defScope s_rods_of) := ⟨rfl, rfl, rfl, by decide +kernel, rfl, by decide +kernel, by decide +kernel⟩
abbrev s_decks_of : Stmt := top 9
abbrev N_decks_of : List Str := ["rod"]
theorem sc_decks_of : FnScope N_decks_of ["rod"] (defScope s_decks_of) := ⟨rfl, rfl, rfl, by decide +kernel, rfl, by decide +kernel, by decide +kernel⟩
abbrev s_worth_together : Stmt := top 10
abbrev N_worth_together : List Str := ["rod", "total", "beads", "worth"]
theorem sc_worth_together : FnScope N_worth_together ["rod"] (defScope s_worth_together) := ⟨rfl, rfl, rfl, by decide +kernel, rfl, by decide +kernel, by decide +kernel⟩
abbrev s_has_whole_rods : Stmt := top 11
abbrev N_has_whole_rods : List Str := ["make"]
theorem sc_has_whole_rods : FnScope N_has_whole_rods ["make"] (defScope s_has_whole_rods) := ⟨rfl, rfl, rfl, by decide +kernel, rfl, by decide +kernel, by decide +kernel⟩
abbrev s_deck_is_sound : Stmt := top 12
abbrev N_deck_is_sound : List Str := ["beads", "worth"]
theorem sc_deck_is_sound : FnScope N_deck_is_sound ["beads", "worth"] (defScope s_deck_is_sound) := ⟨rfl, rfl, rfl, by decide +kernel, rfl, by decide +kernel, by decide +kernel⟩
abbrev s_decks_are_in_turn : Stmt := top 13
abbrev N_decks_are_in_turn : List Str := ["rod", "decks"]
theorem sc_decks_are_in_turn : FnScope N_decks_are_in_turn ["rod"] (defScope s_decks_are_in_turn) := ⟨rfl, rfl, rfl, by decide +kernel, rfl, by decide +kernel, by decide +kernel⟩
abbrev s_numbers_are_sound : Stmt := top 14
abbrev N_numbers_are_sound : List Str := ["rod", "beads", "worth"]
theorem sc_numbers_are_sound : FnScope N_numbers_are_sound ["rod"] (defScope s_numbers_are_sound) := ⟨rfl, rfl, rfl, by decide +kernel, rfl, by decide +kernel, by decide +kernel⟩
abbrev s_pushable_counts : Stmt := top 15
abbrev N_pushable_counts : List Str := ["rod", "counts", "beads", "worth", "bead"]
theorem sc_pushable_counts : FnScope N_pushable_counts ["rod"] (defScope s_pushable_counts) := ⟨rfl, rfl, rfl, by decide +kernel, rfl, by decide +kernel, by decide +kernel⟩
abbrev s_each_digit_can_be_pushed : Stmt := top 16
abbrev N_each_digit_can_be_pushed : List Str := ["rod", "digits_below_ratio"]
theorem sc_each_digit_can_be_pushed : FnScope N_each_digit_can_be_pushed ["rod"] (defScope s_each_digit_can_be_pushed) := ⟨rfl, rfl, rfl, by decide +kernel, rfl, by decide +kernel, by decide +kernel⟩
abbrev s_broken_rule : Stmt := top 17
abbrev N_broken_rule : List Str := ["rod"]
theorem sc_broken_rule : FnScope N_broken_rule ["rod"] (defScope s_broken_rule) := ⟨rfl, rfl, rfl, by decide +kernel, rfl, by decide +kernel, by decide +kernel⟩
abbrev s_make_fault : Stmt := top 18
abbrev N_make_fault : List Str := ["make", "place", "rod", "rule"]
theorem sc_make_fault : FnScope N_make_fault ["make"] (defScope s_make_fault) := ⟨rfl, rfl, rfl, by decide +kernel, rfl, by decide +kernel, by decide +kernel⟩
abbrev s_product_of_ratios : Stmt := top 19
abbrev N_product_of_ratios : List Str := ["make", "product", "rod"]
theorem sc_product_of_ratios : FnScope N_product_of_ratios ["make"] (defScope s_product_of_ratios) := ⟨rfl, rfl, rfl, by decide +kernel, rfl, by decide +kernel, by decide +kernel⟩
abbrev s_count_of : Stmt := top 20
abbrev N_count_of : List Str := ["rod", "push", "count", "pushed", "deck"]
theorem sc_count_of : FnScope N_count_of ["rod", "push"] (defScope s_count_of) := ⟨rfl, rfl, rfl, by decide +kernel, rfl, by decide +kernel, by decide +kernel⟩
abbrev s_digits_of : Stmt := top 21
abbrev N_digits_of : List Str := ["value", "make", "digits", "left", "rod"]
theorem sc_digits_of : FnScope N_digits_of ["value", "make"] (defScope s_digits_of) := ⟨rfl, rfl, rfl, by decide +kernel, rfl, by decide +kernel, by decide +kernel⟩
abbrev s_pushes_in_order : Stmt := top 22
abbrev N_pushes_in_order : List Str := ["rod", "pushes", "first", "second", "third"]
theorem sc_pushes_in_order : FnScope N_pushes_in_order ["rod"] (defScope s_pushes_in_order) := ⟨rfl, rfl, rfl, by decide +kernel, rfl, by decide +kernel, by decide +kernel⟩
abbrev s_ways_with_deck : Stmt := top 23
abbrev N_ways_with_deck : List Str := ["ways", "deck", "worth", "one_too_many", "reached", "count"]
theorem sc_ways_with_deck : FnScope N_ways_with_deck ["ways", "deck"] (defScope s_ways_with_deck) := ⟨rfl, rfl, rfl, by decide +kernel, rfl, by decide +kernel, by decide +kernel⟩
abbrev s_carried_numbers : Stmt := top 24
abbrev N_carried_numbers : List Str := ["value", "make", "nothing", "with_deck", "carried", "rod", "digit", "numbers", "deck"]
theorem sc_carried_numbers : FnScope N_carried_numbers ["value", "make", "nothing", "with_deck"] (defScope s_carried_numbers) := ⟨rfl, rfl, rfl, by decide +kernel, rfl, by decide +kernel, by decide +kernel⟩
abbrev s_number_at : Stmt := top 25
abbrev N_number_at : List Str := ["numbers", "place", "otherwise"]
theorem sc_number_at : FnScope N_number_at ["numbers", "place", "otherwise"] (defScope s_number_at) := ⟨rfl, rfl, rfl, by decide +kernel, rfl, by decide +kernel, by decide +kernel⟩
abbrev s_numbered_standing : Stmt := top 26
abbrev N_numbered_standing : List Str := ["value", "k", "make", "carried", "units", "left", "standing", "rod", "digit", "ways", "count", "push", "ways_here"]
theorem sc_numbered_standing : FnScope N_numbered_standing ["value", "k", "make"] (defScope s_numbered_standing) := ⟨rfl, rfl, rfl, by decide +kernel, rfl, by decide +kernel, by decide +kernel⟩
abbrev s_refused_for : Stmt := top 28
abbrev N_refused_for : List Str := ["fault"]
theorem sc_refused_for : FnScope N_refused_for ["fault"] (defScope s_refused_for) := ⟨rfl, rfl, rfl, by decide +kernel, rfl, by decide +kernel, by decide +kernel⟩
abbrev s_make_refusal : Stmt := top 29
abbrev N_make_refusal : List Str := ["make"]
theorem sc_make_refusal : FnScope N_make_refusal ["make"] (defScope s_make_refusal) := ⟨rfl, rfl, rfl, by decide +kernel, rfl, by decide +kernel, by decide +kernel⟩
abbrev s_standing_answer : Stmt := top 30
abbrev N_standing_answer : List Str := ["standing"]
theorem sc_standing_answer : FnScope N_standing_answer ["standing"] (defScope s_standing_answer) := ⟨rfl, rfl, rfl, by decide +kernel, rfl, by decide +kernel, by decide +kernel⟩
abbrev s_nth : Stmt := top 31
abbrev N_nth : List Str := ["value", "k", "make", "refusal"]
theorem sc_nth : FnScope N_nth ["value", "k", "make"] (defScope s_nth) := ⟨rfl, rfl, rfl, by decide +kernel, rfl, by decide +kernel, by decide +kernel⟩
structure Mg (mg : Str → Option Value) : Prop where
  c_LEAST_RATIO : ∃ t, mg "LEAST_RATIO" = some (.int 2 t)
  c_MOST_BEADS : ∃ t, mg "MOST_BEADS" = some (.int 15 t)
  c_MOST_RATIO : ∃ t, mg "MOST_RATIO" = some (.int 20 t)
  c_MOST_RODS : ∃ t, mg "MOST_RODS" = some (.int 64 t)
  c_MOST_WORTH : ∃ t, mg "MOST_WORTH" = some (.int 63 t)
  c_MOST_WORTH_TOGETHER : ∃ t, mg "MOST_WORTH_TOGETHER" = some (.int 255 t)
  c_NUMBERS_A_ROD : ∃ t, mg "NUMBERS_A_ROD" = some (.int 7 t)
  b_enumerate : mg "enumerate" = none
  b_len : mg "len" = none
  b_list : mg "list" = none
  b_range : mg "range" = none
  b_reversed : mg "reversed" = none
  b_zip : mg "zip" = none
/-! ### promises -/
def spDecks (K : PySem.W.Frag) : Sp := fun vs H Q _ => ∃ v g, vs = [v] ∧ (seqR K natR).at_ H v g ∧ g.length = 7 ∧ RetNL (pairR natR natR) (decks g) H Q
def spWorth (K : PySem.W.Frag) : Sp := fun vs H Q _ => ∃ v g, vs = [v] ∧ (seqR K natR).at_ H v g ∧ g.length = 7 ∧ (∀ x ∈ g, x < 4294967296) ∧ RetV (natV (worthT g)) H Q
def spSound : Sp := fun vs H Q _ => ∃ b w : Nat, vs = [natV b, natV w] ∧ RetV (.bl (sound b w)) H Q
def spTurn (K : PySem.W.Frag) : Sp := fun vs H Q _ => ∃ v g, vs = [v] ∧ (seqR K natR).at_ H v g ∧ g.length = 7 ∧ RetV (.bl (inTurn g)) H Q
def spNums (K : PySem.W.Frag) : Sp := fun vs H Q _ => ∃ v g, vs = [v] ∧ (seqR K natR).at_ H v g ∧ g.length = 7 ∧ RetV (.bl (numsSound g)) H Q
def spCounts (K : PySem.W.Frag) : Sp := fun vs H Q _ => ∃ v g, vs = [v] ∧ (seqR K natR).at_ H v g ∧ g.length = 7 ∧ numsSound g = true ∧ RetV (natV (counts g)) H Q
def spEach (K : PySem.W.Frag) : Sp := fun vs H Q _ => ∃ v g, vs = [v] ∧ (seqR K natR).at_ H v g ∧ g.length = 7 ∧ numsSound g = true ∧ RetV (.bl (allPushed g)) H Q
def spBroken (K : PySem.W.Frag) : Sp := fun vs H Q _ => ∃ v g, vs = [v] ∧ (seqR K natR).at_ H v g ∧ g.length = 7 ∧ (∀ x ∈ g, x < 4294967296) ∧ RetV (natV (broken g)) H Q
def spWhole (K : PySem.W.Frag) : Sp := fun vs H Q _ => ∃ v l, vs = [v] ∧ (seqR K natR).at_ H v l ∧ RetV (.bl (wholeRods l)) H Q
def spRods (K : PySem.W.Frag) : Sp := fun vs H Q _ => ∃ v l, vs = [v] ∧ (seqR K natR).at_ H v l ∧ l.length % 7 = 0 ∧ l.length ≤ 700 ∧ RetNL (seqR K natR) (cuts l) H Q
def spFault (K : PySem.W.Frag) : Sp := fun vs H Q _ => ∃ v l, vs = [v] ∧ (seqR K natR).at_ H v l ∧ l.length ≤ 700 ∧ (∀ x ∈ l, x < 4294967296) ∧ RetL ((mfault l).map natV) H Q
def spProd (K : PySem.W.Frag) : Sp := fun vs H Q _ => ∃ v l, vs = [v] ∧ (seqR K natR).at_ H v l ∧ l.length % 7 = 0 ∧ l.length ≤ 700 ∧ (∀ x ∈ l, x < 4294967296) ∧ RetV (natV (prodR (cuts l))) H Q
/-- a make, as a call gets it -/
def MkAt (K : PySem.W.Frag) (H : Hp) (v : V) (l : List Nat) : Prop := (seqR K natR).at_ H v l ∧ l.length ≤ 700 ∧ ∀ x ∈ l, x < 4294967296
theorem MkAt.mono {K : PySem.W.Frag} {H H1 : Hp} {v : V} {l : List Nat} (e : Ex H H1) (h : MkAt K H v l) : MkAt K H1 v l := ⟨(seqR K natR).mono e h.1, h.2⟩
def refs (f : List Nat) : List Int := if f = [] then [] else refusal f
def srefs (l st : List Nat) : List Int := if mfault l = [] then refs (sfault (cuts l) st) else refusal (mfault l)
def vrefs (l : List Nat) (u : Nat) : List Int := if mfault l = [] then below4 (cuts l) u [] else refusal (mfault l)
def spRefused : Sp := fun vs H Q _ => ∃ v f, vs = [v] ∧ (lstR natR).at_ H v f ∧ f.length ≤ 1000 ∧ RetL ((refs f).map V.int) H Q
def spMRef (K : PySem.W.Frag) : Sp := fun vs H Q _ => ∃ v l, vs = [v] ∧ MkAt K H v l ∧ RetL ((refs (mfault l)).map V.int) H Q
def spSRef (K : PySem.W.Frag) : Sp := fun vs H Q _ => ∃ v w l st, vs = [v, w] ∧ MkAt K H v l ∧ (seqR K natR).at_ H w st ∧ RetL ((srefs l st).map V.int) H Q
def spVRef (K : PySem.W.Frag) : Sp := fun vs H Q _ => ∃ v l u, vs = [natV u, v] ∧ MkAt K H v l ∧ RetL ((vrefs l u).map V.int) H Q
def spBeads (K : PySem.W.Frag) : Sp := fun vs H Q _ => ∃ v l, vs = [v] ∧ (seqR K natR).at_ H v l ∧ l.length % 7 = 0 ∧ l.length ≤ 700 ∧ RetNL natR (bds (cuts l)) H Q
def spSFault (K : PySem.W.Frag) : Sp := fun vs H Q _ => ∃ v w l st, vs = [v, w] ∧ (seqR K natR).at_ H v l ∧ l.length % 7 = 0 ∧ l.length ≤ 700 ∧ (seqR K natR).at_ H w st ∧ RetL ((sfault (cuts l) st).map natV) H Q
def spPushesOf (K : PySem.W.Frag) : Sp := fun vs H Q _ => ∃ w st, vs = [w] ∧ (seqR K natR).at_ H w st ∧ st.length % 3 = 0 ∧ st.length ≤ 700 ∧ RetNL (seqR K natR) (cut3 st) H Q
def spCount (K : PySem.W.Frag) : Sp := fun vs H Q _ => ∃ v w g a b c, vs = [v, w] ∧ (seqR K natR).at_ H v g ∧ (seqR K natR).at_ H w [a, b, c] ∧ g.length = 7 ∧ (∀ x ∈ g, x < 4294967296) ∧ a < 4294967296 ∧ b < 4294967296 ∧ c < 4294967296 ∧ RetV (natV (count3 g a b c)) H Q
def spValueOf (K : PySem.W.Frag) : Sp := fun vs H Q _ => ∃ v w l st, vs = [v, w] ∧ MkAt K H v l ∧ (seqR K natR).at_ H w st ∧ mfault l = [] ∧ sfault (cuts l) st = [] ∧ RetV (natV (rawVal (cuts l) st)) H Q
def spDigitsOf (K : PySem.W.Frag) : Sp := fun vs H Q _ => ∃ v l u, vs = [natV u, v] ∧ (seqR K natR).at_ H v l ∧ l.length % 7 = 0 ∧ l.length ≤ 700 ∧ (∀ g ∈ cuts l, 0 < ix g 0 ∧ ix g 0 < 2 ^ 32) ∧ RetNL natR (digs (cuts l) u) H Q
def spMost : Sp := fun vs H Q _ => ∃ d b w u, vs = [d, natV u] ∧ (pairR natR natR).at_ H d (b, w) ∧ (b ≠ 0 → w ≠ 0) ∧ w < 4294967296 ∧ RetV (natV (mp b w u)) H Q
def spFormOf (K : PySem.W.Frag) : Sp := fun vs H Q _ => ∃ v g d, vs = [v, natV d] ∧ (seqR K natR).at_ H v g ∧ g.length = 7 ∧ (∀ x ∈ g, x < 4294967296) ∧ broken g = 0 ∧ d < ix g 0 ∧ RetNL natR (form3 g d) H Q
def spShownOf (K : PySem.W.Frag) : Sp := fun vs H Q _ => ∃ v l u, vs = [natV u, v] ∧ MkAt K H v l ∧ mfault l = [] ∧ RetNL natR (shown3 (cuts l) u) H Q
def spInForm (K : PySem.W.Frag) : Sp := fun vs H Q _ => ∃ v w l st, vs = [v, w] ∧ MkAt K H v l ∧ (seqR K natR).at_ H w st ∧ mfault l = [] ∧ sfault (cuts l) st = [] ∧ RetV (.bl (inForm3 (cuts l) st)) H Q
def spValue (K : PySem.W.Frag) : Sp := fun vs H Q _ => ∃ v w l st, vs = [v, w] ∧ MkAt K H v l ∧ (seqR K natR).at_ H w st ∧ RetL ((onStanding l st fun gs st => nums [rawVal gs st]).map V.int) H Q
def spDigits (K : PySem.W.Frag) : Sp := fun vs H Q _ => ∃ v l u, vs = [natV u, v] ∧ MkAt K H v l ∧ RetL ((onMake l fun gs => below4 gs u (nums (digs gs u))).map V.int) H Q
def spShow (K : PySem.W.Frag) : Sp := fun vs H Q _ => ∃ v l u, vs = [natV u, v] ∧ MkAt K H v l ∧ RetL ((onMake l fun gs => below4 gs u (nums (shown3 gs u))).map V.int) H Q
def spFormed (K : PySem.W.Frag) : Sp := fun vs H Q _ => ∃ v w l st, vs = [v, w] ∧ MkAt K H v l ∧ (seqR K natR).at_ H w st ∧ RetL ((onStanding l st fun gs st => [if inForm3 gs st = true then 1 else 0]).map V.int) H Q
def spJudge (K : PySem.W.Frag) : Sp := fun vs H Q _ => ∃ v l, vs = [v] ∧ (seqR K natR).at_ H v l ∧ l.length ≤ 700 ∧ (∀ x ∈ l, x < 4294967296) ∧ RetL ((judged l).map V.int) H Q
def spSpan (K : PySem.W.Frag) : Sp := fun vs H Q _ => ∃ v l, vs = [v] ∧ (seqR K natR).at_ H v l ∧ l.length ≤ 700 ∧ (∀ x ∈ l, x < 4294967296) ∧ RetL ((spanned l).map V.int) H Q
def spPushesOn (K : PySem.W.Frag) : Sp := fun vs H Q _ => ∃ v g, vs = [v] ∧ (seqR K natR).at_ H v g ∧ g.length = 7 ∧ numsSound g = true ∧ RetNL (lstR natR) (Na.pushes (D3 g)) H Q
/-- what a deck makes of a list of numbers -/
def spDeck (K : PySem.W.Frag) (F : List Nat → Nat → Nat → List Nat) : Sp := fun vs H Q _ => ∃ v d xs b w, vs = [v, d] ∧ (lstR natR).at_ H v xs ∧ (pairR natR natR).at_ H d (b, w) ∧ (b ≠ 0 → w ≠ 0) ∧ b ≤ 15 ∧ w ≤ 63 ∧ xs.length ≤ 5000 ∧ RetR (lstR natR) (F xs b w) H Q
def spCarried (P : Program) (w : World) (K : PySem.W.Frag) (mg : Str → Option Value) (base : Heap) : Sp := fun vs H Q _ => ∃ v l u a0 f F, vs = [natV u, v, natV a0, .ref f] ∧ MkAt K H v l ∧ mfault l = [] ∧ Longer F ∧ L2.Held P w K mg base 1 f (spDeck K F) ∧ RetNL (lstR natR) (rows F every (cuts l) u a0 (cuts l).length) H Q
def spNumAt (K : PySem.W.Frag) : Sp := fun vs H Q _ => ∃ v xs z o, vs = [v, .int z, natV o] ∧ (seqR K natR).at_ H v xs ∧ RetV (natV (numAt xs z o)) H Q
def spNumWays (K : PySem.W.Frag) : Sp := fun vs H Q _ => ∃ v l u, vs = [natV u, v] ∧ MkAt K H v l ∧ mfault l = [] ∧ RetV (natV (cnt3F isZero (cuts l) u)) H Q
def ans (s : List Nat) : List Int := if s = [] then [-2] else nums s
def spNthOf (K : PySem.W.Frag) : Sp := fun vs H Q _ => ∃ v l u k, vs = [natV u, natV k, v] ∧ MkAt K H v l ∧ mfault l = [] ∧ u < 2 ^ 400 ∧ RetNL natR ((nth3 (cuts l) (cuts l).length u k).getD []) H Q
def spStAns (K : PySem.W.Frag) : Sp := fun vs H Q _ => ∃ v s, vs = [v] ∧ (lstR natR).at_ H v s ∧ s.length ≤ 1000 ∧ RetL ((ans s).map V.int) H Q
def spNumberOf (K : PySem.W.Frag) : Sp := fun vs H Q _ => ∃ v w l st, vs = [v, w] ∧ MkAt K H v l ∧ (seqR K natR).at_ H w st ∧ mfault l = [] ∧ sfault (cuts l) st = [] ∧ RetV (natV (rank3 (cuts l) st (cuts l).length (rawVal (cuts l) st))) H Q
def spFewOf (K : PySem.W.Frag) : Sp := fun vs H Q _ => ∃ v l u, vs = [natV u, v] ∧ MkAt K H v l ∧ mfault l = [] ∧ u < 2 ^ 400 ∧ RetNL natR ((fewest3 (cuts l) u).getD []) H Q
def spWays (K : PySem.W.Frag) : Sp := fun vs H Q _ => ∃ v l u, vs = [natV u, v] ∧ MkAt K H v l ∧ RetL ((onMake l fun gs => nums [cnt3F isZero gs u]).map V.int) H Q
def spNth (K : PySem.W.Frag) : Sp := fun vs H Q _ => ∃ v l u k, vs = [natV u, natV k, v] ∧ MkAt K H v l ∧ u < 2 ^ 400 ∧ RetL ((onMake l fun gs => orTwo (nth3 gs gs.length u k)).map V.int) H Q
def spRank (K : PySem.W.Frag) : Sp := fun vs H Q _ => ∃ v w l st, vs = [v, w] ∧ MkAt K H v l ∧ (seqR K natR).at_ H w st ∧ RetL ((onStanding l st fun gs st => nums [rank3 gs st gs.length (rawVal gs st)]).map V.int) H Q
def spFewest (K : PySem.W.Frag) : Sp := fun vs H Q _ => ∃ v l u, vs = [natV u, v] ∧ MkAt K H v l ∧ u < 2 ^ 400 ∧ RetL ((onMake l fun gs => orTwo (fewest3 gs u)).map V.int) H Q
section
variable {P : Program} {w : World} {K : PySem.W.Frag} {mg : Str → Option Value} {base : Heap}
/-! ### words -/
theorem sub_nat {a b : Nat} (h : b ≤ a) : ((a : Int) - (b : Int)) = ((a - b : Nat) : Int) := (Int.natCast_sub h).symm
theorem nat_ix {H : Hp} {σ : L2.St} {te : TE} {v : V} {g : List Nat} {j : Nat} (h : (seqR K natR).at_ H v g) (hj : j < g.length) (he : Ev te σ H v) : Ev (tOp (rIxL K) te (tC (.int (j : Int)))) σ H (natV (ix g j)) := by
  obtain ⟨p, rfl, hp⟩ := nats_at.mp h
  refine ev_op he ev_c (rv_ixL hp (atI_nat (j := j) ?_))
  rw [List.getElem?_map, List.getElem?_eq_getElem hj]
  unfold ix
  rw [List.getD_eq_getElem?_getD, List.getElem?_eq_getElem hj]
  rfl
theorem cast_lt {a b : Nat} : decide ((a : Int) < (b : Int)) = decide (a < b) := decide_eq_decide.mpr Int.ofNat_lt
theorem cast_le {a b : Nat} : decide ((a : Int) ≤ (b : Int)) = decide (a ≤ b) := decide_eq_decide.mpr Int.ofNat_le
theorem cast_eq {a b : Nat} : decide (natV a = natV b) = decide (a = b) := decide_eq_decide.mpr ⟨fun h => Int.ofNat.inj (V.int.inj h), fun h => h ▸ rfl⟩
theorem cast_eq0 {a : Nat} : decide (natV a = V.int 0) = decide (a = 0) := cast_eq (b := 0)
theorem cast_lt0 {a : Nat} : decide ((0 : Int) < (a : Int)) = decide (0 < a) := cast_lt (a := 0)
theorem lt_pow_abs {c n : Nat} (h : c < 2 ^ n) : ((c : Int)).natAbs < 2 ^ n := h
theorem or_shl {c w : Nat} : Builtin.bitOr (c : Int) ((c : Int) * 2 ^ ((w : Int)).toNat) = ((c ||| c <<< w : Nat) : Int) := by
  rw [Int.toNat_natCast, Nat.shiftLeft_eq]
  have e : ((c : Int) * 2 ^ w) = ((c * 2 ^ w : Nat) : Int) := by
    rw [Int.natCast_mul, PySem.W.kbt_cast]
  rw [e, bitOr_nn (Int.natCast_nonneg _) (Int.natCast_nonneg _), Int.toNat_natCast, Int.toNat_natCast]
theorem mask_eq {r : Nat} : ((1 : Int) * 2 ^ ((r : Int)).toNat - 1) = ((2 ^ r - 1 : Nat) : Int) := by
  rw [Int.toNat_natCast, Int.one_mul, Int.natCast_sub (Nat.two_pow_pos r), PySem.W.kbt_cast]
  rfl
theorem and_mask {c r : Nat} : Builtin.bitAnd (c : Int) ((2 ^ r - 1 : Nat) : Int) = ((c &&& (2 ^ r - 1) : Nat) : Int) := by
  rw [Int.natCast_sub (Nat.two_pow_pos r), PySem.W.kbt_cast]
  show Builtin.bitAnd (c : Int) (2 ^ r - 1) = _
  rw [PySem.W.kbt_mask, Nat.and_two_pow_sub_one_eq_mod, Int.natCast_emod, PySem.W.kbt_cast]
theorem mfault_short {l : List Nat} : ((mfault l).map natV).length ≤ 1000 := by
  unfold mfault
  split <;> simp
theorem ne_of_pos {l : List Nat} (h : decide (0 < (l.map natV).length) = true) : l ≠ [] := fun e => by
  subst e
  simp at h
theorem judged_bad {l : List Nat} (h : mfault l ≠ []) : (V.int (-5) :: (mfault l).map natV) = (judged l).map V.int := by
  unfold judged
  rw [if_neg h, List.map_cons, List.map_map]
  rfl
theorem judged_good {l : List Nat} (h : mfault l = []) : [V.int 0] = (judged l).map V.int := by
  unfold judged
  rw [if_pos h]
  rfl
theorem spanned_bad {l : List Nat} (h : mfault l ≠ []) : (V.int (-5) :: (mfault l).map natV) = (spanned l).map V.int := by
  unfold spanned
  rw [if_neg h, List.map_cons, List.map_map]
  rfl
theorem spanned_good {l : List Nat} (h : mfault l = []) : [natV 0, natV (prodR (cuts l))] = (spanned l).map V.int := by
  unfold spanned
  rw [if_pos h]
  rfl
theorem ok_decks_of {f : Addr} {fd : FuncData} (F : Fun K "decks_of" "decks_of" s_decks_of f fd) (M : Mg mg) : FnOk P w K mg base CX0 1 f fd ["rod"] (spDecks K) := by
  refine F.ok sc_decks_of (fun vs H Q E h => ?_) (fun cdv A outer s H vs Q E hr h => ⟨_, (pss_one (ps_ret (pe_lst (pa_cons (pe_tup (pa_cons (pe_ix (ixL (K := K)) (pv 0) pe_int (fun _ _ => rfl)) (pa_cons (pe_ix (ixL (K := K)) (pv 0) pe_int (fun _ _ => rfl)) pa_nil))) (pa_cons (pe_tup (pa_cons (pe_ix (ixL (K := K)) (pv 0) pe_int (fun _ _ => rfl)) (pa_cons (pe_ix (ixL (K := K)) (pv 0) pe_int (fun _ _ => rfl)) pa_nil))) (pa_cons (pe_tup (pa_cons (pe_ix (ixL (K := K)) (pv 0) pe_int (fun _ _ => rfl)) (pa_cons (pe_ix (ixL (K := K)) (pv 0) pe_int (fun _ _ => rfl)) pa_nil))) pa_nil)))))), ?_⟩)
  · obtain ⟨v, g, rfl, _⟩ := h
    rfl
  · obtain ⟨v, g, rfl, hv, h7, q⟩ := h
    have ei : ∀ j : Nat, j < 7 → EvN natR (tOp (rIxL K) (tVar 0) (tC (.int (j : Int)))) (start N_decks_of [v]) H (ix g j) := fun j hj => en_nat (nat_ix hv (by omega) (ev_var rfl))
    exact s_retN (en_lst (ein_cons (en_tup (ei 1 (by decide)) (ei 2 (by decide))) (ein_cons (en_tup (ei 3 (by decide)) (ei 4 (by decide))) (ein_cons (en_tup (ei 5 (by decide)) (ei 6 (by decide))) ein_nil))) (Nat.le_of_lt_succ (by simp))) q
/-- decks_of, called -/
theorem en_decks {H : Hp} {σ : L2.St} {te : TE} {v : V} {g : List Nat} (hv : (seqR K natR).at_ H v g) (h7 : g.length = 7) (he : Ev te σ H v) : EvNL (pairR natR natR) (tCall (spDecks K) [] E0 (tCons te tNil)) σ H (decks g) :=
  en_c1 (er_ev he hv) fun x H1 e hx Q q E => ⟨x, g, rfl, hx, h7, q⟩
theorem er_decks {H : Hp} {σ : L2.St} {te : TE} {v : V} {g : List Nat} (hv : (seqR K natR).at_ H v g) (h7 : g.length = 7) (he : Ev te σ H v) : EvR (lstR (pairR natR natR)) (tCall (spDecks K) [] E0 (tCons te tNil)) σ H (decks g) := er_n (en_l (en_decks hv h7 he))
/-- rods_of, called -/
theorem en_rods {H : Hp} {σ : L2.St} {te : TE} {v : V} {l : List Nat} (hv : (seqR K natR).at_ H v l) (h7 : l.length % 7 = 0) (hl : l.length ≤ 700) (he : Ev te σ H v) : EvNL (seqR K natR) (tCall (spRods K) [] E0 (tCons te tNil)) σ H (cuts l) :=
  en_c1 (er_ev he hv) fun x H1 e hx Q q E => ⟨x, l, rfl, hx, h7, hl, q⟩
theorem ok_worth_together {f : Addr} {fd : FuncData} (F : Fun K "worth_together" "worth_together" s_worth_together f fd) (M : Mg mg) (D_decks_of : Def P w K mg base "decks_of" 1 ["rod"] (spDecks K)) : FnOk P w K mg base CX0 2 f fd ["rod"] (spWorth K) := by
  refine F.ok sc_worth_together (fun vs H Q E h => ?_) (fun cdv A outer s H vs Q E hr h => ⟨_, (pss_cons (ps_set (i := 1) sc_worth_together.nd rfl (.inl rfl) pe_int)
      (pss_cons (ps_for PassesOwn.never rfl (pi_list (pe_callD D_decks_of hr (by decide) (pa_cons (pv 0) pa_nil))) (pg_tup rfl (pgs_cons (pg_name (i := 2) sc_worth_together.nd rfl (.inl rfl)) (pgs_cons (pg_name (i := 3) sc_worth_together.nd rfl (.inl rfl)) pgs_nil))) (pss_one (ps_set (i := 1) sc_worth_together.nd rfl (.inl rfl) (pe_op op_add (pv 1) (pe_op op_mulX (pv 2) (pv 3))))))
      (pss_one (ps_ret (pv 1))))), ?_⟩)
  · obtain ⟨v, g, rfl, _⟩ := h
    rfl
  · obtain ⟨v, g, rfl, hv, h7, hb, q⟩ := h
    refine q_asg (v := natV 0) ev_c fun H1 e1 => ?_
    refine q_forP (K := K) (R := natR) (S := natR) (er_seq (er_decks ((seqR K natR).mono e1 hv) h7 (ev_var rfl))) (fun i σ' _ => ∃ y z, σ' = [some v, some (natV (((decks g).take i).foldl (fun t d => t + d.1 * d.2) 0)), y, z]) (fun _ _ => ⟨none, none, rfl⟩) ?_ ?_
    · rintro B i b d v1 v2 σ' H' eB e' hi rfl rfl ⟨y, z, rfl⟩
      have lt := decks_lt h7 hb (List.mem_of_getElem? hi)
      refine s_asg (ev_op (ev_var rfl) (ev_op (ev_var rfl) (ev_var rfl) (rv_I (mulx_ok (a := 32) (b := 32) (lt_pow_abs lt.1) (lt_pow_abs lt.2) (by decide)))) rv_I0) fun H2 e2 => ⟨e'.trans e2, some (natV b), some (natV d), ?_⟩
      rw [take_fold hi]
      exact congrArg (fun x => [some v, some (V.int x), some (natV b), some (natV d)]) (by push_cast; rfl)
    · rintro σ' H' e' ⟨y, z, rfl⟩
      refine s_ret (ev_var rfl) fun H2 e2 => ?_
      rw [List.take_length]
      exact q H2 ((e1.trans e').trans e2)
theorem ok_has_whole_rods {f : Addr} {fd : FuncData} (F : Fun K "has_whole_rods" "has_whole_rods" s_has_whole_rods f fd) (M : Mg mg) : FnOk P w K mg base CX0 1 f fd ["make"] (spWhole K) := by
  refine F.ok sc_has_whole_rods (fun vs H Q E h => ?_) (fun cdv A outer s H vs Q E hr h => ⟨_, (pss_cons (ps_if (PW.pt (pw_or (pt_cmpR op_eq (pe_callB (lenS (K := K)) (by rfl) M.b_len PySem.boot_len (pa_cons (pv 0) pa_nil)) pe_int (nomark _)) (pw_or1 (pt_cmpR op_gt (pe_callB (lenS (K := K)) (by rfl) M.b_len PySem.boot_len (pa_cons (pv 0) pa_nil)) (pe_op op_mulX (pe_gint M.c_NUMBERS_A_ROD) (pe_gint M.c_MOST_RODS)) (nomark _))))) (pss_one (ps_ret pe_bl)) pss_nil)
      (pss_one (ps_ret (pe_cmpR op_eq (pe_op op_mod (pe_callB (lenS (K := K)) (by rfl) M.b_len PySem.boot_len (pa_cons (pv 0) pa_nil)) (pe_gint M.c_NUMBERS_A_ROD)) pe_int (nomark _))))), ?_⟩)
  · obtain ⟨v, g, rfl, _⟩ := h
    rfl
  · obtain ⟨v, l, rfl, hv, q⟩ := h
    have el : ∀ H1, Ex H H1 → Ev (tCB _ (tCons (tVar 0) tNil)) (start N_has_whole_rods [v]) H1 (natV l.length) := fun H1 e => er_len (K := K) (R := natR) (er_ev (ev_var rfl) ((seqR K natR).mono e hv))
    refine q_when (b := decide (l.length = 0) || decide (448 < l.length)) (et_or (et_is (et_test (ev_op (el H (Ex.refl H)) ev_c (rv_eq rfl))) cast_eq0) fun _ => et_is (et_test (ev_op (el H (Ex.refl H)) (ev_op ev_c ev_c (rv_I (mulx_ok (a := 32) (b := 32) (by decide) (by decide) (by decide)))) rv_I0)) (cast_lt (a := 448))) (fun hb H1 e1 => ?_) (fun hb H1 e1 => ?_)
    · refine s_ret ev_c fun H2 e2 => ret_to q (e1.trans e2) ?_
      unfold wholeRods
      rw [if_pos (by simpa using hb)]
    · refine s_ret (ev_op (ev_op (el H1 e1) ev_c (rv_I (by decide))) ev_c (rv_eq rfl)) fun H2 e2 => ret_to q (e1.trans e2) ?_
      unfold wholeRods
      rw [if_neg (by simpa using hb)]
      exact congrArg V.bl (cast_eq (a := l.length % 7) (b := 0) ▸ rfl)
theorem ok_deck_is_sound {f : Addr} {fd : FuncData} (F : Fun K "deck_is_sound" "deck_is_sound" s_deck_is_sound f fd) (M : Mg mg) : FnOk P w K mg base CX0 1 f fd ["beads", "worth"] (spSound) := by
  refine F.ok sc_deck_is_sound (fun vs H Q E h => ?_) (fun cdv A outer s H vs Q E hr h => ⟨_, (pss_cons (ps_if (PW.pt (pw_or (pt_cmpR op_eq (pv 0) pe_int (nomark _)) (pw_or1 (pt_cmpR op_eq (pv 1) pe_int (nomark _))))) (pss_one (ps_ret (pe_cmpR op_eq (pv 0) (pv 1) (nomark _)))) pss_nil)
      (pss_one (ps_ret (pe_and (pe_cmpR op_le (pv 0) (pe_gint M.c_MOST_BEADS) (nomark _)) (pe_one (pe_cmpR op_le (pv 1) (pe_gint M.c_MOST_WORTH) (nomark _))))))), ?_⟩)
  · obtain ⟨b, w, rfl, _⟩ := h
    rfl
  · obtain ⟨b, w, rfl, q⟩ := h
    refine q_when (b := decide (b = 0) || decide (w = 0)) (et_or (et_is (et_test (ev_op (ev_var rfl) ev_c (rv_eq rfl))) cast_eq0) fun _ => et_is (et_test (ev_op (ev_var rfl) ev_c (rv_eq rfl))) cast_eq0) (fun hb H1 e1 => ?_) (fun hb H1 e1 => ?_)
    · refine s_ret (ev_op (ev_var rfl) (ev_var rfl) (rv_eq rfl)) fun H2 e2 => ret_to q (e1.trans e2) ?_
      unfold sound
      rw [if_pos (by simpa using hb)]
      exact congrArg V.bl cast_eq
    · refine s_ret (ev_andV (ev_op (ev_var rfl) ev_c rv_I0) fun _ => ev_op (ev_var rfl) ev_c rv_I0) fun H2 e2 => ret_to q (e1.trans e2) ?_
      unfold sound
      rw [if_neg (by simpa using hb)]
      exact congrArg V.bl (congr2B (cast_le (b := 15)) (cast_le (b := 63)))
theorem ok_decks_are_in_turn {f : Addr} {fd : FuncData} (F : Fun K "decks_are_in_turn" "decks_are_in_turn" s_decks_are_in_turn f fd) (M : Mg mg) (D_decks_of : Def P w K mg base "decks_of" 1 ["rod"] (spDecks K)) : FnOk P w K mg base CX0 2 f fd ["rod"] (spTurn K) := by
  refine F.ok sc_decks_are_in_turn (fun vs H Q E h => ?_) (fun cdv A outer s H vs Q E hr h => ⟨_, (pss_cons (ps_set (i := 1) sc_decks_are_in_turn.nd rfl (.inl rfl) (pe_callD D_decks_of hr (by decide) (pa_cons (pv 0) pa_nil)))
      (pss_cons (ps_if (pt_cmpR op_eq (pe_ix (ixT (K := K)) (pe_ix (ixL (K := K)) (pv 1) pe_int (fun _ _ => rfl)) pe_int (fun _ _ => rfl)) pe_int (nomark _)) (pss_one (ps_ret pe_bl)) pss_nil)
      (pss_one (ps_ret (pe_or (pe_cmpR op_gt (pe_ix (ixT (K := K)) (pe_ix (ixL (K := K)) (pv 1) pe_int (fun _ _ => rfl)) pe_int (fun _ _ => rfl)) pe_int (nomark _)) (pe_one (pe_cmpR op_eq (pe_ix (ixT (K := K)) (pe_ix (ixL (K := K)) (pv 1) pe_int (fun _ _ => rfl)) pe_int (fun _ _ => rfl)) pe_int (nomark _)))))))), ?_⟩)
  · obtain ⟨v, g, rfl, _⟩ := h
    rfl
  · obtain ⟨v, g, rfl, hv, h7, q⟩ := h
    refine q_asgR (er_decks hv h7 (ev_var rfl)) fun d H1 e1 hd => ?_
    have hd' := lst_seq (K := K) hd
    have ed : ∀ (j : Nat) (a b : Nat) (H2 : Hp), Ex H1 H2 → (decks g)[j]? = some (a, b) → Ev (tOp (rIxT K) (tOp (rIxL K) (tVar 1) (tC (.int (j : Int)))) (tC (.int 0))) [some v, some d] H2 (natV a) := fun j a b H2 e2 hj => ev_nat (er_fst (er_ix (er_ev (ev_var rfl) ((seqR K (pairR natR natR)).mono e2 hd')) hj))
    refine q_when (b := decide (ix g 1 = 0)) (et_is (et_test (ev_op (ed 0 _ _ H1 (Ex.refl _) rfl) ev_c (rv_eq rfl))) cast_eq0) (fun hb H2 e2 => ?_) (fun hb H2 e2 => ?_)
    · refine s_ret ev_c fun H3 e3 => ret_to q ((e1.trans e2).trans e3) ?_
      unfold inTurn
      rw [if_pos (of_decide_eq_true hb)]
    · refine s_ret (ev_orV (ev_op (ed 1 _ _ H2 e2 rfl) ev_c rv_I0) fun _ => ev_op (ed 2 _ _ H2 e2 rfl) ev_c (rv_eq rfl)) fun H3 e3 => ret_to q ((e1.trans e2).trans e3) ?_
      unfold inTurn
      rw [if_neg (of_decide_eq_false hb)]
      exact congrArg V.bl (congr2O cast_lt0 cast_eq0)
theorem ok_numbers_are_sound {f : Addr} {fd : FuncData} (F : Fun K "numbers_are_sound" "numbers_are_sound" s_numbers_are_sound f fd) (M : Mg mg) (D_decks_of : Def P w K mg base "decks_of" 1 ["rod"] (spDecks K)) (D_decks_are_in_turn : Def P w K mg base "decks_are_in_turn" 2 ["rod"] (spTurn K)) (D_deck_is_sound : Def P w K mg base "deck_is_sound" 1 ["beads", "worth"] (spSound)) : FnOk P w K mg base CX0 3 f fd ["rod"] (spNums K) := by
  refine F.ok sc_numbers_are_sound (fun vs H Q E h => ?_) (fun cdv A outer s H vs Q E hr h => ⟨_, (pss_cons (ps_if (PW.pt (pw_or (pt_cmpR op_lt (pe_ix (ixL (K := K)) (pv 0) pe_int (fun _ _ => rfl)) (pe_gint M.c_LEAST_RATIO) (nomark _)) (pw_or1 (pt_cmpR op_gt (pe_ix (ixL (K := K)) (pv 0) pe_int (fun _ _ => rfl)) (pe_gint M.c_MOST_RATIO) (nomark _))))) (pss_one (ps_ret pe_bl)) pss_nil)
      (pss_cons (ps_for PassesOwn.never rfl (pi_list (pe_callD D_decks_of hr (by decide) (pa_cons (pv 0) pa_nil))) (pg_tup rfl (pgs_cons (pg_name (i := 1) sc_numbers_are_sound.nd rfl (.inl rfl)) (pgs_cons (pg_name (i := 2) sc_numbers_are_sound.nd rfl (.inl rfl)) pgs_nil))) (pss_one (ps_if (pt_not (pt_val (pe_callD D_deck_is_sound hr (by decide) (pa_cons (pv 1) (pa_cons (pv 2) pa_nil))))) (pss_one (ps_ret pe_bl)) pss_nil)))
      (pss_one (ps_ret (pe_callD D_decks_are_in_turn hr (by decide) (pa_cons (pv 0) pa_nil)))))), ?_⟩)
  · obtain ⟨v, g, rfl, _⟩ := h
    rfl
  · obtain ⟨v, g, rfl, hv, h7, q⟩ := h
    have e0 : Ev (tOp (rIxL K) (tVar 0) (tC (.int 0))) (start N_numbers_are_sound [v]) H (natV (ix g 0)) := nat_ix (j := 0) hv (by omega) (ev_var rfl)
    refine q_when (b := decide (ix g 0 < 2) || decide (20 < ix g 0)) (et_or (et_is (et_test (ev_op e0 ev_c rv_I0)) (cast_lt (b := 2))) fun _ => et_is (et_test (ev_op e0 ev_c rv_I0)) (cast_lt (a := 20))) (fun hb H1 e1 => ?_) (fun hb H1 e1 => ?_)
    · exact s_ret ev_c fun H2 e2 => ret_to q (e1.trans e2) (congrArg V.bl (nums_ratio hb).symm)
    · refine q_forP (K := K) (R := natR) (S := natR) (er_seq (er_decks ((seqR K natR).mono e1 hv) h7 (ev_var rfl))) (fun i σ' _ => (∃ y z, σ' = [some v, y, z]) ∧ ∀ d ∈ (decks g).take i, sound d.1 d.2 = true) (fun _ _ => ⟨⟨none, none, rfl⟩, fun d hd => by simp at hd⟩) ?_ ?_
      · rintro B i b d v1 v2 σ' H' eB e' hi rfl rfl ⟨⟨y, z, rfl⟩, ha⟩
        refine s_when (b := !sound b d) (et_not (et_B (ev_c2 (S := natR) (T := natR) (er_nat (ev_var rfl)) (er_nat (ev_var rfl)) fun x y H1 e hx hy Q q E => ⟨b, d, by rw [show x = natV b from hx, show y = natV d from hy], q⟩))) (fun hn H2 e2 => ?_) (fun hn H2 e2 => ?_)
        · exact s_ret ev_c fun H3 e3 => ret_to q (((e1.trans eB).trans (e'.trans e2)).trans e3) (congrArg V.bl (nums_false (List.mem_of_getElem? hi) (by simpa using hn)).symm)
        · refine ⟨e'.trans e2, ⟨_, _, rfl⟩, fun x hx => ?_⟩
          rw [List.take_add_one, hi] at hx
          rcases List.mem_append.mp hx with h | h
          · exact ha x h
          · have e : x = (b, d) := by simpa using h
            subst e
            simpa using hn
      · rintro σ' H' e' ⟨⟨y, z, rfl⟩, ha⟩
        rw [List.take_length] at ha
        refine s_ret (ev_c1 (S := seqR K natR) (v := .bl (inTurn g)) (er_ev (ev_var rfl) ((seqR K natR).mono (e1.trans e') hv)) fun x H1 e hx Q q E => ⟨x, g, rfl, hx, h7, q⟩) fun H2 e2 => ret_to q ((e1.trans e').trans e2) (congrArg V.bl (nums_else hb ha).symm)
theorem ok_pushable_counts {f : Addr} {fd : FuncData} (F : Fun K "pushable_counts" "pushable_counts" s_pushable_counts f fd) (M : Mg mg) (D_decks_of : Def P w K mg base "decks_of" 1 ["rod"] (spDecks K)) : FnOk P w K mg base CX0 2 f fd ["rod"] (spCounts K) := by
  refine F.ok sc_pushable_counts (fun vs H Q E h => ?_) (fun cdv A outer s H vs Q E hr h => ⟨_, (pss_cons (ps_set (i := 1) sc_pushable_counts.nd rfl (.inl rfl) pe_int)
      (pss_cons (ps_for PassesOwn.never rfl (pi_list (pe_callD D_decks_of hr (by decide) (pa_cons (pv 0) pa_nil))) (pg_tup rfl (pgs_cons (pg_name (i := 2) sc_pushable_counts.nd rfl (.inl rfl)) (pgs_cons (pg_name (i := 3) sc_pushable_counts.nd rfl (.inl rfl)) pgs_nil))) (pss_one (ps_for PassesOwn.never rfl (pi_range1 rfl M.b_range (pa_cons (pv 2) pa_nil)) (pg_name (i := 4) sc_pushable_counts.nd rfl (.inl rfl)) (pss_one (ps_set (i := 1) sc_pushable_counts.nd rfl (.inl rfl) (pe_op op_or (pv 1) (pe_op op_shlW (pv 1) (pv 3))))))))
      (pss_one (ps_ret (pv 1))))), ?_⟩)
  · obtain ⟨v, g, rfl, _⟩ := h
    rfl
  · obtain ⟨v, g, rfl, hv, h7, hn, q⟩ := h
    have hs := (nums_facts hn).2.2.1
    refine q_asg (v := natV 1) ev_c fun H1 e1 => ?_
    refine q_forP (K := K) (R := natR) (S := natR) (er_seq (er_decks ((seqR K natR).mono e1 hv) h7 (ev_var rfl))) (fun i σ' _ => ∃ y z u, σ' = [some v, some (natV (((decks g).take i).foldl (fun c d => more d.2 d.1 c) 1)), y, z, u]) (fun _ _ => ⟨none, none, none, rfl⟩) ?_ ?_
    · rintro B i b d v1 v2 σ' H' eB e' hi rfl rfl ⟨y, z, u, rfl⟩
      have sd := sound_le (hs _ (List.mem_of_getElem? hi))
      have lt : ((decks g).take i).foldl (fun c d => more d.2 d.1 c) 1 < 2 ^ (1 + 945 * ((decks g).take i).length) := fold_lt _ 1 1 (by decide) fun d hd => hs d (mem_take hd)
      have l3 : ((decks g).take i).length ≤ 3 := by
        rw [List.length_take]
        exact Nat.min_le_right _ _
      generalize hc : ((decks g).take i).foldl (fun c d => more d.2 d.1 c) 1 = c at lt ⊢
      refine s_forR1 (n := (b : Int)) (ea_cons (ev_var rfl) ea_nil) ⟨by omega, by omega⟩ (fun k σ' H2 => Ex B H2 ∧ ∃ u, σ' = [some v, some (natV (more d k c)), some (natV b), some (natV d), u]) (fun H2 e2 => ⟨e'.trans e2, u, rfl⟩) ?_ ?_
      · rintro k σ2 H2 hk ⟨e2, u2, rfl⟩
        have lt2 := more_lt' (w := d) (k := k) lt (by omega) sd.2
        refine s_asg (ev_op (ev_var rfl) (ev_op (ev_var rfl) (ev_var rfl) (rv_I (shl_ok (lt_pow_abs lt2) (by omega)))) rv_I0) fun H3 e3 => ⟨e2.trans e3, some (.int (k : Int)), ?_⟩
        rw [or_shl]
        rfl
      · rintro σ2 H2 ⟨e2, u2, rfl⟩
        refine ⟨e2, some (natV b), some (natV d), u2, ?_⟩
        rw [Int.toNat_natCast, take_fold hi, hc]
    · rintro σ' H' e' ⟨y, z, u, rfl⟩
      refine s_ret (ev_var rfl) fun H2 e2 => ?_
      rw [List.take_length]
      exact q H2 ((e1.trans e').trans e2)
theorem ok_each_digit_can_be_pushed {f : Addr} {fd : FuncData} (F : Fun K "each_digit_can_be_pushed" "each_digit_can_be_pushed" s_each_digit_can_be_pushed f fd) (M : Mg mg) (D_pushable_counts : Def P w K mg base "pushable_counts" 2 ["rod"] (spCounts K)) : FnOk P w K mg base CX0 3 f fd ["rod"] (spEach K) := by
  refine F.ok sc_each_digit_can_be_pushed (fun vs H Q E h => ?_) (fun cdv A outer s H vs Q E hr h => ⟨_, (pss_cons (ps_set (i := 1) sc_each_digit_can_be_pushed.nd rfl (.inl rfl) (pe_op op_sub (pe_op op_shlW pe_int (pe_ix (ixL (K := K)) (pv 0) pe_int (fun _ _ => rfl))) pe_int))
      (pss_one (ps_ret (pe_cmpR op_eq (pe_op op_and (pe_callD D_pushable_counts hr (by decide) (pa_cons (pv 0) pa_nil)) (pv 1)) (pv 1) (nomark _))))), ?_⟩)
  · obtain ⟨v, g, rfl, _⟩ := h
    rfl
  · obtain ⟨v, g, rfl, hv, h7, hn, q⟩ := h
    have hr := (nums_facts hn).2.1
    refine q_asg (v := natV (2 ^ ix g 0 - 1)) (ev_is (ev_op (ev_op ev_c (nat_ix (j := 0) hv (by omega) (ev_var rfl)) (rv_I (shl_ok (n := 1) (by decide) (by omega)))) ev_c rv_I0) (congrArg V.int mask_eq)) fun H1 e1 => ?_
    refine s_ret (ev_op (ev_op (ev_c1 (S := seqR K natR) (v := natV (counts g)) (er_ev (ev_var rfl) ((seqR K natR).mono e1 hv)) fun x H1 e hx Q q E => ⟨x, g, rfl, hx, h7, hn, q⟩) (ev_var rfl) rv_I0) (ev_var rfl) (rv_eq rfl)) fun H2 e2 => ret_to q (e1.trans e2) ?_
    rw [and_mask]
    exact congrArg V.bl cast_eq
theorem ok_broken_rule {f : Addr} {fd : FuncData} (F : Fun K "broken_rule" "broken_rule" s_broken_rule f fd) (M : Mg mg) (D_numbers_are_sound : Def P w K mg base "numbers_are_sound" 3 ["rod"] (spNums K)) (D_worth_together : Def P w K mg base "worth_together" 2 ["rod"] (spWorth K)) (D_each_digit_can_be_pushed : Def P w K mg base "each_digit_can_be_pushed" 3 ["rod"] (spEach K)) : FnOk P w K mg base CX0 4 f fd ["rod"] (spBroken K) := by
  refine F.ok sc_broken_rule (fun vs H Q E h => ?_) (fun cdv A outer s H vs Q E hr h => ⟨_, (pss_cons (ps_if (pt_not (pt_val (pe_callD D_numbers_are_sound hr (by decide) (pa_cons (pv 0) pa_nil)))) (pss_one (ps_ret pe_int)) pss_nil)
      (pss_cons (ps_if (pt_cmpR op_gt (pe_callD D_worth_together hr (by decide) (pa_cons (pv 0) pa_nil)) (pe_gint M.c_MOST_WORTH_TOGETHER) (nomark _)) (pss_one (ps_ret pe_int)) pss_nil)
      (pss_cons (ps_if (pt_not (pt_val (pe_callD D_each_digit_can_be_pushed hr (by decide) (pa_cons (pv 0) pa_nil)))) (pss_one (ps_ret pe_int)) pss_nil)
      (pss_one (ps_ret pe_int))))), ?_⟩)
  · obtain ⟨v, g, rfl, _⟩ := h
    rfl
  · obtain ⟨v, g, rfl, hv, h7, hb, q⟩ := h
    refine q_when (b := !numsSound g) (et_not (et_B (ev_c1 (S := seqR K natR) (er_ev (ev_var rfl) hv) fun x H1 e hx Q q E => ⟨x, g, rfl, hx, h7, q⟩))) (fun hn H1 e1 => ?_) (fun hn H1 e1 => ?_)
    · refine s_ret ev_c fun H2 e2 => ret_to q (e1.trans e2) ?_
      unfold broken
      rw [if_pos (by simpa using hn)]
      rfl
    · have hn' : numsSound g = true := by simpa using hn
      refine q_when (b := decide (255 < worthT g)) (et_is (et_test (ev_op (ev_c1 (S := seqR K natR) (v := natV (worthT g)) (er_ev (ev_var rfl) ((seqR K natR).mono e1 hv)) fun x H1 e hx Q q E => ⟨x, g, rfl, hx, h7, hb, q⟩) ev_c rv_I0)) (cast_lt (a := 255))) (fun hw H2 e2 => ?_) (fun hw H2 e2 => ?_)
      · refine s_ret ev_c fun H3 e3 => ret_to q ((e1.trans e2).trans e3) ?_
        unfold broken
        rw [if_neg (by simp [hn']), if_pos (of_decide_eq_true hw)]
        rfl
      · refine q_when (b := !allPushed g) (et_not (et_B (ev_c1 (S := seqR K natR) (er_ev (ev_var rfl) ((seqR K natR).mono (e1.trans e2) hv)) fun x H1 e hx Q q E => ⟨x, g, rfl, hx, h7, hn', q⟩))) (fun ha H3 e3 => ?_) (fun ha H3 e3 => ?_)
        · refine s_ret ev_c fun H4 e4 => ret_to q (((e1.trans e2).trans e3).trans e4) ?_
          unfold broken
          rw [if_neg (by simp [hn']), if_neg (of_decide_eq_false hw), if_pos (by simpa using ha)]
          rfl
        · refine s_ret ev_c fun H4 e4 => ret_to q (((e1.trans e2).trans e3).trans e4) ?_
          unfold broken
          rw [if_neg (by simp [hn']), if_neg (of_decide_eq_false hw), if_neg (by simpa using ha)]
          rfl
theorem ok_rods_of {f : Addr} {fd : FuncData} (F : Fun K "rods_of" "rods_of" s_rods_of f fd) (M : Mg mg) : FnOk P w K mg base CX0 1 f fd ["make"] (spRods K) := by
  refine F.ok sc_rods_of (fun vs H Q E h => ?_) (fun cdv A outer s H vs Q E hr h => ⟨_, (pss_one (ps_ret (pe_lc (own := [("start", 1)]) (g := gName 1) (tt := tYes) rfl sc_rods_of.nd (pi_range3 rfl M.b_range (pa_cons pe_int (pa_cons (pe_callB (lenS (K := K)) (by rfl) M.b_len PySem.boot_len (pa_cons (pv 0) pa_nil)) (pa_cons (pe_gint M.c_NUMBERS_A_ROD) pa_nil)))) (blkOk_by (N := N_rods_of) (sc := defScope s_rods_of) (by decide +kernel)) (fun _ _ _ _ _ => (pg_name (i := 1) sc_rods_of.nd rfl (.inl rfl))) (fun _ _ _ _ _ => pts_nil) (fun _ _ _ _ _ => (pe_slice (slL (K := K)) (pv 0) (po_some (pv 1)) (po_some (pe_op op_add (pv 1) (pe_gint M.c_NUMBERS_A_ROD)))))))), ?_⟩)
  · obtain ⟨v, g, rfl, _⟩ := h
    rfl
  · obtain ⟨v, l, rfl, hv, h7, hl, q⟩ := h
    obtain ⟨p, rfl, hp⟩ := nats_at.mp hv
    refine s_retN (en_lcR3L (fun i => (l.drop (7 * i)).take 7) (ea_cons ev_c (ea_cons (er_len (K := K) (R := natR) (er_ev (ev_var rfl) hv)) (ea_cons ev_c ea_nil))) ?_ (by omega) (fun x => rfl) fun i H1 e1 hi => ?_) q
    · exact rgc_seven h7 hl
    · exact cutV_seven (l := l) (i := i) (by omega) ▸ el_sl (ev_var rfl) (eo_some (ev_var rfl)) (eo_some (ev_op (ev_var rfl) ev_c rv_I0)) (ex_l e1 hp)
theorem ok_make_fault {f : Addr} {fd : FuncData} (F : Fun K "make_fault" "make_fault" s_make_fault f fd) (M : Mg mg) (D_has_whole_rods : Def P w K mg base "has_whole_rods" 1 ["make"] (spWhole K)) (D_rods_of : Def P w K mg base "rods_of" 1 ["make"] (spRods K)) (D_broken_rule : Def P w K mg base "broken_rule" 4 ["rod"] (spBroken K)) : FnOk P w K mg base CX0 5 f fd ["make"] (spFault K) := by
  refine F.ok sc_make_fault (fun vs H Q E h => ?_) (fun cdv A outer s H vs Q E hr h => ⟨_, (pss_cons (ps_if (pt_not (pt_val (pe_callD D_has_whole_rods hr (by decide) (pa_cons (pv 0) pa_nil)))) (pss_one (ps_ret (pe_lst (pa_cons pe_int (pa_cons pe_int pa_nil))))) pss_nil)
      (pss_cons (ps_for PassesOwn.never rfl (pi_enum rfl M.b_enumerate (pa_cons (pe_callD D_rods_of hr (by decide) (pa_cons (pv 0) pa_nil)) pa_nil)) (pg_tup rfl (pgs_cons (pg_name (i := 1) sc_make_fault.nd rfl (.inl rfl)) (pgs_cons (pg_name (i := 2) sc_make_fault.nd rfl (.inl rfl)) pgs_nil))) (pss_cons (ps_set (i := 3) sc_make_fault.nd rfl (.inl rfl) (pe_callD D_broken_rule hr (by decide) (pa_cons (pv 2) pa_nil)))
      (pss_one (ps_if (pt_cmpR op_gt (pv 3) pe_int (nomark _)) (pss_one (ps_ret (pe_lst (pa_cons (pv 3) (pa_cons (pv 1) pa_nil))))) pss_nil))))
      (pss_one (ps_ret (pe_lst pa_nil))))), ?_⟩)
  · obtain ⟨v, g, rfl, _⟩ := h
    rfl
  · obtain ⟨v, l, rfl, hv, hl, hb, q⟩ := h
    refine q_when (b := !wholeRods l) (et_not (et_B (ev_c1 (S := seqR K natR) (er_ev (ev_var rfl) hv) fun x H1 e hx Q q E => ⟨x, l, rfl, hx, q⟩))) (fun hn H1 e1 => ?_) (fun hn H1 e1 => ?_)
    · refine s_retL (xs := [natV 1, natV 0]) (el_lst (ea_cons ev_c (ea_cons ev_c ea_nil)) (by decide)) fun p H2 hp e2 h2 => ?_
      exact ret_goL q e1 hp e2 h2 (by rw [mfault_bad (by simpa using hn)]; rfl)
    · have hw : wholeRods l = true := by simpa using hn
      have wf := whole_facts hw
      refine q_forEnum (K := K) (R := seqR K natR) (l := cuts l) (ec_cons (er_nl (en_rods ((seqR K natR).mono e1 hv) wf.2.2 hl (ev_var rfl))) ec_nil |> ec_one) (fun i σ' _ => (∃ y z u, σ' = [some v, y, z, u]) ∧ ∀ (j : Nat) g, j < i → (cuts l)[j]? = some g → broken g = 0) (fun _ _ => ⟨⟨none, none, none, rfl⟩, fun j g hj => absurd hj (Nat.not_lt_zero _)⟩) ?_ (fun _ _ _ _ _ h => h) ?_
      · rintro B i g vg σ' H' eB e' hi hg ⟨⟨y, z, u, rfl⟩, ha⟩
        have gm := List.mem_of_getElem? hi
        have g7 := cuts_seven gm
        have gb : ∀ x ∈ g, x < 4294967296 := fun x hx => hb x (cuts_mem gm x hx)
        refine q_asg (v := natV (broken g)) (ev_c1 (S := seqR K natR) (er_ev (ev_var rfl) hg) fun x H1 e hx Q q E => ⟨x, g, rfl, hx, g7, gb, q⟩) fun H2 e2 => ?_
        refine s_when (b := decide (0 < broken g)) (et_is (et_test (ev_op (ev_var rfl) ev_c rv_I0)) cast_lt0) (fun hr H3 e3 => ?_) (fun hr H3 e3 => ?_)
        · refine s_retL (xs := [natV (broken g), natV i]) (el_lst (ea_cons (ev_var rfl) (ea_cons (ev_var rfl) ea_nil)) (by simp)) fun p H4 hp e4 h4 => ?_
          exact ret_goL q (e1.trans (eB.trans ((e'.trans e2).trans e3))) hp e4 h4 (by rw [mfault_at hw hi (Nat.ne_of_gt (of_decide_eq_true hr)) ha]; rfl)
        · refine ⟨(e'.trans e2).trans e3, ⟨_, _, _, rfl⟩, fun j g' hj hg' => ?_⟩
          by_cases hji : j < i
          · exact ha j g' hji hg'
          · have : j = i := by omega
            subst this
            have : g' = g := Option.some.inj (hg'.symm.trans hi)
            subst this
            have := of_decide_eq_false hr
            omega
      · rintro σ' H' e' ⟨⟨y, z, u, rfl⟩, ha⟩
        refine s_retL (xs := []) (el_lst ea_nil (by decide)) fun p H4 hp e4 h4 => ?_
        exact ret_goL q (e1.trans e') hp e4 h4 (by rw [mfault_ok hw fun j g hj => ha j g (List.getElem?_eq_some_iff.mp hj).1 hj]; rfl)
theorem ok_product_of_ratios {f : Addr} {fd : FuncData} (F : Fun K "product_of_ratios" "product_of_ratios" s_product_of_ratios f fd) (M : Mg mg) (D_rods_of : Def P w K mg base "rods_of" 1 ["make"] (spRods K)) : FnOk P w K mg base CX0 2 f fd ["make"] (spProd K) := by
  refine F.ok sc_product_of_ratios (fun vs H Q E h => ?_) (fun cdv A outer s H vs Q E hr h => ⟨_, (pss_cons (ps_set (i := 1) sc_product_of_ratios.nd rfl (.inl rfl) pe_int)
      (pss_cons (ps_for PassesOwn.never rfl (pi_list (pe_callD D_rods_of hr (by decide) (pa_cons (pv 0) pa_nil))) (pg_name (i := 2) sc_product_of_ratios.nd rfl (.inl rfl)) (pss_one (ps_set (i := 1) sc_product_of_ratios.nd rfl (.inl rfl) (pe_op op_mulX (pv 1) (pe_ix (ixL (K := K)) (pv 2) pe_int (fun _ _ => rfl))))))
      (pss_one (ps_ret (pv 1))))), ?_⟩)
  · obtain ⟨v, g, rfl, _⟩ := h
    rfl
  · obtain ⟨v, l, rfl, hv, h7, hl, hb, q⟩ := h
    have hlt : ∀ g ∈ cuts l, ix g 0 < 2 ^ 32 := fun g hg => worthT_le (cuts_seven hg) (fun x hx => hb x (cuts_mem hg x hx)) 0
    refine q_asg (v := natV 1) ev_c fun H1 e1 => ?_
    refine q_forR (K := K) (R := seqR K natR) (l := cuts l) (er_nl (en_rods ((seqR K natR).mono e1 hv) h7 hl (ev_var rfl))) (fun i σ' _ => ∃ y, σ' = [some v, some (natV (prodR ((cuts l).take i))), y]) (fun _ _ => ⟨none, rfl⟩) ?_ ?_
    · rintro B i g vg σ' H' eB e' hi hg ⟨y, rfl⟩
      have gm := List.mem_of_getElem? hi
      have lt : prodR ((cuts l).take i) < 2 ^ (1 + 32 * ((cuts l).take i).length) := prod_lt _ 1 1 (by decide) fun g hg => hlt g (mem_take hg)
      have l3 : ((cuts l).take i).length ≤ 100 := by
        rw [List.length_take, cuts_len]
        exact Nat.le_trans (Nat.min_le_right _ _) (by omega)
      refine s_asg (ev_op (ev_var rfl) (nat_ix (j := 0) hg (by rw [cuts_seven gm]; decide) (ev_var rfl)) (rv_I (mulx_ok (b := 32) (lt_pow_abs lt) (lt_pow_abs (hlt g gm)) (by omega)))) fun H2 e2 => ⟨e'.trans e2, some vg, ?_⟩
      unfold prodR
      rw [take_fold hi]
      exact congrArg (fun x => [some v, some (V.int x), some vg]) (by push_cast; rfl)
    · rintro σ' H' e' ⟨y, rfl⟩
      refine s_ret (ev_var rfl) fun H2 e2 => ?_
      rw [List.take_length]
      exact q H2 ((e1.trans e').trans e2)
def part3 (g : List Nat) (a b c : Nat) : Nat → Nat
  | 0 => 0
  | 1 => a * ix g 2
  | 2 => a * ix g 2 + b * ix g 4
  | _ => count3 g a b c
theorem part3_turn {g : List Nat} {a b c i x y z : Nat} (hi : (decks g)[i]? = some (x, y)) (hz : [a, b, c][i]? = some z) : part3 g a b c (i + 1) = part3 g a b c i + z * y := by
  match i, hi, hz with
  | 0, hi, hz =>
    have e := Option.some.inj hi
    have e2 := Option.some.inj hz
    rw [← (Prod.mk.inj e).2, ← e2]
    show a * ix g 2 = 0 + a * ix g 2
    omega
  | 1, hi, hz =>
    have e := Option.some.inj hi
    have e2 := Option.some.inj hz
    rw [← (Prod.mk.inj e).2, ← e2]
    rfl
  | 2, hi, hz =>
    have e := Option.some.inj hi
    have e2 := Option.some.inj hz
    rw [← (Prod.mk.inj e).2, ← e2]
    rfl
  | n + 3, hi, _ => cases hi
theorem ok_count_of {f : Addr} {fd : FuncData} (F : Fun K "count_of" "count_of" s_count_of f fd) (M : Mg mg) (D_decks_of : Def P w K mg base "decks_of" 1 ["rod"] (spDecks K)) : FnOk P w K mg base CX0 2 f fd ["rod", "push"] (spCount K) := by
  refine F.ok sc_count_of (fun vs H Q E h => ?_) (fun cdv A outer s H vs Q E hr h => ⟨_, (pss_cons (ps_set (i := 2) sc_count_of.nd rfl (.inl rfl) pe_int)
      (pss_cons (ps_for PassesOwn.never rfl (pi_zip rfl M.b_zip (pa_cons (pv 1) (pa_cons (pe_callD D_decks_of hr (by decide) (pa_cons (pv 0) pa_nil)) pa_nil))) (pg_tup rfl (pgs_cons (pg_name (i := 3) sc_count_of.nd rfl (.inl rfl)) (pgs_cons (pg_name (i := 4) sc_count_of.nd rfl (.inl rfl)) pgs_nil))) (pss_one (ps_set (i := 2) sc_count_of.nd rfl (.inl rfl) (pe_op op_add (pv 2) (pe_op op_mulX (pv 3) (pe_ix (ixT (K := K)) (pv 4) pe_int (fun _ _ => rfl)))))))
      (pss_one (ps_ret (pv 2))))), ?_⟩)
  · obtain ⟨v, w, g, a, b, c, rfl, _⟩ := h
    rfl
  · obtain ⟨v, w, g, a, b, c, rfl, hv, hw, h7, hb, ha, hb2, hc, q⟩ := h
    refine q_asg (v := natV 0) ev_c fun H1 e1 => ?_
    refine q_forZip (K := K) (R := natR) (S := pairR natR natR) (l := [a, b, c]) (m := decks g) rfl (ec_cons (er_ev (ev_var rfl) ((seqR K natR).mono e1 hw)) (ec_cons (er_seq (er_decks ((seqR K natR).mono e1 hv) h7 (ev_var rfl))) ec_nil)) (fun i σ' _ => ∃ y z, σ' = [some v, some w, some (natV (part3 g a b c i)), y, z]) (fun _ _ => ⟨none, none, rfl⟩) ?_ (fun _ _ _ _ _ h => h) ?_
    · rintro B i p d vp vd σ' H' eB e' hi hj rfl hd ⟨y, z, rfl⟩
      have lt := decks_lt h7 hb (List.mem_of_getElem? hj)
      have hlt : p < 4294967296 := by
        have hm := List.mem_of_getElem? hi
        simp only [List.mem_cons, List.not_mem_nil, or_false] at hm
        rcases hm with rfl | rfl | rfl
        · exact ha
        · exact hb2
        · exact hc
      refine s_asg (ev_op (ev_var rfl) (ev_op (ev_var rfl) (ev_nat (er_snd (K := K) (R := natR) (S := natR) (a := d.1) (b := d.2) (er_ev (ev_var rfl) hd))) (rv_I (mulx_ok (a := 32) (b := 32) (lt_pow_abs hlt) (lt_pow_abs lt.2) (by decide)))) rv_I0) fun H2 e2 => ⟨e'.trans e2, some (natV p), some vd, ?_⟩
      rw [part3_turn hj hi]
      exact congrArg (fun x => [some v, some w, some (V.int x), some (natV p), some vd]) (by push_cast; rfl)
    · rintro σ' H' e' ⟨y, z, rfl⟩
      exact s_ret (ev_var rfl) fun H2 e2 => q H2 ((e1.trans e').trans e2)
theorem ok_digits_of {f : Addr} {fd : FuncData} (F : Fun K "digits_of" "digits_of" s_digits_of f fd) (M : Mg mg) (D_rods_of : Def P w K mg base "rods_of" 1 ["make"] (spRods K)) : FnOk P w K mg base CX0 2 f fd ["value", "make"] (spDigitsOf K) := by
  refine F.ok sc_digits_of (fun vs H Q E h => ?_) (fun cdv A outer s H vs Q E hr h => ⟨_, (pss_cons (ps_set (i := 2) sc_digits_of.nd rfl (.inl rfl) (pe_lst pa_nil))
      (pss_cons (ps_set (i := 3) sc_digits_of.nd rfl (.inl rfl) (pv 0))
      (pss_cons (ps_for PassesOwn.never rfl (pi_list (pe_callD D_rods_of hr (by decide) (pa_cons (pv 1) pa_nil))) (pg_name (i := 4) sc_digits_of.nd rfl (.inl rfl)) (pss_cons (ps_expr (pe_bm PySem.F.plainAttrs_list PySem.F.slot_list_append PySem.F.type_list_append mt_append (pv 2) (pa_cons (pe_op op_mod (pv 3) (pe_ix (ixL (K := K)) (pv 4) pe_int (fun _ _ => rfl))) pa_nil)))
      (pss_one (ps_set (i := 3) sc_digits_of.nd rfl (.inl rfl) (pe_op op_fdivW (pv 3) (pe_ix (ixL (K := K)) (pv 4) pe_int (fun _ _ => rfl)))))))
      (pss_one (ps_ret (pv 2)))))), ?_⟩)
  · obtain ⟨v, l, u, rfl, _⟩ := h
    rfl
  · obtain ⟨v, l, u, rfl, hv, h7, hl, hr0, q⟩ := h
    refine q_asgL (el_lst ea_nil (by decide)) fun p H1 hp e1 h1 => ?_
    refine q_asg (ev_var rfl) fun H2 e2 => ?_
    have e12 := e1.trans e2
    refine q_forN (K := K) (en_rods ((seqR K natR).mono e12 hv) h7 hl (ev_var rfl)) (fun i σ' H' => Ex H H' ∧ (∃ y, σ' = [some (natV u), some v, some (.ref p), some (natV (lefts ((cuts l).take i) u)), y]) ∧ H' p = some (.lst ((digs ((cuts l).take i) u).map natV))) (fun H3 e3 => ⟨e12.trans e3, ⟨none, rfl⟩, e3 _ _ (e2 _ _ h1)⟩) ?_ ?_
    · rintro B i g vg σ' H' eB kB hi hg ⟨e', ⟨y, rfl⟩, hx⟩
      have gm := List.mem_of_getElem? hi
      have hg' := hg H' kB
      have ht : (cuts l).take (i + 1) = (cuts l).take i ++ [g] := by rw [List.take_add_one, hi]; rfl
      have hb := hr0 g gm
      have ri : ∀ H3, Ex H' H3 → Ev (tOp (rIxL K) (tVar 4) (tC (.int 0))) [some (natV u), some v, some (.ref p), some (natV (lefts ((cuts l).take i) u)), some vg] H3 (natV (ix g 0)) := fun H3 e3 => nat_ix (j := 0) ((seqR K natR).mono e3 hg') (by rw [cuts_seven gm]; decide) (ev_var rfl)
      refine q_app (K := K) hx (ev_var rfl) (ev_op (ev_var rfl) (ri H' (Ex.refl _)) (rv_I (Int.ofNat_lt.mpr hb.1))) (by rw [List.length_map, digs_len, List.length_take, cuts_len]; omega) fun H3 e3 => ?_
      have kp3 : Kept H2 B (upd H3 p (.lst ((digs ((cuts l).take i) u).map natV ++ [.int ((lefts ((cuts l).take i) u : Int) % (ix g 0 : Int))]))) := (kB.ex e3).old (by rw [e2 _ _ h1]; simp)
      have hg3 := hg _ kp3
      refine s_asg (ev_op (ev_var rfl) (nat_ix (j := 0) hg3 (by rw [cuts_seven gm]; decide) (ev_var rfl)) (rv_I (wide_div (b := 32) (Int.ofNat_lt.mpr hb.1) (lt_pow_abs hb.2) (by decide) (by decide)))) fun H4 e4 => ⟨kp3.ex e4, ((Ex.mut (e'.trans e3) hp).trans e4), ⟨some vg, ?_⟩, ?_⟩
      · rw [ht]
        unfold lefts
        rw [List.foldl_append]
        rfl
      · rw [ht, digs_snoc, List.map_append]
        exact e4 _ _ upd_same
    · rintro σ' H' ⟨e', ⟨y, rfl⟩, hx⟩
      rw [List.take_length] at hx
      exact s_ret (ev_var rfl) fun H3 e3 => q _ _ (e'.trans e3) ⟨p, _, rfl, hp, e3 _ _ hx, List.length_map _, fun i a hi => ⟨natV a, by rw [List.getElem?_map, hi]; rfl, fun _ _ => rfl⟩⟩
theorem ok_pushes_in_order {f : Addr} {fd : FuncData} (F : Fun K "pushes_in_order" "pushes_in_order" s_pushes_in_order f fd) (M : Mg mg) : FnOk P w K mg base CX0 1 f fd ["rod"] (spPushesOn K) := by
  refine F.ok sc_pushes_in_order (fun vs H Q E h => ?_) (fun cdv A outer s H vs Q E hr h => ⟨_, (pss_cons (ps_set (i := 1) sc_pushes_in_order.nd rfl (.inl rfl) (pe_lst pa_nil))
      (pss_cons (ps_for PassesOwn.never rfl (pi_range1 rfl M.b_range (pa_cons (pe_op op_add (pe_ix (ixL (K := K)) (pv 0) pe_int (fun _ _ => rfl)) pe_int) pa_nil)) (pg_name (i := 2) sc_pushes_in_order.nd rfl (.inl rfl)) (pss_one (ps_for PassesOwn.never rfl (pi_range1 rfl M.b_range (pa_cons (pe_op op_add (pe_ix (ixL (K := K)) (pv 0) pe_int (fun _ _ => rfl)) pe_int) pa_nil)) (pg_name (i := 3) sc_pushes_in_order.nd rfl (.inl rfl)) (pss_one (ps_for PassesOwn.never rfl (pi_range1 rfl M.b_range (pa_cons (pe_op op_add (pe_ix (ixL (K := K)) (pv 0) pe_int (fun _ _ => rfl)) pe_int) pa_nil)) (pg_name (i := 4) sc_pushes_in_order.nd rfl (.inl rfl)) (pss_one (ps_expr (pe_bm PySem.F.plainAttrs_list PySem.F.slot_list_append PySem.F.type_list_append mt_append (pv 1) (pa_cons (pe_lst (pa_cons (pv 2) (pa_cons (pv 3) (pa_cons (pv 4) pa_nil)))) pa_nil)))))))))
      (pss_one (ps_ret (pv 1))))), ?_⟩)
  · obtain ⟨v, g, rfl, _⟩ := h
    rfl
  · obtain ⟨v, g, rfl, hv, h7, hn, q⟩ := h
    obtain ⟨b1, b3, b5⟩ := beads_le hn
    refine q_asgL (el_lst ea_nil (by decide)) fun p H2 hA e2 h2 => ?_
    have lim : ∀ (σ : L2.St) (j : Nat) (H3 : Hp), j < 7 → σ[0]? = some (some v) → Ex H H3 → EvA (tCons (tOp (rI0 fun i j => .int (i + j)) (tOp (rIxL K) (tVar 0) (tC (.int (j : Int)))) (tC (.int 1))) tNil) σ H3 [.int ((ix g j + 1 : Nat) : Int)] := fun σ j H3 hj hσ k =>
      ea_cons (ev_is (ev_op (nat_ix ((seqR K natR).mono k hv) (by omega) (ev_var hσ)) ev_c rv_I0) (congrArg V.int (by push_cast; rfl))) ea_nil
    refine q_forR1 (n := ((ix g 1 + 1 : Nat) : Int)) (lim _ 1 H2 (by decide) rfl e2) ⟨by omega, by omega⟩ (fun i σ' H' => (∃ x y z, σ' = [some v, some (.ref p), x, y, z]) ∧ Grown H p (row1 g i) H') (fun H3 e3 => ⟨⟨none, none, none, rfl⟩, e2.trans e3, [], e3 _ _ h2, Flats.nil⟩) ?_ ?_
    · rintro i σ' H3 hi ⟨⟨x, y, z, rfl⟩, g3⟩
      refine s_forR1 (n := ((ix g 3 + 1 : Nat) : Int)) (lim _ 3 H3 (by decide) rfl g3.1) ⟨by omega, by omega⟩ (fun j σ' H' => (∃ y z, σ' = [some v, some (.ref p), some (natV i), y, z]) ∧ Grown H p (row1 g i ++ row2 g i j) H') (fun H4 e4 => ⟨⟨_, _, rfl⟩, by
        rw [show row2 g i 0 = [] from rfl, List.append_nil]
        exact g3.ex e4⟩) ?_ ?_
      · rintro j σ' H4 hj ⟨⟨y, z, rfl⟩, g4⟩
        refine s_forR1 (n := ((ix g 5 + 1 : Nat) : Int)) (lim _ 5 H4 (by decide) rfl g4.1) ⟨by omega, by omega⟩ (fun k σ' H' => (∃ z, σ' = [some v, some (.ref p), some (natV i), some (natV j), z]) ∧ Grown H p (row1 g i ++ row2 g i j ++ row3 i j k) H') (fun H5 e5 => ⟨⟨_, rfl⟩, by
          rw [show row3 i j 0 = [] from rfl, List.append_nil]
          exact g4.ex e5⟩) ?_ ?_
        · rintro k σ' H5 hk ⟨⟨z, rfl⟩, g5, xs, h5, f5⟩
          refine s_appL (K := K) h5 (ev_var rfl) (el_lst (ea_cons (ev_var rfl) (ea_cons (ev_var rfl) (ea_cons (ev_var rfl) ea_nil))) (Nat.le_of_lt_succ (by simp))) (by
            rw [f5.1]
            have := rows_small hn (i := i) (j := j) (k := k) (a := i) (a2 := i) (b2 := j) (by omega) (by omega) (by omega)
            omega) fun r H6 hr e6 h6 => ⟨⟨some (natV k), rfl⟩, Ex.mut (g5.trans e6) hA, _, upd_same, ?_⟩
          rw [row3_succ, ← List.append_assoc]
          exact ((f5.snoc e6 (.inl g5) (by rw [h5]; simp) hr (a := [i, j, k]) h6)).upd
        · rintro σ' H5 ⟨⟨z, rfl⟩, g5⟩
          refine ⟨⟨_, _, rfl⟩, ?_⟩
          rw [Int.toNat_natCast, List.append_assoc, ← row2_succ] at g5
          exact g5
      · rintro σ' H4 ⟨⟨y, z, rfl⟩, g4⟩
        refine ⟨⟨_, _, _, rfl⟩, ?_⟩
        rw [Int.toNat_natCast, ← row1_succ] at g4
        exact g4
    · rintro σ' H3 ⟨⟨x, y, z, rfl⟩, g3, xs, h3, f3⟩
      rw [Int.toNat_natCast] at f3
      exact s_ret (ev_var rfl) fun H4 e4 => q _ _ (g3.trans e4) (by rw [← pushes3_eq]; exact (f3.ex e4).newLst hA (e4 _ _ h3))
theorem push3 {g : List Nat} {p : List Nat} (hn : numsSound g = true) (h : p ∈ Na.pushes (D3 g)) : ∃ a b c, p = [a, b, c] ∧ a ≤ 15 ∧ b ≤ 15 ∧ c ≤ 15 := push_three hn (by rw [pushes3_eq]; exact h)
theorem good_all {l : List Nat} (hm : mfault l = []) : ∀ g ∈ cuts l, numsSound g = true ∧ worthT g ≤ 255 := fun g hg => ⟨(broken_sound (fit_of hm g hg)).1, (broken_sound (fit_of hm g hg)).2.1⟩
theorem pos_all {l : List Nat} (hm : mfault l = []) : AllPos (cuts l) := pos_of_good (good_of hm)
theorem prodR_pos : ∀ (gs : List (List Nat)), AllPos gs → 1 ≤ prodR gs
  | [], _ => Nat.le_refl _
  | g :: gs, hg => by
    rw [prodR_cons]
    exact Nat.mul_le_mul (hg g (List.mem_cons_self ..)) (prodR_pos gs fun y hy => hg y (List.mem_cons_of_mem _ hy))
theorem rawVal_lt : ∀ (gs : List (List Nat)) (st : List Nat), (∀ g ∈ gs, g.length = 7 ∧ ∀ x ∈ g, x < 4294967296) → (∀ j, st.getD j 0 < 4294967296) → rawVal gs st < 2 ^ (66 + 33 * gs.length)
  | [], _, _, _ => Nat.two_pow_pos _
  | g :: gs, st, hg, hs => by
    have h1 := hg g (List.mem_cons_self ..)
    have ih := rawVal_lt gs (st.drop 3) (fun y hy => hg y (List.mem_cons_of_mem _ hy)) fun j => by rw [getD_drop]; exact hs _
    have hc := count3_lt h1.1 h1.2 (hs 0) (hs 1) (hs 2)
    have hr := worthT_le h1.1 h1.2 0
    show count3 g (st.getD 0 0) (st.getD 1 0) (st.getD 2 0) + ix g 0 * rawVal gs (st.drop 3) < 2 ^ (66 + 33 * (gs.length + 1))
    have e : 2 ^ (66 + 33 * (gs.length + 1)) = 2 ^ 33 * 2 ^ (66 + 33 * gs.length) := by rw [← Nat.pow_add]; congr 1; omega
    have h66 : 2 ^ 66 ≤ 2 ^ (66 + 33 * gs.length) := Nat.pow_le_pow_right (by decide) (by omega)
    have hm : ix g 0 * rawVal gs (st.drop 3) ≤ 4294967296 * 2 ^ (66 + 33 * gs.length) := Nat.mul_le_mul (Nat.le_of_lt hr) (Nat.le_of_lt ih)
    rw [e]
    generalize 2 ^ (66 + 33 * gs.length) = B at *
    omega
theorem find_at {α : Type} {P : α → Bool} {l : List α} {i : Nat} {p : α} (h : l[i]? = some p) : (l.drop i).find? P = if P p = true then some p else (l.drop (i + 1)).find? P := by
  rw [List.drop_eq_getElem_cons (List.getElem?_eq_some_iff.mp h).1, (List.getElem?_eq_some_iff.mp h).2, List.find?_cons]
  cases P p <;> rfl
theorem sound_pos {b w : Nat} (h : sound b w = true) (hb : b ≠ 0) : w ≠ 0 := fun hw => by
  unfold sound at h
  rw [if_pos (.inr hw), hw] at h
  exact hb (eq_of_beq h)
theorem ok_ways_with_deck {f : Addr} {fd : FuncData} (F : Fun K "ways_with_deck" "ways_with_deck" s_ways_with_deck f fd) (M : Mg mg) : FnOk P w K mg base CX0 1 f fd ["ways", "deck"] (spDeck K deckW) := by
  refine F.ok sc_ways_with_deck (fun vs H Q E h => ?_) (fun cdv A outer s H vs Q E hr h => ⟨_, (pss_cons (ps_if (pt_cmpR op_eq (pe_ix (ixT (K := K)) (pv 1) pe_int (fun _ _ => rfl)) pe_int (nomark _)) (pss_one (ps_ret (pv 0))) pss_nil)
      (pss_cons (ps_set (i := 2) sc_ways_with_deck.nd rfl (.inl rfl) (pe_ix (ixT (K := K)) (pv 1) pe_int (fun _ _ => rfl)))
      (pss_cons (ps_set (i := 3) sc_ways_with_deck.nd rfl (.inl rfl) (pe_op op_mulX (pe_op op_add (pe_ix (ixT (K := K)) (pv 1) pe_int (fun _ _ => rfl)) pe_int) (pv 2)))
      (pss_cons (ps_set (i := 4) sc_ways_with_deck.nd rfl (.inl rfl) (pe_op op_cat (pv 0) (pe_op op_rep (pe_lst (pa_cons pe_int pa_nil)) (pe_op op_mulX (pe_ix (ixT (K := K)) (pv 1) pe_int (fun _ _ => rfl)) (pv 2)))))
      (pss_cons (ps_for PassesOwn.never rfl (pi_range2 rfl M.b_range (pa_cons (pv 2) (pa_cons (pe_callB (lenS (K := K)) (by rfl) M.b_len PySem.boot_len (pa_cons (pv 4) pa_nil)) pa_nil))) (pg_name (i := 5) sc_ways_with_deck.nd rfl (.inl rfl)) (pss_one (ps_asg (pe_op op_add (pe_ix (ixL (K := K)) (pv 4) (pv 5) (fun _ _ => rfl)) (pe_ix (ixL (K := K)) (pv 4) (pe_op op_sub (pv 5) (pv 2)) (fun _ _ => rfl))) (pg_sub (pv 4) (pv 5) set_list))))
      (pss_cons (ps_for PassesOwn.never rfl (pi_range3 rfl M.b_range (pa_cons (pe_op op_sub (pe_callB (lenS (K := K)) (by rfl) M.b_len PySem.boot_len (pa_cons (pv 4) pa_nil)) pe_int) (pa_cons (pe_op op_sub (pv 3) pe_int) (pa_cons (pe_un un_neg pe_int) pa_nil)))) (pg_name (i := 5) sc_ways_with_deck.nd rfl (.inl rfl)) (pss_one (ps_asg (pe_op op_sub (pe_ix (ixL (K := K)) (pv 4) (pv 5) (fun _ _ => rfl)) (pe_ix (ixL (K := K)) (pv 4) (pe_op op_sub (pv 5) (pv 3)) (fun _ _ => rfl))) (pg_sub (pv 4) (pv 5) set_list))))
      (pss_one (ps_ret (pv 4))))))))), ?_⟩)
  · obtain ⟨v, d, xs, b, w, rfl, _⟩ := h
    rfl
  · obtain ⟨v, d, xs, b, w, rfl, hv, hd, hbw, hb, hw, hl, q⟩ := h
    refine q_when (b := decide (b = 0)) (et_is (et_test (ev_op (ev_nat (er_fst (er_ev (ev_var rfl) hd))) ev_c (rv_eq rfl))) cast_eq0) (fun hn H1 e1 => ?_) (fun hn H1 e1 => ?_)
    · refine s_ret (ev_var rfl) fun H2 e2 => q v H2 (e1.trans e2) ?_
      rw [of_decide_eq_true hn, deckW_zero]
      exact (lstR natR).mono (e1.trans e2) hv
    · have w0 : 0 < w := Nat.pos_of_ne_zero (hbw (of_decide_eq_false hn))
      have hd1 := (pairR natR natR).mono e1 hd
      refine q_asg (v := natV w) (ev_nat (er_snd (er_ev (ev_var rfl) hd1))) fun H2 e2 => ?_
      have hd2 := (pairR natR natR).mono e2 hd1
      have bw : b * w ≤ 15 * 63 := Nat.mul_le_mul hb hw
      have mw : (b + 1) * w = b * w + w := by rw [Nat.add_mul, Nat.one_mul]
      refine q_asg (v := natV ((b + 1) * w)) (ev_is (ev_op (ev_op (ev_nat (er_fst (er_ev (ev_var rfl) hd2))) ev_c rv_I0) (ev_var rfl) (rv_I (mulx_ok (a := 32) (b := 32) (lt_pow_abs (c := b + 1) (by omega)) (lt_pow_abs (by omega)) (by decide)))) (congrArg V.int (by push_cast; rfl))) fun H3 e3 => ?_
      have hd3 := (pairR natR natR).mono e3 hd2
      obtain ⟨a, vs, rfl, ha, hvs⟩ := hv
      obtain rfl := items_nat hvs
      have ha3 := (e1.trans (e2.trans e3)) _ _ ha
      refine q_asgL (xs := xs.map natV ++ List.replicate (b * w) (natV 0)) (el_catR (ev_var rfl) ha3 (el_rep1 (el_lst (ea_cons ev_c ea_nil) (by decide)) (fun H4 e4 => ev_is (ev_op (ev_nat (er_fst (er_ev (ev_var rfl) ((pairR natR natR).mono e4 hd3)))) (ev_var rfl) (rv_I (mulx_ok (a := 32) (b := 32) (lt_pow_abs (by omega)) (lt_pow_abs (by omega)) (by decide)))) (congrArg V.int (by push_cast; rfl))) (by omega)) (by rw [List.length_map, List.length_replicate]; omega)) fun p H4 hp e4 h4 => ?_
      have e14 := ((e1.trans (e2.trans e3)).trans e4)
      have hp0 : H p = none := fresh_back (e1.trans (e2.trans e3)) hp
      have h4 : H4 p = some (.lst ((xs ++ List.replicate (b * w) 0).map natV)) := by
        rw [h4, List.map_append, List.map_replicate]
      generalize hL : xs.length + b * w = L
      have hLl : (xs ++ List.replicate (b * w) 0).length = L := by
        rw [List.length_append, List.length_replicate]
        exact hL
      generalize hT : (fun n => xs.getD n 0) = T
      have hTc : ∀ c, (xs ++ List.replicate (b * w) 0).getD c 0 = T c := fun c => by
        rw [← hT]
        show (xs ++ List.replicate (b * w) 0).getD c 0 = xs.getD c 0
        rw [List.getD_eq_getElem?_getD, List.getD_eq_getElem?_getD]
        by_cases hc : c < xs.length
        · rw [List.getElem?_append_left hc]
        · rw [List.getElem?_append_right (by omega), List.getElem?_replicate, List.getElem?_eq_none_iff.mpr (show xs.length ≤ c by omega)]
          split <;> rfl
      generalize hm : (b + 1) * w = m at mw
      refine q_forR2 (lo := (w : Int)) (n := (L : Int)) (ea_cons (ev_var rfl) (ea_cons (ev_is (ev_len (ev_var rfl) (sq_of h4)) (congrArg (fun n : Nat => V.int (n : Int)) (by rw [List.length_map, hLl]))) ea_nil)) ⟨by omega, by omega, by omega, by omega⟩
        (fun i σ' H' => Ex H H' ∧ (∃ y, σ' = [some (.ref a), some d, some (natV w), some (natV m), some (.ref p), y]) ∧ ∃ ys : List Nat, H' p = some (.lst (ys.map natV)) ∧ ys.length = L ∧ ∀ c, c < L → ys.getD c 0 = if c < w + i then endless w T c else T c)
        (fun H5 e5 => ⟨e14.trans e5, ⟨none, rfl⟩, _, e5 _ _ h4, hLl, fun c hc => by
          rw [hTc]
          split
          · exact (endless_low w T (by omega)).symm
          · rfl⟩) ?_ ?_
      · rintro i σ' H5 hi ⟨e5, ⟨y, rfl⟩, ys, hy, hyl, hyc⟩
        have ei : V.int ((w : Int) + (i : Int)) = natV (w + i) := congrArg V.int (by push_cast; rfl)
        rw [ei]
        have lt : w + i < L := by omega
        refine s_setN (j := w + i) (n := ys.getD (w + i) 0 + ys.getD i 0) hy (ev_is (ev_op (ev_at (o := 0) hy (by omega) (ev_var rfl) (ev_var rfl)) (ev_at (o := 0) (j := i) hy (by omega) (ev_var rfl) (ev_is (ev_op (ev_var rfl) (ev_var rfl) rv_I0) (congrArg V.int (by push_cast; omega)))) rv_I0) (congrArg V.int (by push_cast; rfl))) (ev_var rfl) (ev_var rfl) (by omega) fun H6 e6 => ⟨Ex.mut (e5.trans e6) hp0, ⟨_, rfl⟩, _, upd_same, by rw [List.length_set]; exact hyl, fun c hc => ?_⟩
        rw [getD_set (by omega)]
        by_cases h1 : c = w + i
        · rw [if_pos h1, h1, if_pos (by omega), hyc _ lt, hyc _ (by omega), if_neg (by omega), if_pos (by omega), endless_step w T w0]
        · rw [if_neg h1, hyc c hc]
          by_cases h2 : c < w + i
          · rw [if_pos h2, if_pos (by omega)]
          · rw [if_neg h2, if_neg (by omega)]
      · rintro σ' H5 ⟨e5, ⟨y, rfl⟩, ys, hy, hyl, hyc⟩
        have hyc : ∀ c, c < L → ys.getD c 0 = endless w T c := fun c hc => by rw [hyc c hc, if_pos (by omega)]
        refine q_forDn (hi := (L : Int) - 1) (lo := (m : Int) - 1) (ea_cons (ev_is (ev_op (ev_len (ev_var rfl) (sq_of hy)) ev_c rv_I0) (congrArg V.int (by rw [List.length_map, hyl]))) (ea_cons (ev_op (ev_var rfl) ev_c rv_I0) (ea_cons (ev_un ev_c ru_neg) ea_nil))) ⟨by omega, by omega, by omega, by omega⟩
          (fun i σ' H' => Ex H H' ∧ (∃ y, σ' = [some (.ref a), some d, some (natV w), some (natV m), some (.ref p), y]) ∧ ∃ ys : List Nat, H' p = some (.lst (ys.map natV)) ∧ ys.length = L ∧ ∀ c, c < L → ys.getD c 0 = if L - i ≤ c ∧ m ≤ c then endless w T c - endless w T (c - m) else endless w T c)
          (fun H6 e6 => ⟨e5.trans e6, ⟨_, rfl⟩, ys, e6 _ _ hy, hyl, fun c hc => by rw [hyc c hc, if_neg (by omega)]⟩) ?_ ?_
        · rintro i σ' H6 hi ⟨e6, ⟨y, rfl⟩, ys, hy, hyl, hyc⟩
          have ei : V.int ((L : Int) - 1 - (i : Int)) = natV (L - 1 - i) := congrArg V.int (by omega)
          rw [ei]
          have lt : L - 1 - i < L := by omega
          have ge : m ≤ L - 1 - i := by omega
          have v1 : ys.getD (L - 1 - i) 0 = endless w T (L - 1 - i) := by rw [hyc _ lt, if_neg (by omega)]
          have v2 : ys.getD (L - 1 - i - m) 0 = endless w T (L - 1 - i - m) := by rw [hyc _ (by omega), if_neg (by omega)]
          have le : endless w T (L - 1 - i - m) ≤ endless w T (L - 1 - i) := by
            have := endless_cut w b T w0 (L - 1 - i)
            rw [hm, if_pos ge] at this
            omega
          refine s_setN (j := L - 1 - i) (n := endless w T (L - 1 - i) - endless w T (L - 1 - i - m)) hy (ev_is (ev_op (ev_at (o := 0) hy (by omega) (ev_var rfl) (ev_var rfl)) (ev_at (o := 0) (j := L - 1 - i - m) hy (by omega) (ev_var rfl) (ev_is (ev_op (ev_var rfl) (ev_var rfl) rv_I0) (congrArg V.int (sub_nat ge)))) rv_I0) (by rw [v1, v2]; exact congrArg V.int (sub_nat le))) (ev_var rfl) (ev_var rfl) (by omega) fun H7 e7 => ⟨Ex.mut (e6.trans e7) hp0, ⟨_, rfl⟩, _, upd_same, by rw [List.length_set]; exact hyl, fun c hc => ?_⟩
          rw [getD_set (by omega)]
          by_cases h1 : c = L - 1 - i
          · rw [if_pos h1, if_pos (by omega), h1]
          · rw [if_neg h1, hyc c hc]
            by_cases h2 : L - i ≤ c ∧ m ≤ c
            · rw [if_pos h2, if_pos (by omega)]
            · rw [if_neg h2, if_neg (by omega)]
        · rintro σ' H6 ⟨e6, ⟨y, rfl⟩, ys, hy, hyl, hyc⟩
          have e : ys = deckW xs b w := list_getD (d := 0) (by rw [hyl, deckW_len, hL]) fun c hc => by
            rw [hyl] at hc
            have hcut := endless_cut w b T w0 c
            rw [hm] at hcut
            rw [deckW_at, hyc c hc, hT]
            by_cases h1 : m ≤ c
            · rw [if_pos h1] at hcut
              rw [if_pos (by omega)]
              omega
            · rw [if_neg h1] at hcut
              rw [if_neg (by omega)]
              omega
          subst e
          exact s_ret (ev_var rfl) fun H7 e7 => q _ H7 (e6.trans e7) ⟨p, _, rfl, e7 _ _ hy, nat_items _⟩
theorem dig_at {l : List Nat} {u i d : Nat} {g : List Nat} (hg : (cuts l)[i]? = some g) (hd : (digs (cuts l) u)[i]? = some d) : d = dig (cuts l) u i g := by
  rw [digs_at _ _ _ _ hg] at hd
  exact (Option.some.inj hd).symm
theorem ok_carried_numbers {f : Addr} {fd : FuncData} (F : Fun K "carried_numbers" "carried_numbers" s_carried_numbers f fd) (M : Mg mg) (D_rods_of : Def P w K mg base "rods_of" 1 ["make"] (spRods K)) (D_digits_of : Def P w K mg base "digits_of" 2 ["value", "make"] (spDigitsOf K)) (D_decks_of : Def P w K mg base "decks_of" 1 ["rod"] (spDecks K)) : FnOk P w K mg base CX0 3 f fd ["value", "make", "nothing", "with_deck"] (spCarried P w K mg base) := by
  refine F.ok sc_carried_numbers (fun vs H Q E h => ?_) (fun cdv A outer s H vs Q E hr h => ?_)
  · obtain ⟨v, l, u, a0, f, F, rfl, _⟩ := h
    rfl
  · obtain ⟨v, l, u, a0, f, F, rfl, hmk, hm, hF, hh_with_deck, q⟩ := h
    refine ⟨_, (pss_cons (ps_set (i := 4) sc_carried_numbers.nd rfl (.inl rfl) (pe_lst (pa_cons (pe_lst (pa_cons (pv 2) pa_nil)) pa_nil)))
      (pss_cons (ps_for PassesOwn.never rfl (pi_zip rfl M.b_zip (pa_cons (pe_callD D_rods_of hr (by decide) (pa_cons (pv 1) pa_nil)) (pa_cons (pe_callD D_digits_of hr (by decide) (pa_cons (pv 0) (pa_cons (pv 1) pa_nil))) pa_nil))) (pg_tup rfl (pgs_cons (pg_name (i := 5) sc_carried_numbers.nd rfl (.inl rfl)) (pgs_cons (pg_name (i := 6) sc_carried_numbers.nd rfl (.inl rfl)) pgs_nil))) (pss_cons (ps_set (i := 7) sc_carried_numbers.nd rfl (.inl rfl) (pe_ix (ixL (K := K)) (pv 4) (pe_un un_neg pe_int) (fun _ _ => rfl)))
      (pss_cons (ps_for PassesOwn.never rfl (pi_list (pe_callD D_decks_of hr (by decide) (pa_cons (pv 5) pa_nil))) (pg_name (i := 8) sc_carried_numbers.nd rfl (.inl rfl)) (pss_one (ps_set (i := 7) sc_carried_numbers.nd rfl (.inl rfl) (let ⟨_, _, h1, h2, h3⟩ := hh_with_deck.ex; pe_callL (i := 3) h1 (hr.mono (by decide)) (by rfl) (by first | exact Or.inl rfl | exact Or.inr (Or.inl rfl) | exact Or.inr (Or.inr rfl)) h2 h3 .nil pass0 (pa_cons (pv 7) (pa_cons (pv 8) pa_nil))))))
      (pss_one (ps_expr (pe_bm PySem.F.plainAttrs_list PySem.F.slot_list_append PySem.F.type_list_append mt_append (pv 4) (pa_cons (pe_every (K := K) (pv 7) (po_some (pv 6)) po_none (po_some (pe_ix (ixL (K := K)) (pv 5) pe_int (fun _ _ => rfl)))) pa_nil)))))))
      (pss_one (ps_ret (pv 4))))), ?_⟩
    have wf := whole_facts (mfault_nil hm).1
    have hga := good_all hm
    have hl64 : (cuts l).length ≤ 64 := by
      rw [cuts_len]
      omega
    have hr0 : ∀ g ∈ cuts l, 0 < ix g 0 ∧ ix g 0 < 2 ^ 32 := fun g hg => ⟨ratio_pos (fit_of hm g hg), worthT_le (cuts_seven hg) (fun x hx => hmk.2.2 x (cuts_mem hg x hx)) 0⟩
    refine q_asgNest (n := a0) (ev_var rfl) fun p H1 hp g1 => ?_
    have hp1 : H1 p ≠ none := by
      obtain ⟨_, xs, h1, _⟩ := g1
      rw [h1]
      simp
    refine q_forZipN (K := K) (R := seqR K natR) (S := natR) (l := cuts l) (m := digs (cuts l) u) (digs_len _ _).symm (en_rods (hmk.mono g1.1).1 wf.2.2 hmk.2.1 (ev_var rfl)) (en_c2 (S := natR) (T := seqR K natR) (er_nat (ev_var rfl)) (er_ev (ev_var rfl) (hmk.mono g1.1).1) fun x y H1 e hx hy Q q E => ⟨y, l, u, by rw [show x = natV u from hx], hy, wf.2.2, hmk.2.1, hr0, q⟩)
      (fun i σ' H' => (∃ x y z t, σ' = [some (natV u), some v, some (natV a0), some (.ref f), some (.ref p), x, y, z, t]) ∧ Grown H p (rows F every (cuts l) u a0 i) H') (fun H2 e2 => ⟨⟨none, none, none, none, rfl⟩, g1.ex e2⟩) ?_ (fun i σ' H' H'' e h => ⟨h.1, h.2.ex e⟩) ?_
    · rintro B i g d vg vd σ' H2 eB kB hi hj hg hd ⟨⟨x, y, z, t, rfl⟩, g2⟩
      have gm := List.mem_of_getElem? hi
      have il := (List.getElem?_eq_some_iff.mp hi).1
      have g7 := cuts_seven gm
      obtain rfl : vd = natV d := hd.now
      obtain rfl := dig_at hi hj
      obtain ⟨gsnd, gw⟩ := hga g gm
      have lr := row_len hF every_is u a0 hga i (by omega)
      have hst := (nums_facts gsnd).2.2.1
      refine q_asgR (R := lstR natR) (a := rowAt F every (cuts l) u a0 i) (er_last (K := K) (er_ev (ev_var rfl) g2.seq) (by rw [rows_len, Nat.add_sub_cancel]; exact rows_at (Nat.le_refl _))) fun nv H3 e3 hnv => ?_
      have kB3 := kB.ex e3
      refine q_forR (K := K) (R := pairR natR natR) (l := decks g) (er_seq (er_decks (hg H3 kB3) g7 (ev_var rfl))) (fun j σ2 H4 => ∃ nv t, σ2 = [some (natV u), some v, some (natV a0), some (.ref f), some (.ref p), some vg, some (natV (dig (cuts l) u i g)), some nv, t] ∧ (lstR natR).at_ H4 nv (((decks g).take j).foldl (fun xs d => F xs d.1 d.2) (rowAt F every (cuts l) u a0 i))) (fun H4 e4 => ⟨nv, _, rfl, (lstR natR).mono e4 hnv⟩) ?_ ?_
      · rintro C j dk vdk σ2 H4 eC e4 hj2 hdk ⟨nv2, t2, rfl, hn2⟩
        have sd := hst dk (List.mem_of_getElem? hj2)
        have sl := sound_le sd
        have lj := step_len hF g (rowAt F every (cuts l) u a0 i) gw j
        refine s_asgR (R := lstR natR) (a := F (((decks g).take j).foldl (fun xs d => F xs d.1 d.2) (rowAt F every (cuts l) u a0 i)) dk.1 dk.2) (er_L (er_c2 (S := lstR natR) (T := pairR natR natR) (er_ev (ev_var rfl) hn2) (er_ev (ev_var rfl) hdk) fun x y H1 e hx hy Q q E => ⟨x, y, _, dk.1, dk.2, rfl, hx, hy, sound_pos sd, sl.1, sl.2, by omega, q⟩) rfl) fun nv3 H5 e5 hn3 => ⟨e4.trans e5, nv3, _, rfl, ?_⟩
        rw [take_fold hj2]
        exact hn3
      · rintro σ2 H4 e4 ⟨nv2, t2, rfl, hn2⟩
        rw [List.take_length] at hn2
        have hn2 : (lstR natR).at_ H4 nv2 (rodStep F g (rowAt F every (cuts l) u a0 i)) := hn2
        obtain ⟨na, nvs, rfl, hna, hnvs⟩ := hn2
        obtain rfl := items_nat hnvs
        have e24 := e3.trans e4
        obtain ⟨g2e, xs, hxs, hfl⟩ := g2
        have hx4 := e24 _ _ hxs
        have hr := hr0 g gm
        refine s_appL (K := K) (ys := (every (rodStep F g (rowAt F every (cuts l) u a0 i)) (dig (cuts l) u i g) (ix g 0)).map natV) hx4 (ev_var rfl) (by
          rw [← every_map _ _ _ _ hr.1]
          exact el_every (ev_var rfl) (ev_var rfl) (nat_ix (j := 0) (hg H4 (kB3.ex e4)) (by rw [g7]; decide) (ev_var rfl)) (sq_of hna) hr.1) (by rw [hfl.1, rows_len]; omega) fun r H5 hr5 e5 h5 => ⟨(kB3.ex (e4.trans e5)).old hp1, ⟨_, _, _, _, rfl⟩, Ex.mut ((g2e.trans e24).trans e5) hp, _, upd_same, ?_⟩
        rw [rows_succ, rowAt_succ _ _ _ _ hi]
        exact (((hfl.ex e24).snoc e5 (.inl (g2e.trans e24)) (by rw [hx4]; simp) hr5 h5)).upd
    · rintro σ' H2 ⟨⟨x, y, z, t, rfl⟩, g2e, xs, hxs, hfl⟩
      exact s_ret (ev_var rfl) fun H3 e3 => q _ _ (g2e.trans e3) ((hfl.ex e3).newLst hp (e3 _ _ hxs))
theorem ok_number_at {f : Addr} {fd : FuncData} (F : Fun K "number_at" "number_at" s_number_at f fd) (M : Mg mg) : FnOk P w K mg base CX0 1 f fd ["numbers", "place", "otherwise"] (spNumAt K) := by
  refine F.ok sc_number_at (fun vs H Q E h => ?_) (fun cdv A outer s H vs Q E hr h => ⟨_, (pss_cons (ps_if (PW.pt (pw_or (pt_cmpR op_lt (pv 1) pe_int (nomark _)) (pw_or1 (pt_cmpR op_ge (pv 1) (pe_callB (lenS (K := K)) (by rfl) M.b_len PySem.boot_len (pa_cons (pv 0) pa_nil)) (nomark _))))) (pss_one (ps_ret (pv 2))) pss_nil)
      (pss_one (ps_ret (pe_ix (ixL (K := K)) (pv 0) (pv 1) (fun _ _ => rfl))))), ?_⟩)
  · obtain ⟨v, xs, z, o, rfl, _⟩ := h
    rfl
  · obtain ⟨v, xs, z, o, rfl, hv, q⟩ := h
    refine q_when (b := decide (z < 0) || decide ((xs.length : Int) ≤ z)) (et_or (et_test (ev_op (ev_var rfl) ev_c rv_I0)) fun _ => et_test (ev_op (ev_var rfl) (er_len (K := K) (R := natR) (er_ev (ev_var rfl) hv)) rv_I0)) (fun hn H1 e1 => ?_) (fun hn H1 e1 => ?_)
    · refine s_ret (ev_var rfl) fun H2 e2 => ret_to q (e1.trans e2) (congrArg (fun n : Nat => natV n) ?_)
      unfold numAt
      rw [Bool.or_eq_true, decide_eq_true_eq, decide_eq_true_eq] at hn
      by_cases h0 : z < 0
      · rw [if_pos h0]
      · rw [if_neg h0, getD_out (by omega)]
    · rw [Bool.or_eq_false_iff, decide_eq_false_iff_not, decide_eq_false_iff_not] at hn
      obtain ⟨n, rfl⟩ : ∃ n : Nat, z = (n : Int) := ⟨z.toNat, by omega⟩
      have hnl : n < xs.length := by omega
      rw [numAt_nat, List.getD_eq_getElem?_getD, List.getElem?_eq_getElem hnl] at q
      exact s_ret (ev_nat (er_ixv (K := K) (R := natR) (er_ev (ev_var rfl) ((seqR K natR).mono e1 hv)) (fun H3 _ => ev_var rfl) (List.getElem?_eq_getElem hnl))) fun H2 e2 => q H2 (e1.trans e2)
/-- three arguments -/
theorem ev_c3 {α β γ : Type} {R : Rep α} {S : Rep β} {T : Rep γ} {a : α} {b : β} {c : γ} {σ : L2.St} {H : Hp} {ta tb tc : TE} {v : V} {sp : Sp} {E : XK} (h : EvR R ta σ H a) (h' : EvR S tb σ H b) (h'' : EvR T tc σ H c) (hs : ∀ x y z H1, Ex H H1 → R.at_ H1 x a → S.at_ H1 y b → T.at_ H1 z c → ∀ Q : VK, RetV v H1 Q → ∀ E, sp [x, y, z] H1 Q E) : Ev (tCall sp [] E (tCons ta (tCons tb (tCons tc tNil)))) σ H v :=
  ev_call1 (ec_cons h (ec_cons h' (ec_cons h'' ec_nil))) fun vs H1 e ⟨x, r, h1, h2, y, r', h3, h4, z, r'', h5, h6, h7⟩ Q q E => by
    subst h1 h3 h5 h7
    exact hs x y z H1 e h2 h4 h6 Q q E
def intR : Rep Int := ⟨fun _ v n => v = .int n, fun _ h => h⟩
theorem er_int {σ : L2.St} {H : Hp} {te : TE} {n : Int} (h : Ev te σ H (.int n)) : EvR intR te σ H n := er_ev h rfl
/-- value // product_of_ratios(make) -/
theorem ev_units {H : Hp} {σ : L2.St} {ta tb : TE} {v : V} {l : List Nat} {u : Nat} (hmk : MkAt K H v l) (hm : mfault l = []) (ha : Ev ta σ H (natV u)) (hb : Ev tb σ H v) : Ev (tOp (rI CDivW fun i j => .int (i / j)) ta (tCall (spProd K) [] E0 (tCons tb tNil))) σ H (natV (u / prodR (cuts l))) := by
  have wf := whole_facts (mfault_nil hm).1
  have hpos := pos_prod _ (pos_all hm)
  have lt : prodR (cuts l) < 2 ^ (1 + 32 * (cuts l).length) := prod_lt _ 1 1 (by decide) fun g hg => worthT_le (cuts_seven hg) (fun x hx => hmk.2.2 x (cuts_mem hg x hx)) 0
  have hl64 : (cuts l).length ≤ 64 := by
    rw [cuts_len]
    omega
  exact ev_is (ev_op ha (ev_c1 (S := seqR K natR) (v := natV (prodR (cuts l))) (er_ev hb hmk.1) fun x H1 e hx Q q E => ⟨x, l, rfl, hx, wf.2.2, hmk.2.1, hmk.2.2, q⟩) (rv_I (wide_div (Int.ofNat_lt.mpr hpos) (lt_pow_abs lt) (by omega) (by omega)))) (congrArg V.int (Int.natCast_ediv _ _).symm)
/-- number_at, called -/
theorem ev_numAt {H : Hp} {σ : L2.St} {ta tb tc : TE} {xs : List Nat} {z : Int} {o : Nat} (ha : EvR (seqR K natR) ta σ H xs) (hb : Ev tb σ H (.int z)) (hc : Ev tc σ H (natV o)) : Ev (tCall (spNumAt K) [] E0 (tCons ta (tCons tb (tCons tc tNil)))) σ H (natV (numAt xs z o)) :=
  ev_c3 (R := seqR K natR) (S := intR) (T := natR) ha (er_int hb) (er_nat hc) fun x y w H1 e hx hy hw Q q E => ⟨x, xs, z, o, by rw [show y = .int z from hy, show w = natV o from hw], hx, q⟩
/-- carried_numbers, called -/
theorem en_carried {P : Program} {w : World} {mg : Str → Option Value} {base : Heap} {H : Hp} {σ : L2.St} {ta tb tc td : TE} {v : V} {l : List Nat} {u a0 : Nat} {f : Addr} {F : List Nat → Nat → Nat → List Nat} (hmk : MkAt K H v l) (hm : mfault l = []) (hF : Longer F) (hf : L2.Held P w K mg base 1 f (spDeck K F)) (ha : Ev ta σ H (natV u)) (hb : Ev tb σ H v) (hc : Ev tc σ H (natV a0)) (hd : Ev td σ H (.ref f)) :
    EvNL (lstR natR) (tCall (spCarried P w K mg base) [] E0 (tCons ta (tCons tb (tCons tc (tCons td tNil))))) σ H (rows F every (cuts l) u a0 (cuts l).length) :=
  en_call (ec_cons (R := natR) (a := u) (er_nat ha) (ec_cons (R := ⟨fun H v (_ : Unit) => MkAt K H v l, fun e h => h.mono e⟩) (a := ()) (er_ev hb hmk) (ec_cons (R := natR) (a := a0) (er_nat hc) (ec_cons (R := ⟨fun _ v (_ : Unit) => v = .ref f, fun _ h => h⟩) (a := ()) (er_ev hd rfl) ec_nil)))) fun vs H1 e ⟨x, r, g1, g2, y, r', g3, g4, z, r'', g5, g6, t, r3, g7, g8, g9⟩ Q q E => by
    subst g1 g3 g5 g7 g9
    exact ⟨y, l, u, a0, f, F, by rw [show x = natV u from g2, show z = natV a0 from g6, show t = .ref f from g8], g4, hm, hF, hf, q⟩
/-- digits_of, called -/
theorem en_digits {H : Hp} {σ : L2.St} {ta tb : TE} {v : V} {l : List Nat} {u : Nat} (hmk : MkAt K H v l) (hm : mfault l = []) (ha : Ev ta σ H (natV u)) (hb : Ev tb σ H v) : EvNL natR (tCall (spDigitsOf K) [] E0 (tCons ta (tCons tb tNil))) σ H (digs (cuts l) u) := by
  have wf := whole_facts (mfault_nil hm).1
  have hr0 : ∀ g ∈ cuts l, 0 < ix g 0 ∧ ix g 0 < 2 ^ 32 := fun g hg => ⟨ratio_pos (fit_of hm g hg), worthT_le (cuts_seven hg) (fun x hx => hmk.2.2 x (cuts_mem hg x hx)) 0⟩
  exact en_c2 (S := natR) (T := seqR K natR) (er_nat ha) (er_ev hb hmk.1) fun x y H1 e hx hy Q q E => ⟨y, l, u, by rw [show x = natV u from hx], hy, wf.2.2, hmk.2.1, hr0, q⟩
theorem rods_few {l : List Nat} (hm : mfault l = []) : 0 < (cuts l).length ∧ (cuts l).length ≤ 64 := by
  have wf := whole_facts (mfault_nil hm).1
  rw [cuts_len]
  omega
/-- count_of, called on a push -/
theorem ev_countP {H : Hp} {σ : L2.St} {ta tb : TE} {vg : V} {g p : List Nat} (hg : (seqR K natR).at_ H vg g) (g7 : g.length = 7) (gb : ∀ x ∈ g, x < 4294967296) (hn : numsSound g = true) (hp : p ∈ Na.pushes (D3 g)) (ha : Ev ta σ H vg) (hb : EvR (seqR K natR) tb σ H p) : Ev (tCall (spCount K) [] E0 (tCons ta (tCons tb tNil))) σ H (natV (Na.worthOf (D3 g) p)) := by
  obtain ⟨a1, a2, a3, rfl, l1, l2, l3⟩ := push3 hn hp
  rw [worth_three]
  exact ev_c2 (S := seqR K natR) (T := seqR K natR) (er_ev ha hg) hb fun x y H1 e hx hy Q q E => ⟨x, y, g, a1, a2, a3, rfl, hx, hy, g7, gb, by omega, by omega, by omega, q⟩
theorem worth_bits {g p : List Nat} (hn : numsSound g = true) (hp : p ∈ Na.pushes (D3 g)) : True := trivial
theorem ok_numbered_standing {f : Addr} {fd : FuncData} (F : Fun K "numbered_standing" "numbered_standing" s_numbered_standing f fd) (M : Mg mg) (D_carried_numbers : Def P w K mg base "carried_numbers" 3 ["value", "make", "nothing", "with_deck"] (spCarried P w K mg base)) (D_ways_with_deck : Def P w K mg base "ways_with_deck" 1 ["ways", "deck"] (spDeck K deckW)) (D_product_of_ratios : Def P w K mg base "product_of_ratios" 2 ["make"] (spProd K)) (D_number_at : Def P w K mg base "number_at" 1 ["numbers", "place", "otherwise"] (spNumAt K)) (D_pushes_in_order : Def P w K mg base "pushes_in_order" 1 ["rod"] (spPushesOn K)) (D_rods_of : Def P w K mg base "rods_of" 1 ["make"] (spRods K)) (D_digits_of : Def P w K mg base "digits_of" 2 ["value", "make"] (spDigitsOf K)) (D_count_of : Def P w K mg base "count_of" 2 ["rod", "push"] (spCount K)) : FnOk P w K mg base CX0 4 f fd ["value", "k", "make"] (spNthOf K) := by
  obtain ⟨fa_ways_with_deck, hm_ways_with_deck, hwd⟩ := D_ways_with_deck.held
  refine F.ok sc_numbered_standing (fun vs H Q E h => ?_) (fun cdv A outer s H vs Q E hr h => ⟨_, (pss_cons (ps_set (i := 3) sc_numbered_standing.nd rfl (.inl rfl) (pe_callD D_carried_numbers hr (by decide) (pa_cons (pv 0) (pa_cons (pv 2) (pa_cons pe_int (pa_cons (pe_glob (v := V.ref fa_ways_with_deck) (by rfl) hm_ways_with_deck rfl) pa_nil))))))
      (pss_cons (ps_set (i := 4) sc_numbered_standing.nd rfl (.inl rfl) (pe_op op_fdivW (pv 0) (pe_callD D_product_of_ratios hr (by decide) (pa_cons (pv 2) pa_nil))))
      (pss_cons (ps_if (pt_cmpR op_ge (pv 1) (pe_callD D_number_at hr (by decide) (pa_cons (pe_ix (ixL (K := K)) (pv 3) (pe_un un_neg pe_int) (fun _ _ => rfl)) (pa_cons (pv 4) (pa_cons pe_int pa_nil)))) (nomark _)) (pss_one (ps_ret (pe_lst pa_nil))) pss_nil)
      (pss_cons (ps_set (i := 5) sc_numbered_standing.nd rfl (.inl rfl) (pv 1))
      (pss_cons (ps_set (i := 6) sc_numbered_standing.nd rfl (.inl rfl) (pe_lst pa_nil))
      (pss_cons (ps_for PassesOwn.never rfl (pi_reversed rfl M.b_reversed (pa_cons (pe_listZip3 rfl (by rfl) M.b_list (by rfl) M.b_zip (pa_cons (pe_callD D_rods_of hr (by decide) (pa_cons (pv 2) pa_nil)) (pa_cons (pe_callD D_digits_of hr (by decide) (pa_cons (pv 0) (pa_cons (pv 2) pa_nil))) (pa_cons (pv 3) pa_nil)))) pa_nil)) (pg_tup rfl (pgs_cons (pg_name (i := 7) sc_numbered_standing.nd rfl (.inl rfl)) (pgs_cons (pg_name (i := 8) sc_numbered_standing.nd rfl (.inl rfl)) (pgs_cons (pg_name (i := 9) sc_numbered_standing.nd rfl (.inl rfl)) pgs_nil)))) (pss_cons (ps_set (i := 10) sc_numbered_standing.nd rfl (.inl rfl) (pe_op op_add (pv 8) (pe_op op_mulX (pv 4) (pe_ix (ixL (K := K)) (pv 7) pe_int (fun _ _ => rfl)))))
      (pss_cons (ps_for PassesOwn.never rfl (pi_list (pe_callD D_pushes_in_order hr (by decide) (pa_cons (pv 7) pa_nil))) (pg_name (i := 11) sc_numbered_standing.nd rfl (.inl rfl)) (pss_cons (ps_set (i := 4) sc_numbered_standing.nd rfl (.inl rfl) (pe_op op_sub (pv 10) (pe_callD D_count_of hr (by decide) (pa_cons (pv 7) (pa_cons (pv 11) pa_nil)))))
      (pss_cons (ps_set (i := 12) sc_numbered_standing.nd rfl (.inl rfl) (pe_callD D_number_at hr (by decide) (pa_cons (pv 9) (pa_cons (pv 4) (pa_cons pe_int pa_nil)))))
      (pss_cons (ps_if (pt_cmpR op_lt (pv 5) (pv 12) (nomark _)) (pss_one ps_break) pss_nil)
      (pss_one (ps_set (i := 5) sc_numbered_standing.nd rfl (.inl rfl) (pe_op op_sub (pv 5) (pv 12))))))))
      (pss_one (ps_set (i := 6) sc_numbered_standing.nd rfl (.inl rfl) (pe_op op_cat (pv 11) (pv 6)))))))
      (pss_one (ps_ret (pv 6))))))))), ?_⟩)
  · obtain ⟨v, l, u, k, rfl, _⟩ := h
    rfl
  · obtain ⟨v, l, u, k, rfl, hmk, hm, hu4, q⟩ := h
    have wf := whole_facts (mfault_nil hm).1
    have hpos := pos_all hm
    have hN := rods_few hm
    refine q_asgN (R := lstR natR) (en_carried hmk hm deckW_is hwd (ev_var rfl) (ev_var rfl) ev_c ev_c) fun cv H1 e1 hc => ?_
    have hcs : (seqR K (lstR natR)).at_ H1 cv (rows deckW every (cuts l) u 1 (cuts l).length) := lst_seq hc.stay.now
    refine q_asg (ev_units (hmk.mono e1) hm (ev_var rfl) (ev_var rfl)) fun H2 e2 => ?_
    have hcs2 := (seqR K (lstR natR)).mono e2 hcs
    have hcnt : numAt (rowAt deckW every (cuts l) u 1 (cuts l).length) ((u / prodR (cuts l) : Nat) : Int) 0 = cnt3F isZero (cuts l) u := by
      rw [numAt_nat, rowW every_is hpos u _ (Nat.le_refl _), wayN_all hpos]
    refine q_when (b := decide (cnt3F isZero (cuts l) u ≤ k)) (et_is (et_test (ev_op (ev_var rfl) (ev_is (ev_numAt (er_seq (er_last (K := K) (er_ev (ev_var rfl) hcs2) (by rw [rows_len, Nat.add_sub_cancel]; exact rows_at (Nat.le_refl _)))) (ev_var rfl) ev_c) (congrArg (fun n : Nat => natV n) hcnt)) rv_I0)) cast_le) (fun hn H3 e3 => ?_) (fun hn H3 e3 => ?_)
    · rw [nth3_none hpos (Nat.le_refl _) (by rw [List.take_length]; exact of_decide_eq_true hn)] at q
      exact s_retN (en_flat (l := []) (el_lst ea_nil (by decide))) fun v H4 e4 hv => q v H4 ((e1.trans e2).trans (e3.trans e4)) (hv.from_ ((e1.trans e2).trans e3))
    · have hk := Nat.lt_of_not_le (of_decide_eq_false hn)
      obtain ⟨s0, hs0, hs0l⟩ := nth3_some hpos (i := (cuts l).length) (v := u) (k := k) (Nat.le_refl _) (by rw [List.take_length]; exact hk)
      rw [hs0] at q
      have q : RetNL natR s0 H Q := q
      refine q_asg (v := natV k) (ev_var rfl) fun H4 e4 => ?_
      refine q_asgL (xs := []) (el_lst ea_nil (by decide)) fun p0 H5 hp0 e5 h5 => ?_
      have e25 := (e3.trans e4).trans e5
      have e05 := (e1.trans e2).trans e25
      have hcs5 := (seqR K (lstR natR)).mono e25 hcs2
      have hmk5 := hmk.mono e05
      refine q_forRev3 (K := K) (R := seqR K natR) (S := natR) (T := lstR natR) (l := trio deckW (cuts l) u 1) (er_seq (er_zip3 hN.1 (Nat.le_of_eq (digs_len _ _).symm) (by rw [rows_len]; exact Nat.le_succ _) (ec_cons (er_nl (en_rods hmk5.1 wf.2.2 hmk.2.1 (ev_var rfl))) (ec_cons (er_nl (en_digits hmk5 hm (ev_var rfl) (ev_var rfl))) (ec_cons (er_ev (ev_var rfl) hcs5) ec_nil)))))
        (fun i σ' H' => ∃ m, m + i = (cuts l).length ∧ ∃ p s x r a1 a2 a3 a4 a5 a6, σ' = [some (natV u), some (natV k), some v, some cv, some (natV x), some (natV r), some (.ref p), a1, a2, a3, a4, a5, a6] ∧ H' p = some (.lst (s.map natV)) ∧ H p = none ∧ s.length = 3 * i ∧ valW (cuts l) u m x ≤ u ∧ r < wayN (cuts l) u m x ∧ some s0 = (nth3 (cuts l) m (valW (cuts l) u m x) r).map fun t => t ++ s)
        (fun H6 e6 => ⟨(cuts l).length, rfl, p0, [], u / prodR (cuts l), k, none, none, none, none, none, none, rfl, e6 _ _ h5, fresh_back ((e1.trans e2).trans (e3.trans e4)) hp0, rfl, Nat.le_of_eq (valW_all hpos u), by rw [wayN_all hpos]; exact hk, by rw [valW_all hpos, hs0]; exact congrArg some (List.append_nil s0).symm⟩) ?_ ?_
      · rintro B i g d row vg vd vr σ' H6 eB e6 hi hit hg hd hrow ⟨m, hmi, p, s, x, r, a1, a2, a3, a4, a5, a6, rfl, hsp, hpn, hsl, hvu, hrk, hnth⟩
        rw [trio_len] at hi hit
        obtain ⟨m, rfl⟩ : ∃ m', m = m' + 1 := ⟨m - 1, by omega⟩
        have hmi' : (cuts l).length - 1 - i = m := by omega
        rw [hmi'] at hit
        obtain ⟨hgm, rfl, rfl⟩ := trio_at hit
        obtain rfl : vd = natV _ := hd
        have gm := List.mem_of_getElem? hgm
        have g7 := cuts_seven gm
        have gb : ∀ x ∈ g, x < 4294967296 := fun x hx => hmk.2.2 x (cuts_mem gm x hx)
        have gs := (good_all hm g gm).1
        have x4 : x < 2 ^ 400 := Nat.lt_of_le_of_lt (units_le hpos hvu) hu4
        obtain ⟨pp, jj, hpick, hpm, hle, hjlt, hstep⟩ := nth3_step hpos hgm hrk
        rw [valW_succ hgm] at hpick hle hjlt hstep hnth
        generalize hcc : dig (cuts l) u m g + x * ix g 0 = c at hpick hle hjlt hstep hnth
        have hPp := pos_prod _ (hpos.take m)
        have hwc := (under hPp (Nat.mod_lt u hPp)).mp hle
        rw [under_sub hwc] at hjlt hstep
        refine q_asg (v := natV c) (ev_is (ev_op (ev_var rfl) (ev_op (ev_var rfl) (nat_ix (j := 0) hg (by omega) (ev_var rfl)) (rv_I (mulx_ok (a := 400) (b := 32) (lt_pow_abs x4) (lt_pow_abs (worthT_le g7 gb 0)) (by decide)))) rv_I0) (congrArg V.int (by rw [← hcc]; push_cast; rfl))) fun H7 e7 => ?_
        have hg7 := (seqR K natR).mono e7 hg
        refine q_forR (K := K) (R := lstR natR) (l := Na.pushes (D3 g)) (er_seq (er_n (en_l (en_c1 (S := seqR K natR) (er_ev (ev_var rfl) hg7) fun x H1 e hx Q q E => ⟨x, g, rfl, hx, g7, gs, q⟩)))) (fun j σ' _ => ∃ un r' b1 b2, σ' = [some (natV u), some (natV k), some v, some cv, some un, some (natV r'), some (.ref p), some vg, some (natV (dig (cuts l) u m g)), some vr, some (natV c), b1, b2] ∧ pickG (fun p => cnt3F (isN (Na.worthOf (D3 g) p)) ((cuts l).take m) (u % prodR ((cuts l).take m) + c * prodR ((cuts l).take m))) ((Na.pushes (D3 g)).drop j) r' = some (pp, jj)) (fun H8 e8 => ⟨_, r, _, _, rfl, by rw [List.drop_zero]; exact hpick⟩) ?_ ?_
        · rintro C j pu vp σ' H8 eC e8 hj hpu ⟨un, r', b1, b2, rfl, hpk⟩
          have hpum := List.mem_of_getElem? hj
          rw [pickG_at hj] at hpk
          have e78 := eC.trans e8
          have hg8 := (seqR K natR).mono e78 hg7
          refine q_asg (v := .int ((c : Int) - (Na.worthOf (D3 g) pu : Nat))) (ev_op (ev_var rfl) (ev_countP hg8 g7 gb gs hpum (ev_var rfl) (er_seq (er_ev (ev_var rfl) hpu))) rv_I0) fun H9 e9 => ?_
          have hrow9 := (lstR natR).mono ((e7.trans e78).trans e9) hrow
          refine q_asg (v := natV (cnt3F (isN (Na.worthOf (D3 g) pu)) ((cuts l).take m) (u % prodR ((cuts l).take m) + c * prodR ((cuts l).take m)))) (ev_is (ev_numAt (er_seq (er_ev (ev_var rfl) hrow9)) (ev_var rfl) ev_c) (congrArg (fun n : Nat => natV n) (look_way hpos (by omega)))) fun H10 e10 => ?_
          refine q_when (b := decide (r' < cnt3F (isN (Na.worthOf (D3 g) pu)) ((cuts l).take m) (u % prodR ((cuts l).take m) + c * prodR ((cuts l).take m)))) (et_is (et_test (ev_op (ev_var rfl) (ev_var rfl) rv_I0)) cast_lt) (fun hn H11 e11 => ?_) (fun hn H11 e11 => ?_)
          · rw [if_pos (of_decide_eq_true hn)] at hpk
            obtain ⟨rfl, rfl⟩ := Prod.mk.inj (Option.some.inj hpk)
            have e811 := (e9.trans e10).trans e11
            have e611 := (e7.trans e78).trans e811
            have hpl : pu.length = 3 := by
              obtain ⟨q1, q2, q3, rfl, _⟩ := push3 gs hpum
              rfl
            refine s_asgL (xs := (pu ++ s).map natV) (el_catV (ev_var rfl) ((lstR natR).mono e811 hpu) (ev_var rfl) ⟨p, _, rfl, e611 _ _ hsp, nat_items s⟩ (by rw [hsl, hpl]; omega)) fun p2 H12 hp2 e12 h12 => ?_
            refine ⟨(e6.trans e611).trans e12, m, by omega, p2, pu ++ s, c - Na.worthOf (D3 g) pu, r', _, _, _, _, _, _, congrArg (fun z => [some (natV u), some (natV k), some v, some cv, some z, some (natV r'), some (.ref p2), some vg, some (natV (dig (cuts l) u m g)), some vr, some (natV c), some vp, some (natV (cnt3F (isN (Na.worthOf (D3 g) pu)) ((cuts l).take m) (u % prodR ((cuts l).take m) + c * prodR ((cuts l).take m))))]) (congrArg V.int (sub_nat hwc)), h12, fresh_back ((e05.trans eB).trans (e6.trans e611)) hp2, by rw [List.length_append, hsl, hpl]; omega, ?_, hjlt, ?_⟩
            · have h1 := valW_succ hgm u x
              rw [hcc] at h1
              have h2 := Nat.mul_le_mul_right (prodR ((cuts l).take m)) (Nat.sub_le c (Na.worthOf (D3 g) pu))
              unfold valW at hvu ⊢
              unfold valW at h1
              omega
            · rw [hnth, hstep, Option.map_map]
              refine congrArg (fun f => Option.map f _) (funext fun t => ?_)
              show (t ++ pu) ++ s = t ++ (pu ++ s)
              rw [List.append_assoc]
          · rw [if_neg (of_decide_eq_false hn)] at hpk
            refine s_asg (v := natV (r' - cnt3F (isN (Na.worthOf (D3 g) pu)) ((cuts l).take m) (u % prodR ((cuts l).take m) + c * prodR ((cuts l).take m)))) (ev_is (ev_op (ev_var rfl) (ev_var rfl) rv_I0) (congrArg V.int (sub_nat (Nat.le_of_not_lt (of_decide_eq_false hn))))) fun H12 e12 => ⟨(((e8.trans e9).trans e10).trans e11).trans e12, _, _, _, _, rfl, hpk⟩
        · rintro σ' H8 e8 ⟨un, r', b1, b2, rfl, hpk⟩
          rw [List.drop_length] at hpk
          cases hpk
      · rintro σ' H6 e6 ⟨m, hmi, p, s, x, r, a1, a2, a3, a4, a5, a6, rfl, hsp, hpn, hsl, hvu, hrk, hnth⟩
        rw [trio_len] at hmi
        have hm0 : m = 0 := by omega
        subst hm0
        have hz : valW (cuts l) u 0 x = 0 ∧ r = 0 := by
          have h' : r < if valW (cuts l) u 0 x = 0 then 1 else 0 := hrk
          by_cases c : valW (cuts l) u 0 x = 0
          · rw [if_pos c] at h'
            exact ⟨c, by omega⟩
          · rw [if_neg c] at h'
            exact absurd h' (Nat.not_lt_zero _)
        rw [hz.1, hz.2] at hnth
        have es : s0 = s := Option.some.inj hnth
        subst es
        exact s_ret (ev_var rfl) fun H7 e7 => q _ _ (e05.trans (e6.trans e7)) ⟨p, _, rfl, hpn, e7 _ _ hsp, List.length_map _, fun i a hi => ⟨natV a, by rw [List.getElem?_map, hi]; rfl, fun _ _ => rfl⟩⟩
/-! ### refusals -/
theorem refs_nil {f : List Nat} (h : f = []) : refs f = [] := if_pos h
theorem refs_bad {f : List Nat} (h : f ≠ []) : refs f = refusal f := if_neg h
theorem refusal_v (f : List Nat) : (refusal f).map V.int = .int (-5) :: f.map natV := by
  unfold refusal
  rw [List.map_cons, List.map_map]
  rfl
theorem nums_v (f : List Nat) : (nums f).map V.int = natV 0 :: f.map natV := by
  unfold nums
  rw [List.map_cons, List.map_map]
  rfl
theorem mf_len {l : List Nat} : (mfault l).length ≤ 1000 := by
  have := mfault_short (l := l)
  rw [List.length_map] at this
  exact this
theorem sf_len (gs : List (List Nat)) (st : List Nat) : (sfault gs st).length ≤ 1000 := by
  unfold sfault
  split
  · simp
  · split <;> simp
theorem ok_refused_for {f : Addr} {fd : FuncData} (F : Fun K "refused_for" "refused_for" s_refused_for f fd) (M : Mg mg) : FnOk P w K mg base CX0 1 f fd ["fault"] (spRefused) := by
  refine F.ok sc_refused_for (fun vs H Q E h => ?_) (fun cdv A outer s H vs Q E hr h => ⟨_, (pss_cons (ps_if (pt_cmpR op_eq (pe_callB (lenS (K := K)) (by rfl) M.b_len PySem.boot_len (pa_cons (pv 0) pa_nil)) pe_int (nomark _)) (pss_one (ps_ret (pe_lst pa_nil))) pss_nil)
      (pss_one (ps_ret (pe_op op_cat (pe_lst (pa_cons (pe_un un_neg pe_int) pa_nil)) (pv 0))))), ?_⟩)
  · obtain ⟨v, f, rfl, _⟩ := h
    rfl
  · obtain ⟨v, f, rfl, ⟨p, xs, rfl, hp, hx⟩, hl, q⟩ := h
    obtain rfl := items_nat hx
    refine q_when (b := decide (f.length = 0)) (et_is (et_test (ev_op (ev_is (ev_len (ev_var rfl) (sq_of hp)) (congrArg (fun n : Nat => V.int (n : Int)) (List.length_map _))) ev_c (rv_eq rfl))) cast_eq0) (fun hn H1 e1 => ?_) (fun hn H1 e1 => ?_)
    · exact s_retL (xs := []) (el_lst ea_nil (by decide)) fun r H2 hr e2 h2 => ret_goL q e1 hr e2 h2 (by rw [refs_nil (List.length_eq_zero_iff.mp (of_decide_eq_true hn))]; rfl)
    · exact s_retL (el_cat (el_lst (ea_cons (ev_un ev_c ru_neg) ea_nil) (by decide)) (fun H1 e1 => ev_var rfl) (e1 _ _ hp) (by rw [List.length_map]; simp; omega)) fun r H2 hr e2 h2 => ret_goL q e1 hr e2 h2 (by rw [refs_bad (fun z => of_decide_eq_false hn (by rw [z]; rfl)), refusal_v]; rfl)
theorem er_flat {te : TE} {σ : L2.St} {H : Hp} {l : List Nat} (h : EvL te σ H (l.map natV)) : EvR (lstR natR) te σ H l := er_n (en_l (en_flat h))
theorem ok_make_refusal {f : Addr} {fd : FuncData} (F : Fun K "make_refusal" "make_refusal" s_make_refusal f fd) (M : Mg mg) (D_refused_for : Def P w K mg base "refused_for" 1 ["fault"] (spRefused)) (D_make_fault : Def P w K mg base "make_fault" 5 ["make"] (spFault K)) : FnOk P w K mg base CX0 6 f fd ["make"] (spMRef K) := by
  refine F.ok sc_make_refusal (fun vs H Q E h => ?_) (fun cdv A outer s H vs Q E hr h => ⟨_, (pss_one (ps_ret (pe_callD D_refused_for hr (by decide) (pa_cons (pe_callD D_make_fault hr (by decide) (pa_cons (pv 0) pa_nil)) pa_nil)))), ?_⟩)
  · obtain ⟨v, l, rfl, _⟩ := h
    rfl
  · obtain ⟨v, l, rfl, ⟨hv, hl, hb⟩, q⟩ := h
    exact s_retL (el_c1 (S := lstR natR) (er_flat (el_c1 (S := seqR K natR) (er_ev (ev_var rfl) hv) fun x H1 e hx Q q E => ⟨x, l, rfl, hx, hl, hb, q⟩)) fun x H1 e hx Q q E => ⟨x, _, rfl, hx, mf_len, q⟩) q
/-! ### the calls -/
/-- the make's or the standing's refusal, told or none -/
theorem srefs_pos {l st : List Nat} {f : List (List Nat) → List Nat → List Int} (h : 0 < ((srefs l st).map V.int).length) : srefs l st = onStanding l st f := by
  unfold srefs at h ⊢
  unfold onStanding onMake
  by_cases hm : mfault l = []
  · rw [if_pos hm] at h
    rw [if_pos hm, if_pos hm]
    by_cases hs : sfault (cuts l) st = []
    · rw [refs_nil hs] at h
      cases h
    · rw [refs_bad hs]
      exact (if_neg hs).symm
  · rw [if_neg hm, if_neg hm]
theorem srefs_zero {l st : List Nat} (h : ¬0 < ((srefs l st).map V.int).length) : mfault l = [] ∧ sfault (cuts l) st = [] := by
  by_cases hm : mfault l = []
  · refine ⟨hm, Classical.byContradiction fun z => h ?_⟩
    unfold srefs
    rw [if_pos hm, refs_bad z, refusal_v]
    simp
  · refine absurd ?_ h
    unfold srefs
    rw [if_neg hm, refusal_v]
    simp
theorem on_ok {l st : List Nat} {f : List (List Nat) → List Nat → List Int} (hm : mfault l = []) (hs : sfault (cuts l) st = []) : onStanding l st f = f (cuts l) st := by
  unfold onStanding onMake
  rw [if_pos hm]
  exact if_pos hs
theorem vrefs_pos {l : List Nat} {u : Nat} {f : List (List Nat) → List Int} (h : 0 < ((vrefs l u).map V.int).length) : vrefs l u = onMake l fun gs => below4 gs u (f gs) := by
  unfold vrefs at h ⊢
  unfold onMake
  by_cases hm : mfault l = []
  · rw [if_pos hm] at h
    rw [if_pos hm, if_pos hm]
    unfold below4 at h ⊢
    by_cases hu : u < prodR (cuts l)
    · rw [if_pos hu] at h
      cases h
    · rw [if_neg hu]
      exact (if_neg hu).symm
  · rw [if_neg hm, if_neg hm]
theorem vrefs_zero {l : List Nat} {u : Nat} (h : ¬0 < ((vrefs l u).map V.int).length) : mfault l = [] ∧ u < prodR (cuts l) := by
  by_cases hm : mfault l = []
  · refine ⟨hm, Classical.byContradiction fun z => h ?_⟩
    unfold vrefs below4
    rw [if_pos hm, if_neg z]
    decide
  · refine absurd ?_ h
    unfold vrefs
    rw [if_neg hm, refusal_v]
    simp
theorem below_ok {l : List Nat} {u : Nat} {f : List (List Nat) → List Int} (hm : mfault l = []) (hu : u < prodR (cuts l)) : (onMake l fun gs => below4 gs u (f gs)) = f (cuts l) := by
  unfold onMake below4
  rw [if_pos hm]
  exact if_pos hu
theorem refs_pos {l : List Nat} (h : 0 < ((refs (mfault l)).map V.int).length) : mfault l ≠ [] := fun z => by
  rw [refs_nil z] at h
  cases h
theorem refs_zero {l : List Nat} (h : ¬0 < ((refs (mfault l)).map V.int).length) : mfault l = [] := Classical.byContradiction fun z => h (by rw [refs_bad z, refusal_v]; simp)
theorem on_bad {l : List Nat} {f : List (List Nat) → List Int} (h : mfault l ≠ []) : onMake l f = refusal (mfault l) := if_neg h
theorem on_good {l : List Nat} {f : List (List Nat) → List Int} (h : mfault l = []) : onMake l f = f (cuts l) := if_pos h
theorem ans_nil : ans [] = [-2] := rfl
theorem ans_cons {s : List Nat} (h : s ≠ []) : ans s = nums s := if_neg h
theorem ok_standing_answer {f : Addr} {fd : FuncData} (F : Fun K "standing_answer" "standing_answer" s_standing_answer f fd) (M : Mg mg) : FnOk P w K mg base CX0 1 f fd ["standing"] (spStAns K) := by
  refine F.ok sc_standing_answer (fun vs H Q E h => ?_) (fun cdv A outer s H vs Q E hr h => ⟨_, (pss_cons (ps_if (pt_cmpR op_eq (pe_callB (lenS (K := K)) (by rfl) M.b_len PySem.boot_len (pa_cons (pv 0) pa_nil)) pe_int (nomark _)) (pss_one (ps_ret (pe_lst (pa_cons (pe_un un_neg pe_int) pa_nil)))) pss_nil)
      (pss_one (ps_ret (pe_op op_cat (pe_lst (pa_cons pe_int pa_nil)) (pv 0))))), ?_⟩)
  · obtain ⟨v, s, rfl, _⟩ := h
    rfl
  · obtain ⟨v, s, rfl, ⟨p, xs, rfl, hp, hx⟩, hl, q⟩ := h
    obtain rfl := items_nat hx
    refine q_when (b := decide (s.length = 0)) (et_is (et_test (ev_op (ev_is (ev_len (ev_var rfl) (sq_of hp)) (congrArg (fun n : Nat => V.int (n : Int)) (List.length_map _))) ev_c (rv_eq rfl))) cast_eq0) (fun hn H1 e1 => ?_) (fun hn H1 e1 => ?_)
    · exact s_retL (xs := [.int (-2)]) (el_lst (ea_cons (ev_un ev_c ru_neg) ea_nil) (by decide)) fun r H2 hr e2 h2 => ret_goL q e1 hr e2 h2 (by rw [List.length_eq_zero_iff.mp (of_decide_eq_true hn)]; rfl)
    · exact s_retL (xs := natV 0 :: s.map natV) (el_cat (xs := [natV 0]) (el_lst (ea_cons ev_c ea_nil) (by decide)) (fun H1 e1 => ev_var rfl) (e1 _ _ hp) (by rw [List.length_map]; simp; omega)) fun r H2 hr e2 h2 => ret_goL q e1 hr e2 h2 (by rw [ans_cons (fun z => of_decide_eq_false hn (by rw [z]; rfl))]; exact (nums_v s).symm)
theorem or_ans {o : Option (List Nat)} (h : ∀ s, o = some s → s ≠ []) : orTwo o = ans (o.getD []) := by
  cases o with
  | none => rfl
  | some s => exact (if_neg (h s rfl)).symm
theorem nth_len {l : List Nat} (hm : mfault l = []) {u k : Nat} {s : List Nat} (h : nth3 (cuts l) (cuts l).length u k = some s) : s.length = 3 * (cuts l).length := by
  by_cases hk : k < cnt3F isZero ((cuts l).take (cuts l).length) u
  · obtain ⟨t, h1, h2⟩ := nth3_some (pos_all hm) (Nat.le_refl _) hk
    rw [h] at h1
    rw [Option.some.inj h1]
    exact h2
  · rw [nth3_none (pos_all hm) (Nat.le_refl _) (Nat.le_of_not_lt hk)] at h
    cases h
theorem ok_nth {f : Addr} {fd : FuncData} (F : Fun K "nth" "nth" s_nth f fd) (M : Mg mg) (D_make_refusal : Def P w K mg base "make_refusal" 6 ["make"] (spMRef K)) (D_standing_answer : Def P w K mg base "standing_answer" 1 ["standing"] (spStAns K)) (D_numbered_standing : Def P w K mg base "numbered_standing" 4 ["value", "k", "make"] (spNthOf K)) : FnOk P w K mg base CX0 7 f fd ["value", "k", "make"] (spNth K) := by
  refine F.ok sc_nth (fun vs H Q E h => ?_) (fun cdv A outer s H vs Q E hr h => ⟨_, (pss_cons (ps_set (i := 3) sc_nth.nd rfl (.inl rfl) (pe_callD D_make_refusal hr (by decide) (pa_cons (pv 2) pa_nil)))
      (pss_cons (ps_if (pt_cmpR op_gt (pe_callB (lenS (K := K)) (by rfl) M.b_len PySem.boot_len (pa_cons (pv 3) pa_nil)) pe_int (nomark _)) (pss_one (ps_ret (pv 3))) pss_nil)
      (pss_one (ps_ret (pe_callD D_standing_answer hr (by decide) (pa_cons (pe_callD D_numbered_standing hr (by decide) (pa_cons (pv 0) (pa_cons (pv 1) (pa_cons (pv 2) pa_nil)))) pa_nil)))))), ?_⟩)
  · obtain ⟨v, l, u, k, rfl, _⟩ := h
    rfl
  · obtain ⟨v, l, u, k, rfl, hmk, hu4, q⟩ := h
    refine q_asgL (xs := (refs (mfault l)).map V.int) (el_c1 (S := ⟨fun H v (_ : Unit) => MkAt K H v l, fun e h => h.mono e⟩) (b := ()) (er_ev (ev_var rfl) hmk) fun x H1 e hx Q q E => ⟨x, l, rfl, hx, q⟩) fun p H1 hp e1 h1 => ?_
    refine q_when (b := decide (0 < ((refs (mfault l)).map V.int).length)) (et_is (et_test (ev_op (ev_len (ev_var rfl) (sq_of h1)) ev_c rv_I0)) cast_lt0) (fun hn H2 e2 => ?_) (fun hn H2 e2 => ?_)
    · have hm := refs_pos (of_decide_eq_true hn)
      exact s_ret (ev_var rfl) fun H3 e3 => ret_goL q (Ex.refl _) hp (e1.trans (e2.trans e3)) ((e2.trans e3) _ _ h1) (by rw [refs_bad hm, on_bad hm])
    · have hm := refs_zero (of_decide_eq_false hn)
      have hN := rods_few hm
      exact s_retL (el_c1 (S := lstR natR) (b := (nth3 (cuts l) (cuts l).length u k).getD []) (xs := (ans ((nth3 (cuts l) (cuts l).length u k).getD [])).map V.int) (er_n (en_l (en_call (ec_cons (R := natR) (a := u) (er_nat (ev_var rfl)) (ec_cons (R := natR) (a := k) (er_nat (ev_var rfl)) (ec_cons (R := ⟨fun H v (_ : Unit) => MkAt K H v l, fun e h => h.mono e⟩) (a := ()) (er_ev (ev_var rfl) (hmk.mono (e1.trans e2))) ec_nil))) fun vs H1 e ⟨x, r, g1, g2, y, r', g3, g4, z, r'', g5, g6, g7⟩ Q q E => by
          subst g1 g3 g5 g7
          exact ⟨z, l, u, k, by rw [show x = natV u from g2, show y = natV k from g4], g6, hm, hu4, q⟩))) fun x H1 e hx Q q E => ⟨x, _, rfl, hx, by
          cases e0 : nth3 (cuts l) (cuts l).length u k with
          | none => exact Nat.zero_le _
          | some s =>
            have := nth_len hm e0
            show s.length ≤ 1000
            omega, q⟩) fun r H3 hr e3 h3 => ret_goL q (e1.trans e2) hr e3 h3 (by
          rw [on_good hm, or_ans fun s hs z => ?_]
          have := nth_len hm hs
          rw [z] at this
          have h0 : (0 : Nat) = 3 * (cuts l).length := this
          omega)
end
/-! ### the request -/
theorem ints_nats {ns : List Int} (h : ∀ x ∈ ns, 0 ≤ x) : ns.map V.int = (ns.map Int.toNat).map natV := by
  rw [List.map_map]
  refine List.map_congr_left fun x hx => ?_
  show V.int x = V.int ((x.toNat : Nat) : Int)
  rw [Int.toNat_of_nonneg (h x hx)]
theorem req_list {ns : List Int} {m : Nat} {hi : Int} (h : (Codec.inLen 0 m ns && ns.all (Codec.inInt 0 hi)) = true) : ns.length ≤ m ∧ ∀ x ∈ ns, 0 ≤ x ∧ x ≤ hi := by
  rw [Bool.and_eq_true] at h
  refine ⟨(Codec.inNat_iff.mp h.1).2, fun x hx => Codec.inInt_iff.mp (List.all_eq_true.mp h.2 x hx)⟩
theorem req_at {K : PySem.W.Frag} {H : Hp} {p : Addr} {ns : List Int} {m : Nat} (hs : SqL K H p (ns.map V.int)) (h : ns.length ≤ m ∧ ∀ x ∈ ns, 0 ≤ x ∧ x ≤ 4294967295) :
    (seqR K natR).at_ H (.ref p) (ns.map Int.toNat) ∧ (ns.map Int.toNat).length ≤ m ∧ ∀ x ∈ ns.map Int.toNat, x < 4294967296 := by
  refine ⟨nats_at.mpr ⟨p, rfl, ints_nats (fun x hx => (h.2 x hx).1) ▸ hs⟩, by rw [List.length_map]; exact h.1, fun x hx => ?_⟩
  obtain ⟨y, hy, rfl⟩ := List.mem_map.mp hx
  have := h.2 y hy
  omega
theorem int_args {i : Int} (h : 0 ≤ i) (xs : List V) : V.int i :: xs = natV i.toNat :: xs := by
  show _ = V.int ((i.toNat : Nat) : Int) :: xs
  rw [Int.toNat_of_nonneg h]
theorem int_args2 {i j : Int} (h : 0 ≤ i) (h2 : 0 ≤ j) (xs : List V) : V.int i :: V.int j :: xs = natV i.toNat :: natV j.toNat :: xs := by
  rw [int_args h, int_args h2]
theorem val_small {i : Int} (h : Codec.inInt 0 9999999999999999999999999999999999999999999999999999999999999999999999999999999999999999999999999999 i = true) : i.toNat < 2 ^ 400 := by
  have h2 := (Codec.inInt_iff.mp h).2
  have h3 : i.toNat ≤ 9999999999999999999999999999999999999999999999999999999999999999999999999999999999999999999999999999 := by omega
  exact Nat.lt_of_le_of_lt h3 (by decide +kernel)
theorem all_mk {P : Program} {w : World} {K : PySem.W.Frag} {h : Heap} {mg : Str → Option Value} {fa f0 f1 f2 f3 f4 f5 f6 f7 f8 f9 f10 f11 f12 f13 f14 f15 f16 f17 f18 f19 f20 f21 f22 : Addr} (X : K.In h) (G : h.Ns mainGlobals mg) (hfa : mg "nth" = some (.ref fa))
    {od0 an0 od1 an1 od2 an2 od3 an3 od4 an4 od5 an5 od6 an6 od7 an7 od8 an8 od9 an9 od10 an10 od11 an11 od12 an12 od13 an13 od14 an14 od15 an15 od16 an16 od17 an17 od18 an18 od19 an19 od20 an20 od21 an21 od22 an22 : Option Addr} {sl0 sl1 sl2 sl3 sl4 sl5 sl6 sl7 sl8 sl9 sl10 sl11 sl12 sl13 sl14 sl15 sl16 sl17 sl18 sl19 sl20 sl21 sl22 : Array (Option Value)} {oc0 kV0 dc0 pm0 cd0 ct0 oc1 kV1 dc1 pm1 cd1 ct1 oc2 kV2 dc2 pm2 cd2 ct2 oc3 kV3 dc3 pm3 cd3 ct3 oc4 kV4 dc4 pm4 cd4 ct4 oc5 kV5 dc5 pm5 cd5 ct5 oc6 kV6 dc6 pm6 cd6 ct6 oc7 kV7 dc7 pm7 cd7 ct7 oc8 kV8 dc8 pm8 cd8 ct8 oc9 kV9 dc9 pm9 cd9 ct9 oc10 kV10 dc10 pm10 cd10 ct10 oc11 kV11 dc11 pm11 cd11 ct11 oc12 kV12 dc12 pm12 cd12 ct12 oc13 kV13 dc13 pm13 cd13 ct13 oc14 kV14 dc14 pm14 cd14 ct14 oc15 kV15 dc15 pm15 cd15 ct15 oc16 kV16 dc16 pm16 cd16 ct16 oc17 kV17 dc17 pm17 cd17 ct17 oc18 kV18 dc18 pm18 cd18 ct18 oc19 kV19 dc19 pm19 cd19 ct19 oc20 kV20 dc20 pm20 cd20 ct20 oc21 kV21 dc21 pm21 cd21 ct21 oc22 kV22 dc22 pm22 cd22 ct22 : Value}
    {tk_LEAST_RATIO tk_MOST_BEADS tk_MOST_RATIO tk_MOST_RODS tk_MOST_WORTH tk_MOST_WORTH_TOGETHER tk_NUMBERS_A_ROD : Tok}
    (a0 : PySem.W.nsIn K mainGlobals "refused_for" = some (some (.ref f0))) (l0 : K.lookup f0 = some ⟨oc0, od0, .func (PySem.W.fnOf "refused_for" "refused_for" (defArgs s_refused_for) (defBody s_refused_for) (defScope s_refused_for) .none kV0 dc0 pm0 an0 cd0 ct0), sl0⟩) (c0 : PySem.W.codeIn K cd0 "refused_for" = true) (k0 : PySem.W.keepIn K (.ref f0) = true)
    (a1 : PySem.W.nsIn K mainGlobals "has_whole_rods" = some (some (.ref f1))) (l1 : K.lookup f1 = some ⟨oc1, od1, .func (PySem.W.fnOf "has_whole_rods" "has_whole_rods" (defArgs s_has_whole_rods) (defBody s_has_whole_rods) (defScope s_has_whole_rods) .none kV1 dc1 pm1 an1 cd1 ct1), sl1⟩) (c1 : PySem.W.codeIn K cd1 "has_whole_rods" = true) (k1 : PySem.W.keepIn K (.ref f1) = true)
    (a2 : PySem.W.nsIn K mainGlobals "rods_of" = some (some (.ref f2))) (l2 : K.lookup f2 = some ⟨oc2, od2, .func (PySem.W.fnOf "rods_of" "rods_of" (defArgs s_rods_of) (defBody s_rods_of) (defScope s_rods_of) .none kV2 dc2 pm2 an2 cd2 ct2), sl2⟩) (c2 : PySem.W.codeIn K cd2 "rods_of" = true) (k2 : PySem.W.keepIn K (.ref f2) = true)
    (a3 : PySem.W.nsIn K mainGlobals "decks_of" = some (some (.ref f3))) (l3 : K.lookup f3 = some ⟨oc3, od3, .func (PySem.W.fnOf "decks_of" "decks_of" (defArgs s_decks_of) (defBody s_decks_of) (defScope s_decks_of) .none kV3 dc3 pm3 an3 cd3 ct3), sl3⟩) (c3 : PySem.W.codeIn K cd3 "decks_of" = true) (k3 : PySem.W.keepIn K (.ref f3) = true)
    (a4 : PySem.W.nsIn K mainGlobals "decks_are_in_turn" = some (some (.ref f4))) (l4 : K.lookup f4 = some ⟨oc4, od4, .func (PySem.W.fnOf "decks_are_in_turn" "decks_are_in_turn" (defArgs s_decks_are_in_turn) (defBody s_decks_are_in_turn) (defScope s_decks_are_in_turn) .none kV4 dc4 pm4 an4 cd4 ct4), sl4⟩) (c4 : PySem.W.codeIn K cd4 "decks_are_in_turn" = true) (k4 : PySem.W.keepIn K (.ref f4) = true)
    (a5 : PySem.W.nsIn K mainGlobals "deck_is_sound" = some (some (.ref f5))) (l5 : K.lookup f5 = some ⟨oc5, od5, .func (PySem.W.fnOf "deck_is_sound" "deck_is_sound" (defArgs s_deck_is_sound) (defBody s_deck_is_sound) (defScope s_deck_is_sound) .none kV5 dc5 pm5 an5 cd5 ct5), sl5⟩) (c5 : PySem.W.codeIn K cd5 "deck_is_sound" = true) (k5 : PySem.W.keepIn K (.ref f5) = true)
    (a6 : PySem.W.nsIn K mainGlobals "numbers_are_sound" = some (some (.ref f6))) (l6 : K.lookup f6 = some ⟨oc6, od6, .func (PySem.W.fnOf "numbers_are_sound" "numbers_are_sound" (defArgs s_numbers_are_sound) (defBody s_numbers_are_sound) (defScope s_numbers_are_sound) .none kV6 dc6 pm6 an6 cd6 ct6), sl6⟩) (c6 : PySem.W.codeIn K cd6 "numbers_are_sound" = true) (k6 : PySem.W.keepIn K (.ref f6) = true)
    (a7 : PySem.W.nsIn K mainGlobals "worth_together" = some (some (.ref f7))) (l7 : K.lookup f7 = some ⟨oc7, od7, .func (PySem.W.fnOf "worth_together" "worth_together" (defArgs s_worth_together) (defBody s_worth_together) (defScope s_worth_together) .none kV7 dc7 pm7 an7 cd7 ct7), sl7⟩) (c7 : PySem.W.codeIn K cd7 "worth_together" = true) (k7 : PySem.W.keepIn K (.ref f7) = true)
    (a8 : PySem.W.nsIn K mainGlobals "pushable_counts" = some (some (.ref f8))) (l8 : K.lookup f8 = some ⟨oc8, od8, .func (PySem.W.fnOf "pushable_counts" "pushable_counts" (defArgs s_pushable_counts) (defBody s_pushable_counts) (defScope s_pushable_counts) .none kV8 dc8 pm8 an8 cd8 ct8), sl8⟩) (c8 : PySem.W.codeIn K cd8 "pushable_counts" = true) (k8 : PySem.W.keepIn K (.ref f8) = true)
    (a9 : PySem.W.nsIn K mainGlobals "each_digit_can_be_pushed" = some (some (.ref f9))) (l9 : K.lookup f9 = some ⟨oc9, od9, .func (PySem.W.fnOf "each_digit_can_be_pushed" "each_digit_can_be_pushed" (defArgs s_each_digit_can_be_pushed) (defBody s_each_digit_can_be_pushed) (defScope s_each_digit_can_be_pushed) .none kV9 dc9 pm9 an9 cd9 ct9), sl9⟩) (c9 : PySem.W.codeIn K cd9 "each_digit_can_be_pushed" = true) (k9 : PySem.W.keepIn K (.ref f9) = true)
    (a10 : PySem.W.nsIn K mainGlobals "broken_rule" = some (some (.ref f10))) (l10 : K.lookup f10 = some ⟨oc10, od10, .func (PySem.W.fnOf "broken_rule" "broken_rule" (defArgs s_broken_rule) (defBody s_broken_rule) (defScope s_broken_rule) .none kV10 dc10 pm10 an10 cd10 ct10), sl10⟩) (c10 : PySem.W.codeIn K cd10 "broken_rule" = true) (k10 : PySem.W.keepIn K (.ref f10) = true)
    (a11 : PySem.W.nsIn K mainGlobals "make_fault" = some (some (.ref f11))) (l11 : K.lookup f11 = some ⟨oc11, od11, .func (PySem.W.fnOf "make_fault" "make_fault" (defArgs s_make_fault) (defBody s_make_fault) (defScope s_make_fault) .none kV11 dc11 pm11 an11 cd11 ct11), sl11⟩) (c11 : PySem.W.codeIn K cd11 "make_fault" = true) (k11 : PySem.W.keepIn K (.ref f11) = true)
    (a12 : PySem.W.nsIn K mainGlobals "make_refusal" = some (some (.ref f12))) (l12 : K.lookup f12 = some ⟨oc12, od12, .func (PySem.W.fnOf "make_refusal" "make_refusal" (defArgs s_make_refusal) (defBody s_make_refusal) (defScope s_make_refusal) .none kV12 dc12 pm12 an12 cd12 ct12), sl12⟩) (c12 : PySem.W.codeIn K cd12 "make_refusal" = true) (k12 : PySem.W.keepIn K (.ref f12) = true)
    (a13 : PySem.W.nsIn K mainGlobals "standing_answer" = some (some (.ref f13))) (l13 : K.lookup f13 = some ⟨oc13, od13, .func (PySem.W.fnOf "standing_answer" "standing_answer" (defArgs s_standing_answer) (defBody s_standing_answer) (defScope s_standing_answer) .none kV13 dc13 pm13 an13 cd13 ct13), sl13⟩) (c13 : PySem.W.codeIn K cd13 "standing_answer" = true) (k13 : PySem.W.keepIn K (.ref f13) = true)
    (a14 : PySem.W.nsIn K mainGlobals "digits_of" = some (some (.ref f14))) (l14 : K.lookup f14 = some ⟨oc14, od14, .func (PySem.W.fnOf "digits_of" "digits_of" (defArgs s_digits_of) (defBody s_digits_of) (defScope s_digits_of) .none kV14 dc14 pm14 an14 cd14 ct14), sl14⟩) (c14 : PySem.W.codeIn K cd14 "digits_of" = true) (k14 : PySem.W.keepIn K (.ref f14) = true)
    (a15 : PySem.W.nsIn K mainGlobals "carried_numbers" = some (some (.ref f15))) (l15 : K.lookup f15 = some ⟨oc15, od15, .func (PySem.W.fnOf "carried_numbers" "carried_numbers" (defArgs s_carried_numbers) (defBody s_carried_numbers) (defScope s_carried_numbers) .none kV15 dc15 pm15 an15 cd15 ct15), sl15⟩) (c15 : PySem.W.codeIn K cd15 "carried_numbers" = true) (k15 : PySem.W.keepIn K (.ref f15) = true)
    (a16 : PySem.W.nsIn K mainGlobals "ways_with_deck" = some (some (.ref f16))) (l16 : K.lookup f16 = some ⟨oc16, od16, .func (PySem.W.fnOf "ways_with_deck" "ways_with_deck" (defArgs s_ways_with_deck) (defBody s_ways_with_deck) (defScope s_ways_with_deck) .none kV16 dc16 pm16 an16 cd16 ct16), sl16⟩) (c16 : PySem.W.codeIn K cd16 "ways_with_deck" = true) (k16 : PySem.W.keepIn K (.ref f16) = true)
    (a17 : PySem.W.nsIn K mainGlobals "product_of_ratios" = some (some (.ref f17))) (l17 : K.lookup f17 = some ⟨oc17, od17, .func (PySem.W.fnOf "product_of_ratios" "product_of_ratios" (defArgs s_product_of_ratios) (defBody s_product_of_ratios) (defScope s_product_of_ratios) .none kV17 dc17 pm17 an17 cd17 ct17), sl17⟩) (c17 : PySem.W.codeIn K cd17 "product_of_ratios" = true) (k17 : PySem.W.keepIn K (.ref f17) = true)
    (a18 : PySem.W.nsIn K mainGlobals "number_at" = some (some (.ref f18))) (l18 : K.lookup f18 = some ⟨oc18, od18, .func (PySem.W.fnOf "number_at" "number_at" (defArgs s_number_at) (defBody s_number_at) (defScope s_number_at) .none kV18 dc18 pm18 an18 cd18 ct18), sl18⟩) (c18 : PySem.W.codeIn K cd18 "number_at" = true) (k18 : PySem.W.keepIn K (.ref f18) = true)
    (a19 : PySem.W.nsIn K mainGlobals "pushes_in_order" = some (some (.ref f19))) (l19 : K.lookup f19 = some ⟨oc19, od19, .func (PySem.W.fnOf "pushes_in_order" "pushes_in_order" (defArgs s_pushes_in_order) (defBody s_pushes_in_order) (defScope s_pushes_in_order) .none kV19 dc19 pm19 an19 cd19 ct19), sl19⟩) (c19 : PySem.W.codeIn K cd19 "pushes_in_order" = true) (k19 : PySem.W.keepIn K (.ref f19) = true)
    (a20 : PySem.W.nsIn K mainGlobals "count_of" = some (some (.ref f20))) (l20 : K.lookup f20 = some ⟨oc20, od20, .func (PySem.W.fnOf "count_of" "count_of" (defArgs s_count_of) (defBody s_count_of) (defScope s_count_of) .none kV20 dc20 pm20 an20 cd20 ct20), sl20⟩) (c20 : PySem.W.codeIn K cd20 "count_of" = true) (k20 : PySem.W.keepIn K (.ref f20) = true)
    (a21 : PySem.W.nsIn K mainGlobals "numbered_standing" = some (some (.ref f21))) (l21 : K.lookup f21 = some ⟨oc21, od21, .func (PySem.W.fnOf "numbered_standing" "numbered_standing" (defArgs s_numbered_standing) (defBody s_numbered_standing) (defScope s_numbered_standing) .none kV21 dc21 pm21 an21 cd21 ct21), sl21⟩) (c21 : PySem.W.codeIn K cd21 "numbered_standing" = true) (k21 : PySem.W.keepIn K (.ref f21) = true)
    (a22 : PySem.W.nsIn K mainGlobals "nth" = some (some (.ref f22))) (l22 : K.lookup f22 = some ⟨oc22, od22, .func (PySem.W.fnOf "nth" "nth" (defArgs s_nth) (defBody s_nth) (defScope s_nth) .none kV22 dc22 pm22 an22 cd22 ct22), sl22⟩) (c22 : PySem.W.codeIn K cd22 "nth" = true) (k22 : PySem.W.keepIn K (.ref f22) = true)
    (g_LEAST_RATIO : PySem.W.nsIn K mainGlobals "LEAST_RATIO" = some (some (.int 2 tk_LEAST_RATIO)))
    (g_MOST_BEADS : PySem.W.nsIn K mainGlobals "MOST_BEADS" = some (some (.int 15 tk_MOST_BEADS)))
    (g_MOST_RATIO : PySem.W.nsIn K mainGlobals "MOST_RATIO" = some (some (.int 20 tk_MOST_RATIO)))
    (g_MOST_RODS : PySem.W.nsIn K mainGlobals "MOST_RODS" = some (some (.int 64 tk_MOST_RODS)))
    (g_MOST_WORTH : PySem.W.nsIn K mainGlobals "MOST_WORTH" = some (some (.int 63 tk_MOST_WORTH)))
    (g_MOST_WORTH_TOGETHER : PySem.W.nsIn K mainGlobals "MOST_WORTH_TOGETHER" = some (some (.int 255 tk_MOST_WORTH_TOGETHER)))
    (g_NUMBERS_A_ROD : PySem.W.nsIn K mainGlobals "NUMBERS_A_ROD" = some (some (.int 7 tk_NUMBERS_A_ROD)))
    (z_enumerate : PySem.W.nsIn K mainGlobals "enumerate" = some none)
    (z_len : PySem.W.nsIn K mainGlobals "len" = some none)
    (z_list : PySem.W.nsIn K mainGlobals "list" = some none)
    (z_range : PySem.W.nsIn K mainGlobals "range" = some none)
    (z_reversed : PySem.W.nsIn K mainGlobals "reversed" = some none)
    (z_zip : PySem.W.nsIn K mainGlobals "zip" = some none)
    : ∃ fd : FuncData, (∀ (s : Shared) (us : List Value), us.length = (["value", "k", "make"] : List Str).length → BindsTo s fd ⟨us, []⟩ ((["value", "k", "make"] : List Str).zip us)) ∧ ∀ base : Heap, K.In base → base.Ns mainGlobals mg → FnOk P w K mg base CX0 7 fa fd ["value", "k", "make"] (spNth K) := by
  have e := hfa.symm.trans (PySem.W.mg_of X G a22)
  cases e
  have M : Mg mg := ⟨⟨_, PySem.W.mg_of X G g_LEAST_RATIO⟩, ⟨_, PySem.W.mg_of X G g_MOST_BEADS⟩, ⟨_, PySem.W.mg_of X G g_MOST_RATIO⟩, ⟨_, PySem.W.mg_of X G g_MOST_RODS⟩, ⟨_, PySem.W.mg_of X G g_MOST_WORTH⟩, ⟨_, PySem.W.mg_of X G g_MOST_WORTH_TOGETHER⟩, ⟨_, PySem.W.mg_of X G g_NUMBERS_A_ROD⟩, PySem.W.mg_none_of X G z_enumerate, PySem.W.mg_none_of X G z_len, PySem.W.mg_none_of X G z_list, PySem.W.mg_none_of X G z_range, PySem.W.mg_none_of X G z_reversed, PySem.W.mg_none_of X G z_zip⟩
  have F0 := fun_mk (st := s_refused_for) l0 c0 k0
  have D_refused_for : ∀ base : Heap, Def P w K mg base "refused_for" 1 ["fault"] (spRefused) := fun base => ⟨_, _, PySem.W.mg_of X G a0, k0, F0.binds (ps := ["fault"]) (fun _ _ _ _ _ _ us hl => match us, hl with | [_], _ => rfl), ok_refused_for F0 M⟩
  have F1 := fun_mk (st := s_has_whole_rods) l1 c1 k1
  have D_has_whole_rods : ∀ base : Heap, Def P w K mg base "has_whole_rods" 1 ["make"] (spWhole K) := fun base => ⟨_, _, PySem.W.mg_of X G a1, k1, F1.binds (ps := ["make"]) (fun _ _ _ _ _ _ us hl => match us, hl with | [_], _ => rfl), ok_has_whole_rods F1 M⟩
  have F2 := fun_mk (st := s_rods_of) l2 c2 k2
  have D_rods_of : ∀ base : Heap, Def P w K mg base "rods_of" 1 ["make"] (spRods K) := fun base => ⟨_, _, PySem.W.mg_of X G a2, k2, F2.binds (ps := ["make"]) (fun _ _ _ _ _ _ us hl => match us, hl with | [_], _ => rfl), ok_rods_of F2 M⟩
  have F3 := fun_mk (st := s_decks_of) l3 c3 k3
  have D_decks_of : ∀ base : Heap, Def P w K mg base "decks_of" 1 ["rod"] (spDecks K) := fun base => ⟨_, _, PySem.W.mg_of X G a3, k3, F3.binds (ps := ["rod"]) (fun _ _ _ _ _ _ us hl => match us, hl with | [_], _ => rfl), ok_decks_of F3 M⟩
  have F4 := fun_mk (st := s_decks_are_in_turn) l4 c4 k4
  have D_decks_are_in_turn : ∀ base : Heap, Def P w K mg base "decks_are_in_turn" 2 ["rod"] (spTurn K) := fun base => ⟨_, _, PySem.W.mg_of X G a4, k4, F4.binds (ps := ["rod"]) (fun _ _ _ _ _ _ us hl => match us, hl with | [_], _ => rfl), ok_decks_are_in_turn F4 M (D_decks_of base)⟩
  have F5 := fun_mk (st := s_deck_is_sound) l5 c5 k5
  have D_deck_is_sound : ∀ base : Heap, Def P w K mg base "deck_is_sound" 1 ["beads", "worth"] (spSound) := fun base => ⟨_, _, PySem.W.mg_of X G a5, k5, F5.binds (ps := ["beads", "worth"]) (fun _ _ _ _ _ _ us hl => match us, hl with | [_, _], _ => rfl), ok_deck_is_sound F5 M⟩
  have F6 := fun_mk (st := s_numbers_are_sound) l6 c6 k6
  have D_numbers_are_sound : ∀ base : Heap, Def P w K mg base "numbers_are_sound" 3 ["rod"] (spNums K) := fun base => ⟨_, _, PySem.W.mg_of X G a6, k6, F6.binds (ps := ["rod"]) (fun _ _ _ _ _ _ us hl => match us, hl with | [_], _ => rfl), ok_numbers_are_sound F6 M (D_decks_of base) (D_decks_are_in_turn base) (D_deck_is_sound base)⟩
  have F7 := fun_mk (st := s_worth_together) l7 c7 k7
  have D_worth_together : ∀ base : Heap, Def P w K mg base "worth_together" 2 ["rod"] (spWorth K) := fun base => ⟨_, _, PySem.W.mg_of X G a7, k7, F7.binds (ps := ["rod"]) (fun _ _ _ _ _ _ us hl => match us, hl with | [_], _ => rfl), ok_worth_together F7 M (D_decks_of base)⟩
  have F8 := fun_mk (st := s_pushable_counts) l8 c8 k8
  have D_pushable_counts : ∀ base : Heap, Def P w K mg base "pushable_counts" 2 ["rod"] (spCounts K) := fun base => ⟨_, _, PySem.W.mg_of X G a8, k8, F8.binds (ps := ["rod"]) (fun _ _ _ _ _ _ us hl => match us, hl with | [_], _ => rfl), ok_pushable_counts F8 M (D_decks_of base)⟩
  have F9 := fun_mk (st := s_each_digit_can_be_pushed) l9 c9 k9
  have D_each_digit_can_be_pushed : ∀ base : Heap, Def P w K mg base "each_digit_can_be_pushed" 3 ["rod"] (spEach K) := fun base => ⟨_, _, PySem.W.mg_of X G a9, k9, F9.binds (ps := ["rod"]) (fun _ _ _ _ _ _ us hl => match us, hl with | [_], _ => rfl), ok_each_digit_can_be_pushed F9 M (D_pushable_counts base)⟩
  have F10 := fun_mk (st := s_broken_rule) l10 c10 k10
  have D_broken_rule : ∀ base : Heap, Def P w K mg base "broken_rule" 4 ["rod"] (spBroken K) := fun base => ⟨_, _, PySem.W.mg_of X G a10, k10, F10.binds (ps := ["rod"]) (fun _ _ _ _ _ _ us hl => match us, hl with | [_], _ => rfl), ok_broken_rule F10 M (D_numbers_are_sound base) (D_worth_together base) (D_each_digit_can_be_pushed base)⟩
  have F11 := fun_mk (st := s_make_fault) l11 c11 k11
  have D_make_fault : ∀ base : Heap, Def P w K mg base "make_fault" 5 ["make"] (spFault K) := fun base => ⟨_, _, PySem.W.mg_of X G a11, k11, F11.binds (ps := ["make"]) (fun _ _ _ _ _ _ us hl => match us, hl with | [_], _ => rfl), ok_make_fault F11 M (D_has_whole_rods base) (D_rods_of base) (D_broken_rule base)⟩
  have F12 := fun_mk (st := s_make_refusal) l12 c12 k12
  have D_make_refusal : ∀ base : Heap, Def P w K mg base "make_refusal" 6 ["make"] (spMRef K) := fun base => ⟨_, _, PySem.W.mg_of X G a12, k12, F12.binds (ps := ["make"]) (fun _ _ _ _ _ _ us hl => match us, hl with | [_], _ => rfl), ok_make_refusal F12 M (D_refused_for base) (D_make_fault base)⟩
  have F13 := fun_mk (st := s_standing_answer) l13 c13 k13
  have D_standing_answer : ∀ base : Heap, Def P w K mg base "standing_answer" 1 ["standing"] (spStAns K) := fun base => ⟨_, _, PySem.W.mg_of X G a13, k13, F13.binds (ps := ["standing"]) (fun _ _ _ _ _ _ us hl => match us, hl with | [_], _ => rfl), ok_standing_answer F13 M⟩
  have F14 := fun_mk (st := s_digits_of) l14 c14 k14
  have D_digits_of : ∀ base : Heap, Def P w K mg base "digits_of" 2 ["value", "make"] (spDigitsOf K) := fun base => ⟨_, _, PySem.W.mg_of X G a14, k14, F14.binds (ps := ["value", "make"]) (fun _ _ _ _ _ _ us hl => match us, hl with | [_, _], _ => rfl), ok_digits_of F14 M (D_rods_of base)⟩
  have F15 := fun_mk (st := s_carried_numbers) l15 c15 k15
  have D_carried_numbers : ∀ base : Heap, Def P w K mg base "carried_numbers" 3 ["value", "make", "nothing", "with_deck"] (spCarried P w K mg base) := fun base => ⟨_, _, PySem.W.mg_of X G a15, k15, F15.binds (ps := ["value", "make", "nothing", "with_deck"]) (fun _ _ _ _ _ _ us hl => match us, hl with | [_, _, _, _], _ => rfl), ok_carried_numbers F15 M (D_rods_of base) (D_digits_of base) (D_decks_of base)⟩
  have F16 := fun_mk (st := s_ways_with_deck) l16 c16 k16
  have D_ways_with_deck : ∀ base : Heap, Def P w K mg base "ways_with_deck" 1 ["ways", "deck"] (spDeck K deckW) := fun base => ⟨_, _, PySem.W.mg_of X G a16, k16, F16.binds (ps := ["ways", "deck"]) (fun _ _ _ _ _ _ us hl => match us, hl with | [_, _], _ => rfl), ok_ways_with_deck F16 M⟩
  have F17 := fun_mk (st := s_product_of_ratios) l17 c17 k17
  have D_product_of_ratios : ∀ base : Heap, Def P w K mg base "product_of_ratios" 2 ["make"] (spProd K) := fun base => ⟨_, _, PySem.W.mg_of X G a17, k17, F17.binds (ps := ["make"]) (fun _ _ _ _ _ _ us hl => match us, hl with | [_], _ => rfl), ok_product_of_ratios F17 M (D_rods_of base)⟩
  have F18 := fun_mk (st := s_number_at) l18 c18 k18
  have D_number_at : ∀ base : Heap, Def P w K mg base "number_at" 1 ["numbers", "place", "otherwise"] (spNumAt K) := fun base => ⟨_, _, PySem.W.mg_of X G a18, k18, F18.binds (ps := ["numbers", "place", "otherwise"]) (fun _ _ _ _ _ _ us hl => match us, hl with | [_, _, _], _ => rfl), ok_number_at F18 M⟩
  have F19 := fun_mk (st := s_pushes_in_order) l19 c19 k19
  have D_pushes_in_order : ∀ base : Heap, Def P w K mg base "pushes_in_order" 1 ["rod"] (spPushesOn K) := fun base => ⟨_, _, PySem.W.mg_of X G a19, k19, F19.binds (ps := ["rod"]) (fun _ _ _ _ _ _ us hl => match us, hl with | [_], _ => rfl), ok_pushes_in_order F19 M⟩
  have F20 := fun_mk (st := s_count_of) l20 c20 k20
  have D_count_of : ∀ base : Heap, Def P w K mg base "count_of" 2 ["rod", "push"] (spCount K) := fun base => ⟨_, _, PySem.W.mg_of X G a20, k20, F20.binds (ps := ["rod", "push"]) (fun _ _ _ _ _ _ us hl => match us, hl with | [_, _], _ => rfl), ok_count_of F20 M (D_decks_of base)⟩
  have F21 := fun_mk (st := s_numbered_standing) l21 c21 k21
  have D_numbered_standing : ∀ base : Heap, Def P w K mg base "numbered_standing" 4 ["value", "k", "make"] (spNthOf K) := fun base => ⟨_, _, PySem.W.mg_of X G a21, k21, F21.binds (ps := ["value", "k", "make"]) (fun _ _ _ _ _ _ us hl => match us, hl with | [_, _, _], _ => rfl), ok_numbered_standing F21 M (D_carried_numbers base) (D_ways_with_deck base) (D_product_of_ratios base) (D_number_at base) (D_pushes_in_order base) (D_rods_of base) (D_digits_of base) (D_count_of base)⟩
  have F22 := fun_mk (st := s_nth) l22 c22 k22
  exact ⟨PySem.W.fnOf "nth" "nth" (defArgs s_nth) (defBody s_nth) (defScope s_nth) .none kV22 dc22 pm22 an22 cd22 ct22, fun s us hu => match us, hu with | [_, _, _], _ => .of_eq rfl, fun base _ _ => ok_nth F22 M (D_make_refusal base) (D_standing_answer base) (D_numbered_standing base)⟩
end Bf
open PySem PySem.W PyProof.Rows
set_option maxRecDepth 100000 in
set_option maxHeartbeats 0 in
theorem PySem.Challenge.cw_beadframes_s08_nth_holds : PySem.Challenge.rw_beadframes_s08_nth.Holds := by
  w_on; k_headS; (case hw => exact ⟨[.int 0, .int 0, .list []], by decide +kernel, by decide +kernel⟩)
  k_fillS
  refine L2.walk_specK (r := PySem.Challenge.rw_beadframes_s08_nth) (k := 7) (CX := L2.CX0) (ps := ["value", "k", "make"]) (sp := fun K => Bf.spNth K) (by decide +kernel) rfl rfl ⟨rfl, by decide, by decide⟩ (fun w h Y => PySem.W.kIn_of Y) ?F ?S (fun _ _ _ _ z => z)
  case F =>
    intro w mg fa h Y KX G hmg
    refine' Bf.all_mk KX G hmg ?a0 ?l0 ?c0 ?k0 ?a1 ?l1 ?c1 ?k1 ?a2 ?l2 ?c2 ?k2 ?a3 ?l3 ?c3 ?k3 ?a4 ?l4 ?c4 ?k4 ?a5 ?l5 ?c5 ?k5 ?a6 ?l6 ?c6 ?k6 ?a7 ?l7 ?c7 ?k7 ?a8 ?l8 ?c8 ?k8 ?a9 ?l9 ?c9 ?k9 ?a10 ?l10 ?c10 ?k10 ?a11 ?l11 ?c11 ?k11 ?a12 ?l12 ?c12 ?k12 ?a13 ?l13 ?c13 ?k13 ?a14 ?l14 ?c14 ?k14 ?a15 ?l15 ?c15 ?k15 ?a16 ?l16 ?c16 ?k16 ?a17 ?l17 ?c17 ?k17 ?a18 ?l18 ?c18 ?k18 ?a19 ?l19 ?c19 ?k19 ?a20 ?l20 ?c20 ?k20 ?a21 ?l21 ?c21 ?k21 ?a22 ?l22 ?c22 ?k22 ?g_LEAST_RATIO ?g_MOST_BEADS ?g_MOST_RATIO ?g_MOST_RODS ?g_MOST_WORTH ?g_MOST_WORTH_TOGETHER ?g_NUMBERS_A_ROD ?z_enumerate ?z_len ?z_list ?z_range ?z_reversed ?z_zip
    (case a0 => k_is)
    (case l0 => k_is)
    (case c0 => k_is)
    (case k0 => k_is)
    (case a1 => k_is)
    (case l1 => k_is)
    (case c1 => k_is)
    (case k1 => k_is)
    (case a2 => k_is)
    (case l2 => k_is)
    (case c2 => k_is)
    (case k2 => k_is)
    (case a3 => k_is)
    (case l3 => k_is)
    (case c3 => k_is)
    (case k3 => k_is)
    (case a4 => k_is)
    (case l4 => k_is)
    (case c4 => k_is)
    (case k4 => k_is)
    (case a5 => k_is)
    (case l5 => k_is)
    (case c5 => k_is)
    (case k5 => k_is)
    (case a6 => k_is)
    (case l6 => k_is)
    (case c6 => k_is)
    (case k6 => k_is)
    (case a7 => k_is)
    (case l7 => k_is)
    (case c7 => k_is)
    (case k7 => k_is)
    (case a8 => k_is)
    (case l8 => k_is)
    (case c8 => k_is)
    (case k8 => k_is)
    (case a9 => k_is)
    (case l9 => k_is)
    (case c9 => k_is)
    (case k9 => k_is)
    (case a10 => k_is)
    (case l10 => k_is)
    (case c10 => k_is)
    (case k10 => k_is)
    (case a11 => k_is)
    (case l11 => k_is)
    (case c11 => k_is)
    (case k11 => k_is)
    (case a12 => k_is)
    (case l12 => k_is)
    (case c12 => k_is)
    (case k12 => k_is)
    (case a13 => k_is)
    (case l13 => k_is)
    (case c13 => k_is)
    (case k13 => k_is)
    (case a14 => k_is)
    (case l14 => k_is)
    (case c14 => k_is)
    (case k14 => k_is)
    (case a15 => k_is)
    (case l15 => k_is)
    (case c15 => k_is)
    (case k15 => k_is)
    (case a16 => k_is)
    (case l16 => k_is)
    (case c16 => k_is)
    (case k16 => k_is)
    (case a17 => k_is)
    (case l17 => k_is)
    (case c17 => k_is)
    (case k17 => k_is)
    (case a18 => k_is)
    (case l18 => k_is)
    (case c18 => k_is)
    (case k18 => k_is)
    (case a19 => k_is)
    (case l19 => k_is)
    (case c19 => k_is)
    (case k19 => k_is)
    (case a20 => k_is)
    (case l20 => k_is)
    (case c20 => k_is)
    (case k20 => k_is)
    (case a21 => k_is)
    (case l21 => k_is)
    (case c21 => k_is)
    (case k21 => k_is)
    (case a22 => k_is)
    (case l22 => k_is)
    (case c22 => k_is)
    (case k22 => k_is)
    (case g_LEAST_RATIO => k_is)
    (case g_MOST_BEADS => k_is)
    (case g_MOST_RATIO => k_is)
    (case g_MOST_RODS => k_is)
    (case g_MOST_WORTH => k_is)
    (case g_MOST_WORTH_TOGETHER => k_is)
    (case g_NUMBERS_A_ROD => k_is)
    (case z_enumerate => k_is)
    (case z_len => k_is)
    (case z_list => k_is)
    (case z_range => k_is)
    (case z_reversed => k_is)
    (case z_zip => k_is)
  case S =>
    intro K H xs a hO hwi hask hx
    cases hx with
    | cons h1 h2 =>
      cases h2 with
      | cons h2 h3 =>
      cases h3 with
      | cons h3 h4 =>
      cases h4
      cases h3 with
      | lst hs ha =>
        have e := L2.ints_dw a.2.2.1 _ ha
        subst e
        have q : (Codec.inInt 0 9999999999999999999999999999999999999999999999999999999999999999999999999999999999999999999999999999 a.1 && (Codec.inInt 0 9999999999999999999999999999999999999999999999999999999999999999999999999999999999999999999999999999 a.2.1 && ((Codec.inLen 0 700 a.2.2.1 && a.2.2.1.all (Codec.inInt 0 4294967295)) && true))) = true := hwi
        have q1 := (Bool.and_eq_true_iff.mp q).1
        have q2 := (Bool.and_eq_true_iff.mp (Bool.and_eq_true_iff.mp q).2).1
        have q3 := (Bool.and_eq_true_iff.mp (Bool.and_eq_true_iff.mp (Bool.and_eq_true_iff.mp q).2).2).1
        obtain ⟨r1, r2, r3⟩ := Bf.req_at hs (Bf.req_list q3)
        have v0 := (Codec.inInt_iff.mp q1).1
        have v1 := Bf.val_small q1
        have k0 := (Codec.inInt_iff.mp q2).1
        cases h1
        cases h2
        exact ⟨_, _, a.1.toNat, a.2.1.toNat, Bf.int_args2 v0 k0 _, ⟨r1, r2, r3⟩, v1, fun p H2 hp e2 h2 => .lst (L2.SqL.of (show H2 p = some (.lst ((PyYqacaa.nth a.1 a.2.1 a.2.2.1).map L2.V.int)) by rw [Bf.nth_eq]; exact h2)) (L2.dw_ints _)⟩
#print axioms PySem.Challenge.cw_beadframes_s08_nth_holds
