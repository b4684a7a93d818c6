import PyProof.Rows.All
import Wide.All
import OpenK.AllK
import Wide.FinOn
import Open.SpecLaws
import KE.OsGo
import HandS.ForSpec
import HandS.ForMost
import HandS.Codes
import HandS.Walk
import HandS.Strs
import HandS.SortKw
import PySem.Challenge.RW_chosenwell_s01_answers
set_option Elab.async false
/-! Mathematics of the specification alone: bits, sets, things. No word of the library. -/
namespace Cw
open Dr01 (Fun has with_ without val things sets brings)

theorem has_bit (s t : Nat) : has s t = s.testBit (t - 1) := by
  unfold Dr01.has
  rw [Nat.testBit_eq_decide_div_mod_eq]
  by_cases h : s / 2 ^ (t - 1) % 2 = 1
  · rw [h]; rfl
  · rw [decide_eq_false h]; exact beq_eq_false_iff_ne.mpr h
theorem and_pow_zero : ∀ (s : Nat), s < 32 → ∀ (t : Nat), t < 6 → decide (s &&& 2 ^ (t - 1) = 0) = !has s t := by decide +kernel
theorem or_pow : ∀ (s : Nat), s < 32 → ∀ (t : Nat), t < 6 → s ||| 2 ^ (t - 1) = with_ s t := by decide +kernel
theorem with_lt : ∀ (n : Nat), n < 6 → ∀ (s : Nat), s < 2 ^ n → ∀ (t : Nat), t < n + 1 → 1 ≤ t → with_ s t < 2 ^ n := by decide +kernel
theorem without_lt : ∀ (n : Nat), n < 6 → ∀ (s : Nat), s < 2 ^ n → ∀ (t : Nat), t < n + 1 → without s t < 2 ^ n := by decide +kernel
theorem has_with : ∀ (s : Nat), s < 32 → ∀ (t : Nat), t < 6 → 1 ≤ t → ∀ (u : Nat), u < 6 → 1 ≤ u → has (with_ s t) u = (has s u || decide (t = u)) := by decide +kernel
theorem with_comm : ∀ (s : Nat), s < 32 → ∀ (t : Nat), t < 6 → 1 ≤ t → ∀ (u : Nat), u < 6 → 1 ≤ u → with_ (with_ s t) u = with_ (with_ s u) t := by decide +kernel
theorem with_new {s t : Nat} (h : has s t = false) : with_ s t = s + 2 ^ (t - 1) := by
  unfold Dr01.with_
  rw [h]; rfl
theorem pow_le {n : Nat} (h : n ≤ 5) : 2 ^ n ≤ 32 := by
  have := Nat.pow_le_pow_right (n := 2) (by decide) h
  exact this
theorem lt32 {n s : Nat} (h : n ≤ 5) (hs : s < 2 ^ n) : s < 32 := Nat.lt_of_lt_of_le hs (pow_le h)

/-- things not in a set, in a set: by how many there are -/
def out (n s : Nat) : List Nat := ((List.range n).map fun i => i + 1).filter fun i => !has s i
def ins (n s : Nat) : List Nat := ((List.range n).map fun i => i + 1).filter fun i => has s i
theorem mem_things {n t : Nat} : t ∈ ((List.range n).map fun i => i + 1) ↔ 1 ≤ t ∧ t ≤ n := by
  rw [List.mem_map]
  constructor
  · rintro ⟨a, h, rfl⟩
    rw [List.mem_range] at h
    omega
  · rintro ⟨h1, h2⟩
    exact ⟨t - 1, List.mem_range.mpr (by omega), by omega⟩
theorem mem_out {n s t : Nat} : t ∈ out n s ↔ (1 ≤ t ∧ t ≤ n) ∧ has s t = false := by
  unfold out
  rw [List.mem_filter, mem_things]
  simp
theorem mem_ins {n s t : Nat} : t ∈ ins n s ↔ (1 ≤ t ∧ t ≤ n) ∧ has s t = true := by
  unfold ins
  rw [List.mem_filter, mem_things]
theorem out_len (n s : Nat) : (out n s).length ≤ n := by
  unfold out
  exact Nat.le_trans (List.length_filter_le _ _) (by simp)
theorem ins_len (n s : Nat) : (ins n s).length ≤ n := by
  unfold ins
  exact Nat.le_trans (List.length_filter_le _ _) (by simp)

/-- a function in order: as many values as sets, not too great -/
structure Wf (f : Fun) : Prop where
  lo : 1 ≤ f.many
  hi : f.many ≤ 5
  len : f.vals.length = 2 ^ f.many
  bd : ∀ v ∈ f.vals, -20000 ≤ v ∧ v ≤ 20000
theorem val_get {f : Fun} (w : Wf f) {s : Nat} (h : s < 2 ^ f.many) : f.vals[s]? = some (val f s) := by
  unfold Dr01.val
  have : s < f.vals.length := by rw [w.len]; exact h
  rw [List.getD_eq_getElem?_getD, List.getElem?_eq_getElem this]
  rfl
theorem val_bd {f : Fun} (w : Wf f) (s : Nat) : -20000 ≤ val f s ∧ val f s ≤ 20000 := by
  unfold Dr01.val
  rw [List.getD_eq_getElem?_getD]
  cases h : f.vals[s]? with
  | none => exact ⟨by decide, by decide⟩
  | some v => exact w.bd v (List.mem_of_getElem? h)
theorem brings_bd {f : Fun} (w : Wf f) (s t : Nat) : -40000 ≤ brings f s t ∧ brings f s t ≤ 40000 := by
  unfold Dr01.brings
  have a := val_bd w (with_ s t)
  have b := val_bd w s
  omega

/-! ### fits -/
/-- what the program asks of one set -/
def rightly (f : Fun) (s : Nat) : Bool := (out f.many s).all fun t => decide (0 ≤ brings f s t) && (out f.many s).all fun u => decide (u = t) || decide (brings f (with_ s u) t ≤ brings f s t)
theorem brings_sym {f : Fun} (w : Wf f) {s t u : Nat} (hs : s < 2 ^ f.many) (ht : 1 ≤ t ∧ t ≤ f.many) (hu : 1 ≤ u ∧ u ≤ f.many) :
    brings f s t - brings f (with_ s u) t = brings f s u - brings f (with_ s t) u := by
  unfold Dr01.brings
  have h := w.hi
  rw [with_comm s (lt32 w.hi hs) u (by omega) hu.1 t (by omega) ht.1]
  omega
theorem fits_iff {f : Fun} (w : Wf f) : Dr04.fits f = (decide (val f 0 = 0) && (List.range (2 ^ f.many)).all fun s => rightly f s) := by
  have hh := w.hi
  rw [Bool.eq_iff_iff]
  unfold Dr04.fits Dr01.isKind Dr01.first Dr01.falls
  simp only [Bool.and_eq_true, beq_iff_eq, decide_eq_true_eq, Option.isNone_iff_eq_none, List.find?_eq_none, List.all_eq_true, List.mem_range]
  constructor
  · rintro ⟨h0, h1, h2⟩
    refine ⟨h0, fun s hs => ?_⟩
    unfold rightly
    rw [List.all_eq_true]
    intro t ht
    have ht' := mem_out.mp ht
    rw [Bool.and_eq_true, decide_eq_true_eq, List.all_eq_true]
    constructor
    · have := h2 (s, t) (by
        rw [List.mem_flatMap]
        exact ⟨s, by unfold Dr01.sets; exact List.mem_range.mpr hs, List.mem_map.mpr ⟨t, ht, rfl⟩⟩)
      simp only [decide_eq_true_eq] at this
      omega
    · intro u hu
      have hu' := mem_out.mp hu
      rw [Bool.or_eq_true, decide_eq_true_eq, decide_eq_true_eq]
      by_cases e : u = t
      · exact .inl e
      · right
        have key : ∀ i j, 1 ≤ i ∧ i ≤ f.many → 1 ≤ j ∧ j ≤ f.many → has s i = false → has s j = false → i < j → brings f (with_ s i) j ≤ brings f s j := by
          intro i j hi hj bi bj lt
          have := h1 (s, i, j) (by
            unfold Dr01.faults
            rw [List.mem_flatMap]
            refine ⟨s, by unfold Dr01.sets; exact List.mem_range.mpr hs, ?_⟩
            rw [List.mem_flatMap]
            refine ⟨i, mem_things.mpr hi, List.mem_map.mpr ⟨j, ?_, rfl⟩⟩
            rw [List.mem_filter]
            refine ⟨mem_things.mpr hj, ?_⟩
            rw [bi, bj, decide_eq_true lt]; rfl)
          unfold Dr01.breaks at this
          simp only [decide_eq_true_eq] at this
          omega
        rcases Nat.lt_or_gt_of_ne e with lt | gt
        · exact key u t hu'.1 ht'.1 hu'.2 ht'.2 lt
        · have a := key t u ht'.1 hu'.1 ht'.2 hu'.2 gt
          have b := brings_sym w hs ht'.1 hu'.1
          omega
  · rintro ⟨h0, h1⟩
    refine ⟨h0, ?_, ?_⟩
    · rintro ⟨s, i, j⟩ m
      unfold Dr01.faults at m
      rw [List.mem_flatMap] at m
      obtain ⟨s', hs, m⟩ := m
      rw [List.mem_flatMap] at m
      obtain ⟨i', hi, m⟩ := m
      rw [List.mem_map] at m
      obtain ⟨j', hj, e⟩ := m
      cases e
      rw [List.mem_filter] at hj
      obtain ⟨hj, q⟩ := hj
      simp only [Bool.and_eq_true, decide_eq_true_eq, Bool.not_eq_true'] at q
      obtain ⟨lt, bi, bj⟩ := q
      have hs' : s < 2 ^ f.many := List.mem_range.mp hs
      have r := h1 s hs'
      unfold rightly at r
      rw [List.all_eq_true] at r
      have r1 := r j (mem_out.mpr ⟨mem_things.mp hj, bj⟩)
      rw [Bool.and_eq_true, List.all_eq_true] at r1
      have r2 := r1.2 i (mem_out.mpr ⟨mem_things.mp hi, bi⟩)
      rw [Bool.or_eq_true, decide_eq_true_eq, decide_eq_true_eq] at r2
      unfold Dr01.breaks
      simp only [decide_eq_true_eq]
      omega
    · rintro ⟨s, i⟩ m
      rw [List.mem_flatMap] at m
      obtain ⟨s', hs, m⟩ := m
      rw [List.mem_map] at m
      obtain ⟨i', hi, e⟩ := m
      cases e
      have hs' : s < 2 ^ f.many := List.mem_range.mp hs
      have r := h1 s hs'
      unfold rightly at r
      rw [List.all_eq_true] at r
      have r1 := r i hi
      rw [Bool.and_eq_true, decide_eq_true_eq] at r1
      simp only [decide_eq_true_eq]
      omega
end Cw
namespace Cw
open Dr01 (Fun has with_ without val things sets brings)

/-! ### the best -/
theorem size_ins (f : Fun) (s : Nat) : Dr04.size f s = (ins f.many s).length := rfl
def better2 (f : Fun) (b s : Nat) : Nat := if val f b < val f s then s else b
theorem pick_fold (f : Fun) (l : List Nat) : Dr04.pick f l = l.foldl (better2 f) 0 := rfl
/-- the sets that are asked: the first of them is 0 -/
def upTo (f : Fun) (k : Nat) : List Nat := (List.range (2 ^ f.many)).filter fun s => decide ((ins f.many s).length ≤ k)
theorem best_upTo (f : Fun) (k : Nat) : Dr04.best f k = (upTo f k).foldl (better2 f) 0 := rfl
theorem ins_zero (n : Nat) : ins n 0 = [] := by
  unfold ins
  rw [List.filter_eq_nil_iff]
  intro a _
  unfold Dr01.has
  simp
theorem range_pow (n : Nat) : ∃ r, List.range (2 ^ n) = 0 :: r := by
  have h : 0 < 2 ^ n := Nat.two_pow_pos n
  cases e : 2 ^ n with
  | zero => omega
  | succ m => exact ⟨_, List.range_succ_eq_map⟩
theorem upTo_head (f : Fun) (k : Nat) : ∃ r, upTo f k = 0 :: r := by
  obtain ⟨r, e⟩ := range_pow f.many
  unfold upTo
  rw [e, List.filter_cons, if_pos (by rw [ins_zero]; simp)]
  exact ⟨_, rfl⟩
theorem mem_upTo {f : Fun} {k s : Nat} (h : s ∈ upTo f k) : s < 2 ^ f.many := List.mem_range.mp (List.mem_filter.mp h).1
theorem fold_lt {f : Fun} {N : Nat} : ∀ (l : List Nat) (b : Nat), b < N → (∀ s ∈ l, s < N) → l.foldl (better2 f) b < N
  | [], b, hb, _ => hb
  | s :: r, b, hb, h => by
    rw [List.foldl_cons]
    refine fold_lt r _ ?_ fun x m => h x (List.mem_cons_of_mem _ m)
    unfold better2
    split
    · exact h s (List.mem_cons_self ..)
    · exact hb
theorem best_lt (f : Fun) (k : Nat) : Dr04.best f k < 2 ^ f.many := by
  rw [best_upTo]
  exact fold_lt _ _ (Nat.two_pow_pos _) fun s m => mem_upTo m

/-! ### greed -/
def more (f : Fun) (s j i : Nat) : Nat := if brings f s j < brings f s i then i else j
theorem next_fold (f : Fun) (s : Nat) : ∀ (l : List Nat) (j : Nat), l.foldl (fun (b : Option Nat) i => match b with
  | none => some i
  | some j => if brings f s j < brings f s i then some i else some j) (some j) = some (l.foldl (more f s) j)
  | [], j => rfl
  | i :: r, j => by
    rw [List.foldl_cons, List.foldl_cons]
    show List.foldl _ (if brings f s j < brings f s i then some i else some j) r = _
    have : (if brings f s j < brings f s i then some i else some j) = some (more f s j i) := by
      unfold more
      split <;> rfl
    rw [this]
    exact next_fold f s r _
theorem next_none {f : Fun} {s : Nat} (h : out f.many s = []) : Dr04.next f s = none := by
  show (out f.many s).foldl _ none = none
  rw [h]; rfl
theorem next_cons {f : Fun} {s a : Nat} {r : List Nat} (h : out f.many s = a :: r) : Dr04.next f s = some ((a :: r).foldl (more f s) a) := by
  show (out f.many s).foldl _ none = _
  rw [h, List.foldl_cons, List.foldl_cons]
  show r.foldl _ (some a) = _
  refine (next_fold f s r a).trans ?_
  have : more f s a a = a := by unfold more; split <;> rfl
  rw [this]
theorem more_mem {f : Fun} {s : Nat} {L : List Nat} : ∀ (l : List Nat) (j : Nat), j ∈ L → (∀ x ∈ l, x ∈ L) → l.foldl (more f s) j ∈ L
  | [], j, h, _ => h
  | i :: r, j, h, k => by
    rw [List.foldl_cons]
    refine more_mem r _ ?_ fun x m => k x (List.mem_cons_of_mem _ m)
    unfold more
    split
    · exact k i (List.mem_cons_self ..)
    · exact h
theorem next_mem {f : Fun} {s i : Nat} (h : Dr04.next f s = some i) : i ∈ out f.many s := by
  cases e : out f.many s with
  | nil => rw [next_none e] at h; cases h
  | cons a r =>
    rw [next_cons e] at h
    cases h
    exact more_mem _ _ (List.mem_cons_self ..) fun x m => m
theorem out_with : ∀ (n : Nat), n < 6 → ∀ (s : Nat), s < 2 ^ n → ∀ (t : Nat), t < n + 1 → 1 ≤ t → has s t = false → (out n (with_ s t)).length + 1 = (out n s).length := by decide +kernel
theorem greed_cut {f : Fun} (w : Wf f) : ∀ (k s : Nat), s < 2 ^ f.many → Dr04.greed f k s = Dr04.greed f (min k (out f.many s).length) s
  | 0, s, _ => by rw [Nat.zero_min]
  | k + 1, s, hs => by
    cases e : out f.many s with
    | nil =>
      rw [List.length_nil, Nat.min_zero]
      show (match Dr04.next f s with | none => [] | some i => i :: Dr04.greed f k (with_ s i)) = []
      rw [next_none e]
    | cons a r =>
      have hn := next_cons e
      have hm := next_mem hn
      have hm' := mem_out.mp hm
      have hw := out_with f.many (by have := w.hi; omega) s hs _ (by omega) hm'.1.1 hm'.2
      have hl := with_lt f.many (by have := w.hi; omega) s hs _ (by omega) hm'.1.1
      rw [e] at hw
      have em : min (k + 1) (a :: r).length = min k r.length + 1 := by rw [List.length_cons]; omega
      rw [em]
      show (match Dr04.next f s with | none => [] | some i => i :: Dr04.greed f k (with_ s i)) = (match Dr04.next f s with | none => [] | some i => i :: Dr04.greed f (min k r.length) (with_ s i))
      rw [hn]
      show _ :: _ = _ :: _
      rw [greed_cut w k _ hl, greed_cut w (min k r.length) _ hl]
      have : (out f.many (with_ s ((a :: r).foldl (more f s) a))).length = r.length := by
        rw [List.length_cons] at hw; omega
      rw [this]
      congr 2
      omega
theorem out_zero_len (n : Nat) : (out n 0).length = n := by
  unfold out
  rw [List.filter_eq_self.mpr]
  · simp
  · intro a _
    unfold Dr01.has
    simp
theorem greed_min {f : Fun} (w : Wf f) (k : Nat) : Dr04.greed f (min k 100) 0 = Dr04.greed f (min k f.many) 0 := by
  have h0 : 0 < 2 ^ f.many := Nat.two_pow_pos _
  rw [greed_cut w (min k 100) 0 h0, out_zero_len]
  have := w.hi
  congr 1
  omega
/-- the sum of what each thing alone is, the things being new one after another -/
theorem greed_sum {f : Fun} (w : Wf f) : ∀ (k s : Nat), s < 2 ^ f.many → (Dr04.greed f k s).foldl with_ s = s + ((Dr04.greed f k s).map fun t => 2 ^ (t - 1)).sum ∧ (Dr04.greed f k s).foldl with_ s < 2 ^ f.many
  | 0, s, hs => ⟨rfl, hs⟩
  | k + 1, s, hs => by
    show (match Dr04.next f s with | none => [] | some i => i :: Dr04.greed f k (with_ s i)).foldl with_ s = s + ((match Dr04.next f s with | none => [] | some i => i :: Dr04.greed f k (with_ s i)).map fun t => 2 ^ (t - 1)).sum ∧ (match Dr04.next f s with | none => [] | some i => i :: Dr04.greed f k (with_ s i)).foldl with_ s < 2 ^ f.many
    cases e : Dr04.next f s with
    | none => exact ⟨rfl, hs⟩
    | some i =>
      have hm := mem_out.mp (next_mem e)
      have hl := with_lt f.many (by have := w.hi; omega) s hs i (by omega) hm.1.1
      have ih := greed_sum w k (with_ s i) hl
      refine ⟨?_, ih.2⟩
      show (Dr04.greed f k (with_ s i)).foldl with_ (with_ s i) = s + (2 ^ (i - 1) + ((Dr04.greed f k (with_ s i)).map fun t => 2 ^ (t - 1)).sum)
      rw [ih.1]
      rw [show with_ s i + ((Dr04.greed f k (with_ s i)).map fun t => 2 ^ (t - 1)).sum = (s + 2 ^ (i - 1)) + ((Dr04.greed f k (with_ s i)).map fun t => 2 ^ (t - 1)).sum by rw [← with_new hm.2]]
      exact Nat.add_assoc _ _ _
theorem greed_len {f : Fun} : ∀ (k s : Nat), (Dr04.greed f k s).length ≤ k
  | 0, _ => Nat.le_refl _
  | k + 1, s => by
    show (match Dr04.next f s with | none => [] | some i => i :: Dr04.greed f k (with_ s i)).length ≤ k + 1
    cases Dr04.next f s with
    | none => exact Nat.zero_le _
    | some i => exact Nat.succ_le_succ (greed_len k _)

/-! ### sorted down -/
def put (r : List Int) (a : Int) : List Int := (r.takeWhile fun b => decide (a ≤ b)) ++ a :: r.dropWhile fun b => decide (a ≤ b)
theorem put_perm (r : List Int) (a : Int) : (put r a).Perm (a :: r) := by
  unfold put
  refine List.perm_middle.trans ?_
  rw [List.takeWhile_append_dropWhile]
theorem put_down : ∀ (r : List Int) (a : Int), r.Pairwise (fun x y => y ≤ x) → (put r a).Pairwise (fun x y => y ≤ x)
  | [], a, _ => by simp [put]
  | b :: r, a, h => by
    unfold put
    by_cases c : a ≤ b
    · rw [List.takeWhile_cons, if_pos (decide_eq_true c), List.dropWhile_cons, if_pos (decide_eq_true c)]
      rw [List.pairwise_cons] at h
      rw [List.cons_append, List.pairwise_cons]
      refine ⟨fun x m => ?_, put_down r a h.2⟩
      have m' := (put_perm r a).mem_iff.mp m
      rw [List.mem_cons] at m'
      rcases m' with rfl | m'
      · exact c
      · exact h.1 x m'
    · rw [List.takeWhile_cons, if_neg (by simp; omega), List.dropWhile_cons, if_neg (by simp; omega)]
      rw [List.nil_append, List.pairwise_cons]
      refine ⟨fun x m => ?_, h⟩
      rw [List.mem_cons] at m
      rw [List.pairwise_cons] at h
      rcases m with rfl | m
      · omega
      · have := h.1 x m
        omega
theorem sort_fold : ∀ (l r : List Int), r.Pairwise (fun x y => y ≤ x) → (l.foldl put r).Pairwise (fun x y => y ≤ x) ∧ (l.foldl put r).Perm (l ++ r)
  | [], r, h => ⟨h, .refl _⟩
  | a :: l, r, h => by
    have ih := sort_fold l (put r a) (put_down r a h)
    refine ⟨ih.1, ih.2.trans ?_⟩
    exact ((put_perm r a).append_left l).trans List.perm_middle
theorem sortDown_down (l : List Int) : (Dr04.sortDown l).Pairwise (fun x y => y ≤ x) := (sort_fold l [] .nil).1
theorem sortDown_perm (l : List Int) : (Dr04.sortDown l).Perm l := by
  have := (sort_fold l [] .nil).2
  rw [List.append_nil] at this
  exact this
theorem down_unique : ∀ {l m : List Int}, l.Perm m → l.Pairwise (fun x y => y ≤ x) → m.Pairwise (fun x y => y ≤ x) → l = m
  | [], m, h, _, _ => (List.nil_perm.mp h).symm
  | a :: l, [], h, _, _ => by have := h.length_eq; simp at this
  | a :: l, b :: m, h, hl, hm => by
    rw [List.pairwise_cons] at hl hm
    have e : a = b := by
      have m1 : b ∈ a :: l := h.mem_iff.mpr (List.mem_cons_self ..)
      have m2 : a ∈ b :: m := h.mem_iff.mp (List.mem_cons_self ..)
      rw [List.mem_cons] at m1 m2
      rcases m1 with e | m1
      · exact e.symm
      · rcases m2 with e | m2
        · exact e
        · have := hl.1 b m1
          have := hm.1 a m2
          omega
    subst e
    rw [down_unique (List.perm_cons a |>.mp h) hl.2 hm.2]
theorem sorted_is {l m : List Int} (h : m.Perm l) (d : m.Pairwise (fun x y => y ≤ x)) : m = Dr04.sortDown l :=
  down_unique (h.trans (sortDown_perm l).symm) d (sortDown_down l)
theorem take_min (l : List Int) (k : Nat) (h : l.length ≤ 100) : l.take (min k 100) = l.take k := by
  by_cases c : k ≤ 100
  · rw [Nat.min_eq_left c]
  · rw [Nat.min_eq_right (by omega), List.take_of_length_le h, List.take_of_length_le (by omega)]
theorem foldr_sum (l : List Int) : l.foldr (fun a n => a + n) 0 = l.sum := rfl
theorem sortDown_len (l : List Int) : (Dr04.sortDown l).length = l.length := (sortDown_perm l).length_eq
/-! ### handed numbers, how many there are -/
theorem whole_even {z : Nat} (h : z % 2 = 0) : Dr01.whole z = (z : Int) / 2 := by
  unfold Dr01.whole
  rw [if_pos h]; omega
theorem whole_odd {z : Nat} (h : ¬ z % 2 = 0) : Dr01.whole z = -(((z : Int) + 1) / 2) := by
  unfold Dr01.whole
  rw [if_neg h]; omega
theorem log2_some : ∀ (m : Nat), m < 64 → ∀ (n : Nat), n < 6 → (Dr01.log2 m = some n ↔ 2 ^ n = m) := by decide +kernel
theorem log2_is : ∀ (m : Nat), m < 64 → Dr01.log2 m = if m = 1 then some 0 else if m = 2 then some 1 else if m = 4 then some 2 else if m = 8 then some 3 else if m = 16 then some 4 else if m = 32 then some 5 else none := by decide +kernel
end Cw
namespace Cw
open Dr01 (Fun has with_ without val things sets brings)
/-! ### a line's calls, one after another -/
inductive One : List Nat → Dr04.Call → List Nat → Prop
  | tell {m : Nat} {r : List Nat} (h : m ≤ r.length) (b : m ≤ 40) : One (0 :: m :: r) (.tell (r.take m)) (r.drop m)
  | cover {n m : Nat} {r : List Nat} (h : m ≤ r.length) (b : m ≤ 50) : One (1 :: n :: m :: r) (.cover n (r.take m)) (r.drop m)
  | best {k : Nat} {r : List Nat} : One (2 :: k :: r) (.best k) r
  | greed {k : Nat} {r : List Nat} : One (3 :: k :: r) (.greed (min k 100)) r
  | bound {k s : Nat} {r : List Nat} : One (4 :: k :: s :: r) (.bound (min k 100) s) r
  | brings {s : Nat} {r : List Nat} : One (5 :: s :: r) (.brings s) r
  | better {s : Nat} {r : List Nat} : One (6 :: s :: r) (.better s) r
  | settle {s : Nat} {r : List Nat} : One (7 :: s :: r) (.settle s) r
  | spend {n m : Nat} {r : List Nat} (h : m ≤ r.length) (b : m ≤ 10) : One (8 :: n :: m :: r) (.spend n (r.take m)) (r.drop m)
  | greedily {n m : Nat} {r : List Nat} (h : m ≤ r.length) (b : m ≤ 10) : One (9 :: n :: m :: r) (.greedily n (r.take m)) (r.drop m)
  | three {n m : Nat} {r : List Nat} (h : m ≤ r.length) (b : m ≤ 10) : One (10 :: n :: m :: r) (.three n (r.take m)) (r.drop m)
  | curve {r : List Nat} : One (11 :: r) .curve r
inductive Line : Dr04.St → List Nat → List Int → Nat → Prop
  | nil {d : Dr04.St} : Line d [] [] 0
  | cons {d : Dr04.St} {zs t : List Nat} {c : Dr04.Call} {o : List Int} {m : Nat} (h : One zs c t) (l : Line (Dr04.step d c).1 t o m) : Line d zs ((((Dr04.step d c).2.length : Int) :: (Dr04.step d c).2) ++ o) (m + 1)

theorem shape_cases (p : Int) : (p = 0 ∨ p = 1 ∨ p = 2 ∨ p = 3 ∨ p = 4 ∨ p = 5 ∨ p = 6 ∨ p = 7 ∨ p = 8 ∨ p = 9 ∨ p = 10 ∨ p = 11) ∨ PyDr04.shape p = none := by
  by_cases h : (p = 0 ∨ p = 1 ∨ p = 2 ∨ p = 3 ∨ p = 4 ∨ p = 5 ∨ p = 6 ∨ p = 7 ∨ p = 8 ∨ p = 9 ∨ p = 10 ∨ p = 11)
  · exact .inl h
  · right
    unfold PyDr04.shape
    simp only [not_or] at h
    obtain ⟨h0, h1, h2, h3, h4, h5, h6, h7, h8, h9, h10, h11⟩ := h
    rw [if_neg h0, if_neg h1, if_neg h2, if_neg h3, if_neg h4, if_neg h5, if_neg h6, if_neg h7, if_neg h8, if_neg h9, if_neg h10, if_neg h11]
def In32 (l : List Int) : Prop := ∀ x ∈ l, 0 ≤ x ∧ x ≤ 4294967295
theorem In32.all {l : List Int} (h : In32 l) : l.all Dr04Neutral.nat = true := by
  rw [List.all_eq_true]
  intro x m
  have := h x m
  unfold Dr04Neutral.nat
  rw [decide_eq_true this.1, decide_eq_true (by omega)]
  rfl
theorem step_of {d : Dr04.St} {l : List Int} {x : Dr04.Call} (h : In32 l) (e : Dr04Neutral.callIn (l.map Int.toNat) = some x) : Dr04Neutral.step d l = Dr04.step d x := by
  unfold Dr04Neutral.step Dr04Neutral.callOf
  rw [h.all, if_neg (by decide), e]
theorem In32.tail {a : Int} {l : List Int} (h : In32 (a :: l)) : In32 l := fun x m => h x (List.mem_cons_of_mem _ m)
theorem In32.head {a : Int} {l : List Int} (h : In32 (a :: l)) : 0 ≤ a ∧ a ≤ 4294967295 := h a (List.mem_cons_self ..)
theorem In32.take {l : List Int} (h : In32 l) (n : Nat) : In32 (l.take n) := fun x m => h x (List.mem_of_mem_take m)
theorem In32.drop {l : List Int} (h : In32 l) (n : Nat) : In32 (l.drop n) := fun x m => h x (List.mem_of_mem_drop m)
theorem In32.cons {a : Int} {l : List Int} (h : 0 ≤ a ∧ a ≤ 4294967295) (t : In32 l) : In32 (a :: l) := by
  intro x m
  rw [List.mem_cons] at m
  rcases m with rfl | m
  · exact h
  · exact t x m
/-- calls with one whole number and no row -/
theorem call10 {p : Int} (hp : PyDr04.shape p = some (1, 0)) {r : List Int} {c : List (List Int)} {t : List Int} (h : PyFlat.call PyDr04.shape (p :: r) = some (c, t)) : ∃ x, r = x :: t ∧ c = [[p, x]] := by
  unfold PyFlat.call at h
  dsimp only at h
  rw [hp] at h
  cases r with
  | nil => cases h
  | cons x r =>
    simp only [List.length_cons] at h
    rw [if_neg (by omega)] at h
    cases h
    exact ⟨x, rfl, rfl⟩
theorem row_some {r x s : List Int} (h : PyFlat.row r = some (x, s)) : ∃ m q, r = m :: q ∧ 0 ≤ m ∧ m.toNat ≤ q.length ∧ x = q.take m.toNat ∧ s = q.drop m.toNat := by
  cases r with
  | nil => cases h
  | cons m q =>
    unfold PyFlat.row at h
    dsimp only at h
    by_cases c : 0 ≤ m ∧ m.toNat ≤ q.length
    · rw [if_pos c] at h
      cases h
      exact ⟨m, q, rfl, c.1, c.2, rfl, rfl⟩
    · rw [if_neg c] at h
      cases h
theorem rows1 {r t : List Int} {xs : List (List Int)} (h : PyFlat.rows 1 r = some (xs, t)) : ∃ m q, r = m :: q ∧ 0 ≤ m ∧ m.toNat ≤ q.length ∧ xs = [q.take m.toNat] ∧ t = q.drop m.toNat := by
  unfold PyFlat.rows at h
  cases e : PyFlat.row r with
  | none => rw [e] at h; cases h
  | some z =>
    rw [e] at h
    cases h
    obtain ⟨m, q, a, b, c, e1, e2⟩ := row_some e
    exact ⟨m, q, a, b, c, by rw [e1], e2⟩
theorem call01 {p : Int} (hp : PyDr04.shape p = some (0, 1)) {r : List Int} {c : List (List Int)} {t : List Int} (h : PyFlat.call PyDr04.shape (p :: r) = some (c, t)) :
    ∃ m q, r = m :: q ∧ 0 ≤ m ∧ m.toNat ≤ q.length ∧ c = [[p], q.take m.toNat] ∧ t = q.drop m.toNat := by
  unfold PyFlat.call at h
  dsimp only at h
  rw [hp] at h
  simp only [Nat.not_lt_zero, if_false, List.drop_zero, List.take_zero] at h
  cases e : PyFlat.rows 1 r with
  | none => rw [e] at h; cases h
  | some z =>
    rw [e] at h
    cases h
    obtain ⟨m, q, rfl, h1, h2, h3, h4⟩ := rows1 e
    exact ⟨m, q, rfl, h1, h2, by rw [h3], h4⟩
theorem call11 {p : Int} (hp : PyDr04.shape p = some (1, 1)) {r : List Int} {c : List (List Int)} {t : List Int} (h : PyFlat.call PyDr04.shape (p :: r) = some (c, t)) :
    ∃ x m q, r = x :: m :: q ∧ 0 ≤ m ∧ m.toNat ≤ q.length ∧ c = [[p, x], q.take m.toNat] ∧ t = q.drop m.toNat := by
  unfold PyFlat.call at h
  dsimp only at h
  rw [hp] at h
  cases r with
  | nil => cases h
  | cons x r =>
    simp only [List.length_cons] at h
    rw [if_neg (by omega)] at h
    simp only [List.drop_succ_cons, List.drop_zero, List.take_succ_cons, List.take_zero] at h
    cases e : PyFlat.rows 1 r with
    | none => rw [e] at h; cases h
    | some z =>
      rw [e] at h
      cases h
      obtain ⟨m, q, rfl, h1, h2, h3, h4⟩ := rows1 e
      exact ⟨x, m, q, rfl, h1, h2, by rw [h3], h4⟩
theorem call20 {p : Int} (hp : PyDr04.shape p = some (2, 0)) {r : List Int} {c : List (List Int)} {t : List Int} (h : PyFlat.call PyDr04.shape (p :: r) = some (c, t)) : ∃ x y, r = x :: y :: t ∧ c = [[p, x, y]] := by
  unfold PyFlat.call at h
  dsimp only at h
  rw [hp] at h
  match r, h with
  | [], h => cases h
  | [x], h => simp at h
  | x :: y :: r, h =>
    simp only [List.length_cons] at h
    rw [if_neg (by omega)] at h
    cases h
    exact ⟨x, y, rfl, rfl⟩
theorem call00 {p : Int} (hp : PyDr04.shape p = some (0, 0)) {r : List Int} {c : List (List Int)} {t : List Int} (h : PyFlat.call PyDr04.shape (p :: r) = some (c, t)) : r = t ∧ c = [[p]] := by
  unfold PyFlat.call at h
  dsimp only at h
  rw [hp] at h
  simp only [Nat.not_lt_zero, if_false, List.drop_zero, List.take_zero] at h
  cases h
  exact ⟨rfl, rfl⟩
theorem inside_row {p : Int} {a : List (Int × Int)} {n : Nat} (hb : PyDr04.bound p = (a, [(0, 4294967295, 0, n)])) {xs q : List Int} (h : PyInside.call PyDr04.bound [p :: xs, q] = true) : q.length ≤ n := by
  unfold PyInside.call at h
  simp only [hb] at h
  rw [Bool.and_eq_true] at h
  have h2 := h.2
  unfold PyInside.lists at h2
  simp only [Bool.and_eq_true, decide_eq_true_eq] at h2
  exact h2.1.1.2
theorem one_of {d : Dr04.St} {p : Int} {r t : List Int} {c : List (List Int)} (hz : In32 (p :: r)) (h : PyFlat.call PyDr04.shape (p :: r) = some (c, t)) (hi : PyInside.call PyDr04.bound c = true) :
    ∃ x, One ((p :: r).map Int.toNat) x (t.map Int.toNat) ∧ Dr04Neutral.step d ((PyDr04.whole c).headD []) = Dr04.step d x ∧ In32 t := by
  rcases shape_cases p with (rfl | rfl | rfl | rfl | rfl | rfl | rfl | rfl | rfl | rfl | rfl | rfl) | hn
  case inr =>
    unfold PyFlat.call at h
    dsimp only at h
    rw [hn] at h
    cases h
  · obtain ⟨m, q, rfl, h1, h2, rfl, rfl⟩ := call01 rfl h
    have b := inside_row (n := 40) rfl hi
    rw [List.length_take, Nat.min_eq_left h2] at b
    have hq := hz.tail.tail
    refine ⟨.tell ((q.map Int.toNat).take m.toNat), ?_, step_of (In32.cons hz.head (hq.take _)) ?_, hq.drop _⟩
    · rw [List.map_drop]
      exact .tell (by rw [List.length_map]; exact h2) b
    · rw [← List.map_take]; rfl
  · obtain ⟨x, m, q, rfl, h1, h2, rfl, rfl⟩ := call11 rfl h
    have b := inside_row (n := 50) rfl hi
    rw [List.length_take, Nat.min_eq_left h2] at b
    have hq := hz.tail.tail.tail
    refine ⟨.cover x.toNat ((q.map Int.toNat).take m.toNat), ?_, step_of (In32.cons hz.head (In32.cons hz.tail.head (hq.take _))) ?_, hq.drop _⟩
    · rw [List.map_drop]
      exact .cover (by rw [List.length_map]; exact h2) b
    · rw [← List.map_take]; rfl
  · obtain ⟨x, rfl, rfl⟩ := call10 rfl h
    exact ⟨.best x.toNat, .best, step_of (In32.cons hz.head (In32.cons hz.tail.head (fun _ m => nomatch m))) rfl, hz.tail.tail⟩
  · obtain ⟨x, rfl, rfl⟩ := call10 rfl h
    exact ⟨.greed (min x.toNat 100), .greed, step_of (In32.cons hz.head (In32.cons hz.tail.head (fun _ m => nomatch m))) rfl, hz.tail.tail⟩
  · obtain ⟨x, y, rfl, rfl⟩ := call20 rfl h
    exact ⟨.bound (min x.toNat 100) y.toNat, .bound, step_of (In32.cons hz.head (In32.cons hz.tail.head (In32.cons hz.tail.tail.head (fun _ m => nomatch m)))) rfl, hz.tail.tail.tail⟩
  · obtain ⟨x, rfl, rfl⟩ := call10 rfl h
    exact ⟨.brings x.toNat, .brings, step_of (In32.cons hz.head (In32.cons hz.tail.head (fun _ m => nomatch m))) rfl, hz.tail.tail⟩
  · obtain ⟨x, rfl, rfl⟩ := call10 rfl h
    exact ⟨.better x.toNat, .better, step_of (In32.cons hz.head (In32.cons hz.tail.head (fun _ m => nomatch m))) rfl, hz.tail.tail⟩
  · obtain ⟨x, rfl, rfl⟩ := call10 rfl h
    exact ⟨.settle x.toNat, .settle, step_of (In32.cons hz.head (In32.cons hz.tail.head (fun _ m => nomatch m))) rfl, hz.tail.tail⟩
  · obtain ⟨x, m, q, rfl, h1, h2, rfl, rfl⟩ := call11 rfl h
    have b := inside_row (n := 10) rfl hi
    rw [List.length_take, Nat.min_eq_left h2] at b
    have hq := hz.tail.tail.tail
    refine ⟨.spend x.toNat ((q.map Int.toNat).take m.toNat), ?_, step_of (In32.cons hz.head (In32.cons hz.tail.head (hq.take _))) ?_, hq.drop _⟩
    · rw [List.map_drop]
      exact .spend (by rw [List.length_map]; exact h2) b
    · rw [← List.map_take]; rfl
  · obtain ⟨x, m, q, rfl, h1, h2, rfl, rfl⟩ := call11 rfl h
    have b := inside_row (n := 10) rfl hi
    rw [List.length_take, Nat.min_eq_left h2] at b
    have hq := hz.tail.tail.tail
    refine ⟨.greedily x.toNat ((q.map Int.toNat).take m.toNat), ?_, step_of (In32.cons hz.head (In32.cons hz.tail.head (hq.take _))) ?_, hq.drop _⟩
    · rw [List.map_drop]
      exact .greedily (by rw [List.length_map]; exact h2) b
    · rw [← List.map_take]; rfl
  · obtain ⟨x, m, q, rfl, h1, h2, rfl, rfl⟩ := call11 rfl h
    have b := inside_row (n := 10) rfl hi
    rw [List.length_take, Nat.min_eq_left h2] at b
    have hq := hz.tail.tail.tail
    refine ⟨.three x.toNat ((q.map Int.toNat).take m.toNat), ?_, step_of (In32.cons hz.head (In32.cons hz.tail.head (hq.take _))) ?_, hq.drop _⟩
    · rw [List.map_drop]
      exact .three (by rw [List.length_map]; exact h2) b
    · rw [← List.map_take]; rfl
  · obtain ⟨rfl, rfl⟩ := call00 rfl h
    exact ⟨.curve, .curve, step_of (In32.cons hz.head (fun _ m => nomatch m)) rfl, hz.tail⟩
theorem line_of : ∀ (fuel : Nat) (l : List Int) (cs : List (List (List Int))) (d : Dr04.St), In32 l → PyFlat.calls PyDr04.shape fuel l = some cs → PyInside.calls PyDr04.bound cs = true →
    Line d (l.map Int.toNat) (PyFlat.told (PyFlat.played (fun s c => Dr04Neutral.step s (c.headD [])) d (cs.map PyDr04.whole))) cs.length
  | fuel, [], cs, d, _, h, _ => by
    have : cs = [] := by
      cases fuel <;> · cases h; rfl
    subst this
    exact .nil
  | 0, _ :: _, cs, d, _, h, _ => by cases h
  | fuel + 1, p :: r, cs, d, hz, h, hi => by
    unfold PyFlat.calls at h
    cases e : PyFlat.call PyDr04.shape (p :: r) with
    | none => rw [e] at h; cases h
    | some ct =>
      obtain ⟨c, t⟩ := ct
      rw [e] at h
      simp only at h
      cases e2 : PyFlat.calls PyDr04.shape fuel t with
      | none => rw [e2] at h; cases h
      | some cs' =>
        rw [e2] at h
        cases h
        unfold PyInside.calls at hi
        rw [List.all_cons, Bool.and_eq_true] at hi
        obtain ⟨x, ho, hs, ht⟩ := one_of (d := d) hz e hi.1
        have ih := line_of fuel t cs' (Dr04.step d x).1 ht e2 hi.2
        have key : PyFlat.told (PyFlat.played (fun s c => Dr04Neutral.step s (c.headD [])) d ((c :: cs').map PyDr04.whole)) =
            (((Dr04.step d x).2.length : Int) :: (Dr04.step d x).2) ++ PyFlat.told (PyFlat.played (fun s c => Dr04Neutral.step s (c.headD [])) (Dr04.step d x).1 (cs'.map PyDr04.whole)) := by
          rw [List.map_cons]
          show PyFlat.told ((Dr04Neutral.step d ((PyDr04.whole c).headD [])).2 :: PyFlat.played _ (Dr04Neutral.step d ((PyDr04.whole c).headD [])).1 _) = _
          rw [hs]
          rfl
        rw [key]
        exact .cons ho ih
theorem line_start {l : List Int} (hz : In32 l) (h : PyDr04.answers_asked l = true) : ∃ m, m ≤ 30 ∧ Line Dr04.init (l.map Int.toNat) (PyDr04.answers l) m := by
  unfold PyDr04.answers_asked at h
  unfold PyDr04.answers PyDr04.calls
  cases e : PyFlat.calls PyDr04.shape l.length l with
  | none => rw [e] at h; cases h
  | some cs =>
    rw [e] at h
    simp only [Bool.and_eq_true] at h
    have hm := h.1.1.1.2
    unfold PyFlat.atMost at hm
    exact ⟨cs.length, of_decide_eq_true hm, line_of _ l cs Dr04.init hz e h.1.1.2⟩
end Cw
namespace Cw
open Dr01 (Fun has with_ without val things sets brings)
/-! ### points -/
theorem covered_some : ∀ {n : Nat} {l : List Nat} {c : List (Nat × Nat)}, Dr01.covered n l = some c → l.length = 2 * c.length ∧ (∀ x ∈ c, x.1 ≤ 1000 ∧ x.2 < 2 ^ n)
  | n, [], c, h => by cases h; exact ⟨rfl, fun _ m => nomatch m⟩
  | n, [_], c, h => by cases h
  | n, w :: t :: l, c, h => by
    unfold Dr01.covered at h
    by_cases q : w ≤ 1000 ∧ t < 2 ^ n
    · rw [if_pos q] at h
      cases e : Dr01.covered n l with
      | none => rw [e] at h; cases h
      | some r =>
        rw [e] at h
        cases h
        have ih := covered_some e
        refine ⟨by simp only [List.length_cons]; omega, fun x m => ?_⟩
        rw [List.mem_cons] at m
        rcases m with rfl | m
        · exact q
        · exact ih.2 x m
    · rw [if_neg q] at h
      cases h
/-- pair by pair, by place -/
def pairOk (n : Nat) (l : List Nat) (j : Nat) : Bool := decide (l.getD (2 * j) 0 ≤ 1000) && decide (l.getD (2 * j + 1) 0 < 2 ^ n)
theorem pair_succ (n a b : Nat) (l : List Nat) (j : Nat) : pairOk n (a :: b :: l) (j + 1) = pairOk n l j := rfl
theorem covered_isSome : ∀ (n : Nat) (l : List Nat), (Dr01.covered n l).isSome = (decide (l.length % 2 = 0) && (List.range (l.length / 2)).all fun j => pairOk n l j)
  | n, [] => rfl
  | n, [_] => rfl
  | n, w :: t :: l => by
    unfold Dr01.covered
    have e1 : (w :: t :: l).length % 2 = l.length % 2 := by simp only [List.length_cons]; omega
    have e2 : (w :: t :: l).length / 2 = l.length / 2 + 1 := by simp only [List.length_cons]; omega
    rw [e1, e2, List.range_succ_eq_map, List.all_cons, List.all_map]
    have e3 : ((fun j => pairOk n (w :: t :: l) j) ∘ Nat.succ) = fun j => pairOk n l j := rfl
    have e4 : pairOk n (w :: t :: l) 0 = (decide (w ≤ 1000) && decide (t < 2 ^ n)) := rfl
    rw [e3, e4]
    have ih := covered_isSome n l
    by_cases q : w ≤ 1000 ∧ t < 2 ^ n
    · rw [if_pos q, decide_eq_true q.1, decide_eq_true q.2, Option.isSome_map, ih]
      rfl
    · rw [if_neg q]
      have : (decide (w ≤ 1000) && decide (t < 2 ^ n)) = false := by
        rw [Bool.and_eq_false_iff, decide_eq_false_iff_not, decide_eq_false_iff_not]
        omega
      rw [this, Bool.false_and, Bool.and_false]
      rfl
/-- what the program asks of points -/
def pointsOk (n : Nat) (l : List Nat) : Bool := match Dr01.covered n l with
  | none => false
  | some c => decide (c.length ≤ 20)
theorem pointsOk_is (n : Nat) (l : List Nat) : pointsOk n l = (decide (l.length % 2 = 0) && decide (l.length ≤ 40) && (List.range (l.length / 2)).all fun j => pairOk n l j) := by
  have h := covered_isSome n l
  unfold pointsOk
  cases e : Dr01.covered n l with
  | none =>
    rw [e] at h
    simp only [Option.isSome_none] at h
    show false = _
    rw [Bool.and_right_comm, ← h]; rfl
  | some c =>
    rw [e] at h
    simp only [Option.isSome_some] at h
    have hl := (covered_some e).1
    show decide (c.length ≤ 20) = _
    rw [Bool.and_right_comm, ← h, Bool.true_and]
    congr 1
    rw [eq_iff_iff]
    omega
/-- the weights that are met, by place -/
def met (l : List Nat) (s : Nat) : List Nat := ((List.range (l.length / 2)).filter fun j => decide (¬ (l.getD (2 * j + 1) 0 &&& s) = 0)).map fun j => l.getD (2 * j) 0
theorem met_cons (w t : Nat) (l : List Nat) (s : Nat) : met (w :: t :: l) s = (if (t &&& s) = 0 then [] else [w]) ++ met l s := by
  unfold met
  have e2 : (w :: t :: l).length / 2 = l.length / 2 + 1 := by simp only [List.length_cons]; omega
  rw [e2, List.range_succ_eq_map, List.filter_cons, List.filter_map]
  have e3 : ((fun j => decide (¬ ((w :: t :: l).getD (2 * j + 1) 0 &&& s) = 0)) ∘ Nat.succ) = fun j => decide (¬ (l.getD (2 * j + 1) 0 &&& s) = 0) := rfl
  rw [e3]
  have e4 : ((w :: t :: l).getD (2 * 0 + 1) 0) = t := rfl
  rw [e4]
  by_cases q : (t &&& s) = 0
  · rw [if_neg (by simp [q]), if_pos q, List.map_map, List.nil_append]
    rfl
  · rw [if_pos (by simp [q]), if_neg q, List.map_cons, List.map_map]
    rfl
theorem met_sum : ∀ {n : Nat} {l : List Nat} {c : List (Nat × Nat)} (s : Nat), Dr01.covered n l = some c →
    (((met l s).map fun (x : Nat) => (x : Int)).sum) = ((c.map fun x => if Dr01.meet x.2 s = 0 then (0 : Int) else (x.1 : Int)).foldr (fun a b => a + b) 0)
  | n, [], c, s, h => by cases h; rfl
  | n, [_], c, s, h => by cases h
  | n, w :: t :: l, c, s, h => by
    unfold Dr01.covered at h
    by_cases q : w ≤ 1000 ∧ t < 2 ^ n
    · rw [if_pos q] at h
      cases e : Dr01.covered n l with
      | none => rw [e] at h; cases h
      | some r =>
        rw [e] at h
        cases h
        have ih := met_sum s e
        rw [met_cons, List.map_append, List.sum_append, ih]
        show _ = (if Dr01.meet t s = 0 then (0 : Int) else (w : Int)) + _
        congr 1
        by_cases z : (t &&& s) = 0
        · rw [if_pos z, if_pos (show Dr01.meet t s = 0 from z)]; rfl
        · rw [if_neg z, if_neg (show ¬ Dr01.meet t s = 0 from z)]; simp
    · rw [if_neg q] at h
      cases h
theorem met_len (l : List Nat) (s : Nat) : (met l s).length ≤ l.length := by
  unfold met
  rw [List.length_map]
  refine Nat.le_trans (List.length_filter_le _ _) ?_
  rw [List.length_range]
  omega
def covAt (s : Nat) (c : List (Nat × Nat)) : Int := (c.map fun x => if Dr01.meet x.2 s = 0 then (0 : Int) else (x.1 : Int)).foldr (fun a b => a + b) 0
theorem cov_bd {n : Nat} {c : List (Nat × Nat)} (s : Nat) : (∀ x ∈ c, x.1 ≤ 1000 ∧ x.2 < 2 ^ n) → 0 ≤ covAt s c ∧ covAt s c ≤ 1000 * (c.length : Int) := by
  induction c with
  | nil => intro _; exact ⟨Int.le_refl 0, Int.le_refl 0⟩
  | cons x c ih =>
    intro h
    have i := ih fun y m => h y (List.mem_cons_of_mem _ m)
    have hx := h x (List.mem_cons_self ..)
    have e : covAt s (x :: c) = (if Dr01.meet x.2 s = 0 then (0 : Int) else (x.1 : Int)) + covAt s c := rfl
    rw [e, List.length_cons]
    have : 0 ≤ (if Dr01.meet x.2 s = 0 then (0 : Int) else (x.1 : Int)) ∧ (if Dr01.meet x.2 s = 0 then (0 : Int) else (x.1 : Int)) ≤ 1000 := by
      split <;> omega
    omega
/-! ### in order -/
theorem wf_init : Wf Dr04.init.fun_ := ⟨by decide, by decide, by decide, by decide⟩
theorem wf_tell {n : Nat} {l : List Nat} (h1 : 1 ≤ n) (h5 : n ≤ 5) (hl : l.length = 2 ^ n) (ha : ∀ z ∈ l, z ≤ 20000) : Wf ⟨n, l.map Dr01.whole⟩ := by
  refine ⟨h1, h5, by rw [List.length_map]; exact hl, fun v m => ?_⟩
  rw [List.mem_map] at m
  obtain ⟨z, hz, rfl⟩ := m
  have := ha z hz
  unfold Dr01.whole
  split <;> omega
theorem wf_cover {n : Nat} {c : List (Nat × Nat)} (h1 : 1 ≤ n) (h5 : n ≤ 5) (hc : c.length ≤ 20) (h : ∀ x ∈ c, x.1 ≤ 1000 ∧ x.2 < 2 ^ n) : Wf (Dr01.ofCover n c) := by
  refine ⟨h1, h5, by unfold Dr01.ofCover; simp, fun v m => ?_⟩
  unfold Dr01.ofCover at m
  rw [List.mem_map] at m
  obtain ⟨s, _, rfl⟩ := m
  have := cov_bd (n := n) s h
  show -20000 ≤ covAt s c ∧ covAt s c ≤ 20000
  omega
/-- tell, as the program asks it -/
theorem step_tell {d : Dr04.St} {l : List Nat} (hl : l.length ≤ 40) : Dr04.step d (.tell l) =
    if (l.length = 2 ∨ l.length = 4 ∨ l.length = 8 ∨ l.length = 16 ∨ l.length = 32) ∧ (∀ z ∈ l, z ≤ 20000) then Dr04.become d ⟨(Dr01.log2 l.length).getD 0, l.map Dr01.whole⟩ else (d, [-1]) := by
  show (match Dr01.log2 l.length with
    | none => (d, [-1])
    | some n => if n = 0 ∨ l.all (fun z => decide (z ≤ 20000)) = false then (d, [-1]) else Dr04.become d ⟨n, l.map Dr01.whole⟩) = _
  have hall : (l.all (fun z => decide (z ≤ 20000)) = false) ↔ ¬ (∀ z ∈ l, z ≤ 20000) := by
    rw [← Bool.not_eq_true, List.all_eq_true]
    simp only [decide_eq_true_eq]
  rw [log2_is _ (by omega)]
  generalize l.length = m at *
  by_cases e1 : m = 1
  · subst e1; simp
  by_cases e2 : m = 2
  · subst e2; simp [hall]
    by_cases c : ∀ z ∈ l, z ≤ 20000
    · rw [if_pos c, if_neg (by simpa using c)]
    · rw [if_neg c, if_pos (by simpa using c)]
  by_cases e3 : m = 4
  · subst e3; simp [hall]
    by_cases c : ∀ z ∈ l, z ≤ 20000
    · rw [if_pos c, if_neg (by simpa using c)]
    · rw [if_neg c, if_pos (by simpa using c)]
  by_cases e4 : m = 8
  · subst e4; simp [hall]
    by_cases c : ∀ z ∈ l, z ≤ 20000
    · rw [if_pos c, if_neg (by simpa using c)]
    · rw [if_neg c, if_pos (by simpa using c)]
  by_cases e5 : m = 16
  · subst e5; simp [hall]
    by_cases c : ∀ z ∈ l, z ≤ 20000
    · rw [if_pos c, if_neg (by simpa using c)]
    · rw [if_neg c, if_pos (by simpa using c)]
  by_cases e6 : m = 32
  · subst e6; simp [hall]
    by_cases c : ∀ z ∈ l, z ≤ 20000
    · rw [if_pos c, if_neg (by simpa using c)]
    · rw [if_neg c, if_pos (by simpa using c)]
  simp [e1, e2, e3, e4, e5, e6]
theorem step_cover {d : Dr04.St} {n : Nat} {l : List Nat} : Dr04.step d (.cover n l) =
    if (1 ≤ n ∧ n ≤ 5) ∧ pointsOk n l = true then Dr04.become d (Dr01.ofCover n ((Dr01.covered n l).getD [])) else (d, [-1]) := by
  show (if n = 0 ∨ 5 < n then (d, [-1]) else (match Dr01.covered n l with
    | none => (d, [-1])
    | some c => if 20 < c.length then (d, [-1]) else Dr04.become d (Dr01.ofCover n c))) = _
  by_cases q : 1 ≤ n ∧ n ≤ 5
  · rw [if_neg (by omega)]
    unfold pointsOk
    cases e : Dr01.covered n l with
    | none => simp
    | some c =>
      simp only [decide_eq_true_eq]
      by_cases z : c.length ≤ 20
      · rw [if_neg (by omega), if_pos ⟨q, z⟩]; rfl
      · rw [if_pos (by omega), if_neg (fun y => z y.2)]
  · rw [if_pos (by omega), if_neg (fun y => q y.1)]
theorem log2_pos {m : Nat} (h : m = 2 ∨ m = 4 ∨ m = 8 ∨ m = 16 ∨ m = 32) : 1 ≤ (Dr01.log2 m).getD 0 ∧ (Dr01.log2 m).getD 0 ≤ 5 ∧ 2 ^ ((Dr01.log2 m).getD 0) = m := by
  rcases h with rfl | rfl | rfl | rfl | rfl <;> decide
theorem become_wf {d : Dr04.St} {f : Fun} (w : Wf d.fun_) (v : Wf f) : Wf (Dr04.become d f).1.fun_ := by
  unfold Dr04.become
  split
  · exact w
  · exact v
/-- a call's numbers, as the document lets them be -/
def Fine : Dr04.Call → Prop
  | .tell l => l.length ≤ 40
  | _ => True
theorem One.fine {zs t : List Nat} {c : Dr04.Call} (h : One zs c t) : Fine c := by
  cases h <;> first | trivial | (show (List.take _ _).length ≤ 40; rw [List.length_take]; omega)
theorem step_wf {d : Dr04.St} {c : Dr04.Call} (w : Wf d.fun_) (hf : Fine c) : Wf (Dr04.step d c).1.fun_ := by
  cases c with
  | tell l =>
    rw [step_tell hf]
    split
    · rename_i q
      have p := log2_pos q.1
      exact become_wf w (wf_tell p.1 p.2.1 p.2.2.symm q.2)
    · exact w
  | cover n l =>
    rw [step_cover]
    split
    · rename_i q
      obtain ⟨q1, q2⟩ := q
      unfold pointsOk at q2
      cases e : Dr01.covered n l with
      | none => rw [e] at q2; cases q2
      | some c =>
        rw [e] at q2
        exact become_wf w (wf_cover q1.1 q1.2 (of_decide_eq_true q2) (covered_some e).2)
    · exact w
  | _ => exact w
theorem settle_len {f : Fun} : ∀ (k s : Nat), (Dr04.settle f k s).length ≤ k
  | 0, _ => Nat.le_refl _
  | k + 1, s => by
    show (match Dr04.better f s with | none => [] | some p => p :: Dr04.settle f k (with_ (without s p.1) p.2)).length ≤ k + 1
    cases Dr04.better f s with
    | none => exact Nat.zero_le _
    | some i => exact Nat.succ_le_succ (settle_len k _)
theorem flat2 {α β : Type} (g h : α → β) : ∀ l : List α, (l.flatMap fun x => [g x, h x]).length = 2 * l.length
  | [] => rfl
  | x :: l => by
    rw [List.flatMap_cons, List.length_append, flat2 g h l]
    simp only [List.length_cons, List.length_nil]
    omega
theorem step_len {d : Dr04.St} {c : Dr04.Call} (w : Wf d.fun_) (hf : Fine c) : (Dr04.step d c).2.length ≤ 100 := by
  have hb : ∀ f : Fun, Wf f → (Dr04.become d f).2.length ≤ 100 := by
    intro f v
    unfold Dr04.become
    split
    · exact Nat.le_of_ble_eq_true rfl
    · show ((f.many : Int) :: f.vals).length ≤ 100
      rw [List.length_cons, v.len]
      have := pow_le v.hi
      omega
  have h5 := w.hi
  cases c with
  | tell l =>
    rw [step_tell hf]
    split
    · rename_i q
      have p := log2_pos q.1
      exact hb _ (wf_tell p.1 p.2.1 p.2.2.symm q.2)
    · exact Nat.le_of_ble_eq_true rfl
  | cover n l =>
    rw [step_cover]
    split
    · rename_i q
      obtain ⟨q1, q2⟩ := q
      unfold pointsOk at q2
      cases e : Dr01.covered n l with
      | none => rw [e] at q2; cases q2
      | some c =>
        rw [e] at q2
        exact hb _ (wf_cover q1.1 q1.2 (of_decide_eq_true q2) (covered_some e).2)
    · exact Nat.le_of_ble_eq_true rfl
  | best k => exact Nat.le_of_ble_eq_true rfl
  | greed k =>
    show ([_, _] ++ Dr04.ints (Dr04.greed d.fun_ k 0)).length ≤ 100
    rw [List.length_append]
    unfold Dr04.ints
    rw [List.length_map, greed_cut w k 0 (Nat.two_pow_pos _), out_zero_len]
    have := greed_len (f := d.fun_) (min k d.fun_.many) 0
    show 2 + _ ≤ _
    omega
  | bound k s =>
    show (if Dr04.isSet d s = false then [-1] else [_]).length ≤ 100
    split <;> exact Nat.le_of_ble_eq_true rfl
  | brings s =>
    show (if Dr04.isSet d s = false then [-1] else _ :: (out d.fun_.many s).flatMap fun (i : Nat) => [((i : Nat) : Int), Dr01.brings d.fun_ s i]).length ≤ 100
    split
    · exact Nat.le_of_ble_eq_true rfl
    · rw [List.length_cons, flat2]
      have := out_len d.fun_.many s
      omega
  | better s =>
    show (if Dr04.isSet d s = false then [-1] else match Dr04.better d.fun_ s with
      | none => [-3]
      | some p => Dr04.ints [p.1, p.2] ++ [val d.fun_ (with_ (without s p.1) p.2)]).length ≤ 100
    split
    · exact Nat.le_of_ble_eq_true rfl
    · split <;> exact Nat.le_of_ble_eq_true rfl
  | settle s =>
    show (if Dr04.isSet d s = false then [-1] else [_, _] ++ Dr04.ints (_ :: (Dr04.settle d.fun_ (2 ^ d.fun_.many) s).flatMap fun p => [p.1, p.2])).length ≤ 100
    split
    · exact Nat.le_of_ble_eq_true rfl
    · rw [List.length_append]
      unfold Dr04.ints
      show 2 + _ ≤ _
      rw [List.length_map, List.length_cons, flat2]
      have := settle_len (f := d.fun_) (2 ^ d.fun_.many) s
      have := pow_le h5
      omega
  | spend b p =>
    show (if Dr04.isPrices d p = false then [-1] else [_, _]).length ≤ 100
    split <;> exact Nat.le_of_ble_eq_true rfl
  | greedily b p =>
    show (if Dr04.isPrices d p = false then [-1] else [_, _]).length ≤ 100
    split <;> exact Nat.le_of_ble_eq_true rfl
  | three b p =>
    show (if Dr04.isPrices d p = false then [-1] else [_, _]).length ≤ 100
    split <;> exact Nat.le_of_ble_eq_true rfl
  | curve =>
    show ((List.range (d.fun_.many + 1)).flatMap fun k => [_, _]).length ≤ 100
    rw [flat2, List.length_range]
    omega
end Cw
namespace Cw
open Dr01 (Fun has with_ without val things sets brings)
/-! ### changes -/
set_option synthInstance.maxHeartbeats 400000
set_option synthInstance.maxSize 4000
def swap (s i j : Nat) : Nat := with_ (without s i) j
theorem swap_lt : ∀ (n : Nat), n < 6 → ∀ (s : Nat), s < 2 ^ n → ∀ (i : Nat), i < n + 1 → ∀ (j : Nat), j < n + 1 → 1 ≤ j → swap s i j < 2 ^ n := by decide +kernel
theorem swap_sub : ∀ (s : Nat), s < 32 → ∀ (i : Nat), i < 6 → ∀ (j : Nat), j < 6 → (1 ≤ i ∧ 1 ≤ j) ∧ (has s i = true ∧ has s j = false) → s - 2 ^ (i - 1) + 2 ^ (j - 1) = swap s i j := by decide +kernel
theorem swap_sub_or : ∀ (s : Nat), s < 32 → ∀ (i : Nat), i < 6 → ∀ (j : Nat), j < 6 → (1 ≤ i ∧ 1 ≤ j) ∧ (has s i = true ∧ has s j = false) → (s - 2 ^ (i - 1)) ||| 2 ^ (j - 1) = swap s i j := by decide +kernel
theorem swap_xor : ∀ (s : Nat), s < 32 → ∀ (i : Nat), i < 6 → ∀ (j : Nat), j < 6 → (1 ≤ i ∧ 1 ≤ j) ∧ (has s i = true ∧ has s j = false) → s ^^^ 2 ^ (i - 1) ^^^ 2 ^ (j - 1) = swap s i j := by decide +kernel
theorem swap_xor_or : ∀ (s : Nat), s < 32 → ∀ (i : Nat), i < 6 → ∀ (j : Nat), j < 6 → (1 ≤ i ∧ 1 ≤ j) ∧ (has s i = true ∧ has s j = false) → (s ^^^ 2 ^ (i - 1)) ||| 2 ^ (j - 1) = swap s i j := by decide +kernel
def good (f : Fun) (s i j : Nat) : Bool := decide (val f s < val f (swap s i j))
theorem better_is (f : Fun) (s : Nat) : Dr04.better f s = (ins f.many s).findSome? fun i => ((out f.many s).find? (good f s i)).map fun j => (i, j) := by
  show (((ins f.many s).flatMap fun i => (out f.many s).map fun j => (i, j)).find? fun p => good f s p.1 p.2) = _
  rw [List.find?_flatMap]
  congr 1
  funext i
  rw [List.find?_map]
  rfl
theorem better_none {f : Fun} {s : Nat} (h : ∀ i ∈ ins f.many s, ∀ j ∈ out f.many s, good f s i j = false) : Dr04.better f s = none := by
  rw [better_is, List.findSome?_eq_none_iff]
  intro i hi
  rw [Option.map_eq_none_iff, List.find?_eq_none]
  intro j hj
  rw [h i hi j hj]
  exact Bool.false_ne_true
theorem better_none' {f : Fun} {s : Nat} (h : Dr04.better f s = none) : ∀ i ∈ ins f.many s, ∀ j ∈ out f.many s, good f s i j = false := by
  rw [better_is, List.findSome?_eq_none_iff] at h
  intro i hi j hj
  have := h i hi
  rw [Option.map_eq_none_iff, List.find?_eq_none] at this
  exact Bool.eq_false_iff.mpr (this j hj)
/-- the first of the lowest that goes, by place -/
theorem better_at {f : Fun} {s i j a b : Nat} (hi : (ins f.many s)[a]? = some i) (hj : (out f.many s)[b]? = some j) (g : good f s i j = true)
    (h1 : ∀ x ∈ (ins f.many s).take a, ∀ y ∈ out f.many s, good f s x y = false) (h2 : ∀ y ∈ (out f.many s).take b, good f s i y = false) : Dr04.better f s = some (i, j) := by
  rw [better_is]
  have split : ∀ {l : List Nat} {k x : Nat}, l[k]? = some x → l = l.take k ++ x :: l.drop (k + 1) := fun {l k x} h => by
    obtain ⟨hk, e⟩ := List.getElem?_eq_some_iff.mp h
    rw [← e, ← List.drop_eq_getElem_cons hk, List.take_append_drop]
  rw [split hi, List.findSome?_append]
  have n1 : ((ins f.many s).take a).findSome? (fun i => ((out f.many s).find? (good f s i)).map fun j => (i, j)) = none := by
    rw [List.findSome?_eq_none_iff]
    intro x hx
    rw [Option.map_eq_none_iff, List.find?_eq_none]
    intro y hy
    rw [h1 x hx y hy]
    exact Bool.false_ne_true
  have n2 : (out f.many s).find? (good f s i) = some j := by
    rw [split hj, List.find?_append]
    have : ((out f.many s).take b).find? (good f s i) = none := by
      rw [List.find?_eq_none]
      intro y hy
      rw [h2 y hy]
      exact Bool.false_ne_true
    rw [this, List.find?_cons_of_pos g]
    rfl
  rw [n1, List.findSome?_cons, n2]
  rfl
theorem better_some {f : Fun} {s i j : Nat} (h : Dr04.better f s = some (i, j)) : i ∈ ins f.many s ∧ j ∈ out f.many s ∧ good f s i j = true := by
  rw [better_is] at h
  obtain ⟨x, hx, e⟩ := List.exists_of_findSome?_eq_some h
  cases e2 : (out f.many s).find? (good f s x) with
  | none => rw [e2] at e; cases e
  | some y =>
    rw [e2] at e
    cases e
    exact ⟨hx, List.mem_of_find?_eq_some e2, List.find?_some e2⟩
/-- how many sets are better -/
def rank (f : Fun) (s : Nat) : Nat := ((List.range (2 ^ f.many)).filter fun t => decide (val f s < val f t)).length
theorem filt_le {p q : Nat → Bool} (h : ∀ x, p x = true → q x = true) : ∀ l : List Nat, (l.filter p).length ≤ (l.filter q).length
  | [] => Nat.le_refl _
  | x :: l => by
    have ih := filt_le h l
    cases hp : p x with
    | true => rw [List.filter_cons_of_pos hp, List.filter_cons_of_pos (h x hp)]; exact Nat.succ_le_succ ih
    | false =>
      rw [List.filter_cons_of_neg (by rw [hp]; decide)]
      cases hq : q x with
      | true => rw [List.filter_cons_of_pos hq]; exact Nat.le_succ_of_le ih
      | false => rw [List.filter_cons_of_neg (by rw [hq]; decide)]; exact ih
theorem filt_lt {p q : Nat → Bool} (h : ∀ x, p x = true → q x = true) {y : Nat} (hq : q y = true) (hp : p y = false) : ∀ l : List Nat, y ∈ l → (l.filter p).length < (l.filter q).length
  | [], m => nomatch m
  | x :: l, m => by
    by_cases e : x = y
    · subst e
      rw [List.filter_cons_of_neg (by rw [hp]; decide), List.filter_cons_of_pos hq]
      exact Nat.lt_succ_of_le (filt_le h l)
    · have m' : y ∈ l := by
        rw [List.mem_cons] at m
        rcases m with z | z
        · exact absurd z.symm e
        · exact z
      have ih := filt_lt h hq hp l m'
      cases hpx : p x with
      | true => rw [List.filter_cons_of_pos hpx, List.filter_cons_of_pos (h x hpx)]; exact Nat.succ_lt_succ ih
      | false =>
        rw [List.filter_cons_of_neg (by rw [hpx]; decide)]
        cases hqx : q x with
        | true => rw [List.filter_cons_of_pos hqx]; exact Nat.lt_succ_of_lt ih
        | false => rw [List.filter_cons_of_neg (by rw [hqx]; decide)]; exact ih
theorem rank_lt {f : Fun} {s t : Nat} (ht : t < 2 ^ f.many) (h : val f s < val f t) : rank f t < rank f s := by
  unfold rank
  refine filt_lt (y := t) (fun x hx => ?_) (decide_eq_true h) (decide_eq_false (Int.lt_irrefl _)) _ (List.mem_range.mpr ht)
  have := of_decide_eq_true hx
  exact decide_eq_true (Int.lt_trans h this)
theorem rank_le (f : Fun) (s : Nat) : rank f s ≤ 2 ^ f.many := by
  unfold rank
  exact Nat.le_trans (List.length_filter_le _ _) (by rw [List.length_range]; exact Nat.le_refl _)
theorem rank_swap {f : Fun} (w : Wf f) {s i j : Nat} (hs : s < 2 ^ f.many) (h : Dr04.better f s = some (i, j)) : swap s i j < 2 ^ f.many ∧ rank f (swap s i j) < rank f s := by
  have b := better_some h
  have hi := mem_ins.mp b.1
  have hj := mem_out.mp b.2.1
  have h5 := w.hi
  have lt := swap_lt f.many (by omega) s hs i (by omega) j (by omega) hj.1.1
  exact ⟨lt, rank_lt lt (of_decide_eq_true b.2.2)⟩
theorem settle_stop {f : Fun} {s : Nat} (h : Dr04.better f s = none) : ∀ k, Dr04.settle f k s = []
  | 0 => rfl
  | k + 1 => by
    show (match Dr04.better f s with | none => [] | some p => p :: Dr04.settle f k (with_ (without s p.1) p.2)) = []
    rw [h]
theorem settle_go {f : Fun} {s i j k : Nat} (h : Dr04.better f s = some (i, j)) (hk : 0 < k) : Dr04.settle f k s = (i, j) :: Dr04.settle f (k - 1) (swap s i j) := by
  obtain ⟨m, rfl⟩ : ∃ m, k = m + 1 := ⟨k - 1, by omega⟩
  show (match Dr04.better f s with | none => [] | some p => p :: Dr04.settle f m (with_ (without s p.1) p.2)) = _
  rw [h]
  rfl
/-! ### the best, told without an order of search -/
def IsBest (f : Fun) (l : List Nat) (m : Nat) : Prop := m ∈ l ∧ ∀ s ∈ l, val f s < val f m ∨ (val f s = val f m ∧ m ≤ s)
theorem IsBest.one {f : Fun} {l : List Nat} {m m' : Nat} (h : IsBest f l m) (h' : IsBest f l m') : m = m' := by
  have a := h.2 m' h'.1
  have b := h'.2 m h.1
  omega
theorem IsBest.perm {f : Fun} {l l' : List Nat} {m : Nat} (h : IsBest f l m) (e : ∀ x, x ∈ l ↔ x ∈ l') : IsBest f l' m := ⟨(e m).mp h.1, fun s hs => h.2 s ((e s).mpr hs)⟩
/-- by the first of the greatest, over sets that rise -/
theorem best_rise {f : Fun} : ∀ (l : List Nat) (b : Nat) (pre : List Nat), IsBest f pre b → (∀ x ∈ pre, ∀ y ∈ l, x ≤ y) → l.Pairwise (· ≤ ·) → IsBest f (pre ++ l) (l.foldl (better2 f) b)
  | [], b, pre, h, _, _ => by rw [List.append_nil]; exact h
  | s :: l, b, pre, h, hle, hp => by
    rw [List.pairwise_cons] at hp
    have key : IsBest f (pre ++ [s]) (better2 f b s) := by
      unfold better2
      by_cases c : val f b < val f s
      · rw [if_pos c]
        refine ⟨by simp, fun x hx => ?_⟩
        rw [List.mem_append] at hx
        rcases hx with hx | hx
        · have := h.2 x hx
          left
          omega
        · have : x = s := by simpa using hx
          subst this
          exact .inr ⟨rfl, Nat.le_refl _⟩
      · rw [if_neg c]
        refine ⟨List.mem_append_left _ h.1, fun x hx => ?_⟩
        rw [List.mem_append] at hx
        rcases hx with hx | hx
        · exact h.2 x hx
        · have : x = s := by simpa using hx
          subst this
          have := hle b h.1 x (List.mem_cons_self ..)
          omega
    have ih := best_rise l (better2 f b s) (pre ++ [s]) key (fun x hx y hy => by
      rw [List.mem_append] at hx
      rcases hx with hx | hx
      · exact hle x hx y (List.mem_cons_of_mem _ hy)
      · have : x = s := by simpa using hx
        subst this
        exact hp.1 y hy) hp.2
    rw [List.append_assoc] at ih
    exact ih
theorem best_head {f : Fun} {x : Nat} {r : List Nat} (hp : (x :: r).Pairwise (· ≤ ·)) : IsBest f (x :: r) ((x :: r).foldl (better2 f) x) := by
  have e : better2 f x x = x := by unfold better2; split <;> rfl
  rw [List.foldl_cons, e]
  rw [List.pairwise_cons] at hp
  exact best_rise r x [x] ⟨by simp, fun s hs => by have : s = x := by simpa using hs
                                                   subst this; exact .inr ⟨rfl, Nat.le_refl _⟩⟩ (fun a ha y hy => by have : a = x := by simpa using ha
                                                                                                                     subst this; exact hp.1 y hy) hp.2
/-- the specification's own search over what greed makes -/
def tie (f : Fun) (m s : Nat) : Nat := if val f m < val f s ∨ (val f m = val f s ∧ s < m) then s else m
theorem best_tie {f : Fun} : ∀ (l : List Nat) (b : Nat) (pre : List Nat), IsBest f pre b → IsBest f (pre ++ l) (l.foldl (tie f) b)
  | [], b, pre, h => by rw [List.append_nil]; exact h
  | s :: l, b, pre, h => by
    have key : IsBest f (pre ++ [s]) (tie f b s) := by
      unfold tie
      by_cases c : val f b < val f s ∨ (val f b = val f s ∧ s < b)
      · rw [if_pos c]
        refine ⟨by simp, fun x hx => ?_⟩
        rw [List.mem_append] at hx
        rcases hx with hx | hx
        · have := h.2 x hx
          omega
        · have : x = s := by simpa using hx
          subst this
          exact .inr ⟨rfl, Nat.le_refl _⟩
      · rw [if_neg c]
        refine ⟨List.mem_append_left _ h.1, fun x hx => ?_⟩
        rw [List.mem_append] at hx
        rcases hx with hx | hx
        · exact h.2 x hx
        · have : x = s := by simpa using hx
          subst this
          omega
    have ih := best_tie l (tie f b s) (pre ++ [s]) key
    rw [List.append_assoc] at ih
    exact ih
/-! ### prices -/
def costs (p : List Nat) (l : List Nat) : Nat := (l.map fun i => p.getD (i - 1) 0).sum
theorem price_is (p : List Nat) (f : Fun) (s : Nat) : Dr04.price p f s = costs p (ins f.many s) := by
  unfold Dr04.price costs ins
  show ((((List.range f.many).map fun i => i + 1)).map fun i => if has s i = true then p.getD (i - 1) 0 else 0).foldr (fun a n => a + n) 0 = _
  generalize ((List.range f.many).map fun i => i + 1) = l
  induction l with
  | nil => rfl
  | cons x l ih =>
    rw [List.map_cons, List.foldr_cons, ih]
    cases h : has s x with
    | true => rw [if_pos rfl, List.filter_cons_of_pos h, List.map_cons, List.sum_cons]
    | false => rw [if_neg (by decide), List.filter_cons_of_neg (by rw [h]; decide), Nat.zero_add]
theorem price_zero (p : List Nat) (f : Fun) : Dr04.price p f 0 = 0 := by
  rw [price_is, ins_zero]; rfl
theorem price_with {p : List Nat} {f : Fun} (w : Wf f) {s t : Nat} (hs : s < 2 ^ f.many) (ht : 1 ≤ t ∧ t ≤ f.many) (h : has s t = false) : Dr04.price p f (with_ s t) = Dr04.price p f s + p.getD (t - 1) 0 := by
  have h5 := w.hi
  have hs32 := lt32 h5 hs
  have gen : ∀ l : List Nat, l.Nodup → (∀ x ∈ l, 1 ≤ x ∧ x ≤ 5) → (l.map fun i => if has (with_ s t) i = true then p.getD (i - 1) 0 else 0).foldr (fun a n => a + n) 0 =
      (l.map fun i => if has s i = true then p.getD (i - 1) 0 else 0).foldr (fun a n => a + n) 0 + (if t ∈ l then p.getD (t - 1) 0 else 0) := by
    intro l
    induction l with
    | nil => intro _ _; rfl
    | cons x l ih =>
      intro nd hx
      rw [List.nodup_cons] at nd
      have i := ih nd.2 fun y m => hx y (List.mem_cons_of_mem _ m)
      have hxx := hx x (List.mem_cons_self ..)
      rw [List.map_cons, List.foldr_cons, List.map_cons, List.foldr_cons, i, has_with s hs32 t (by omega) ht.1 x (by omega) hxx.1]
      by_cases e : t = x
      · subst e
        rw [if_neg nd.1, if_pos (List.mem_cons_self ..), h, decide_eq_true rfl, Bool.false_or, if_pos rfl, if_neg (by decide)]
        omega
      · rw [decide_eq_false e, Bool.or_false]
        by_cases m : t ∈ l
        · rw [if_pos m, if_pos (List.mem_cons_of_mem _ m)]
          omega
        · rw [if_neg m, if_neg (show ¬ t ∈ x :: l from fun z => (List.mem_cons.mp z).elim e m)]
          omega
  have := gen (things f) (by
    unfold Dr01.things List.Nodup
    rw [List.pairwise_map]
    exact List.nodup_range.imp fun h e => h (by omega)) (fun x m => by
    have := (mem_things (n := f.many)).mp m
    omega)
  have mt : t ∈ things f := mem_things.mpr ht
  rw [if_pos mt] at this
  exact this
/-- things that can still be paid -/
def aff (f : Fun) (p : List Nat) (b s : Nat) : List Nat := (out f.many s).filter fun i => decide (Dr04.price p f (with_ s i) ≤ b)
theorem aff_is (f : Fun) (p : List Nat) (b s : Nat) : ((things f).filter fun i => !has s i && decide (Dr04.price p f (with_ s i) ≤ b)) = aff f p b s := by
  unfold aff out
  rw [List.filter_filter]
  congr 1
  funext i
  exact Bool.and_comm _ _
theorem mem_aff {f : Fun} {p : List Nat} {b s t : Nat} : t ∈ aff f p b s ↔ t ∈ out f.many s ∧ Dr04.price p f (with_ s t) ≤ b := by
  unfold aff
  rw [List.mem_filter, decide_eq_true_eq]
def moreFor (f : Fun) (p : List Nat) (s j i : Nat) : Nat := if brings f s j * (p.getD (i - 1) 1 : Int) < brings f s i * (p.getD (j - 1) 1 : Int) then i else j
theorem nextFor_fold (f : Fun) (p : List Nat) (s : Nat) : ∀ (l : List Nat) (j : Nat), l.foldl (fun (o : Option Nat) i => match o with
  | none => some i
  | some j => if brings f s j * (p.getD (i - 1) 1 : Int) < brings f s i * (p.getD (j - 1) 1 : Int) then some i else some j) (some j) = some (l.foldl (moreFor f p s) j)
  | [], j => rfl
  | i :: r, j => by
    rw [List.foldl_cons, List.foldl_cons]
    show List.foldl _ (if brings f s j * (p.getD (i - 1) 1 : Int) < brings f s i * (p.getD (j - 1) 1 : Int) then some i else some j) r = _
    have : (if brings f s j * (p.getD (i - 1) 1 : Int) < brings f s i * (p.getD (j - 1) 1 : Int) then some i else some j) = some (moreFor f p s j i) := by
      unfold moreFor
      split <;> rfl
    rw [this]
    exact nextFor_fold f p s r _
theorem nextFor_none {f : Fun} {p : List Nat} {b s : Nat} (h : aff f p b s = []) : Dr04.nextFor f p b s = none := by
  unfold Dr04.nextFor
  rw [aff_is, h]; rfl
theorem nextFor_cons {f : Fun} {p : List Nat} {b s a : Nat} {r : List Nat} (h : aff f p b s = a :: r) : Dr04.nextFor f p b s = some ((a :: r).foldl (moreFor f p s) a) := by
  unfold Dr04.nextFor
  rw [aff_is, h, List.foldl_cons, List.foldl_cons]
  refine (nextFor_fold f p s r a).trans ?_
  have : moreFor f p s a a = a := by unfold moreFor; split <;> rfl
  rw [this]
theorem moreFor_mem {f : Fun} {p : List Nat} {s : Nat} {L : List Nat} : ∀ (l : List Nat) (j : Nat), j ∈ L → (∀ x ∈ l, x ∈ L) → l.foldl (moreFor f p s) j ∈ L
  | [], j, h, _ => h
  | i :: r, j, h, k => by
    rw [List.foldl_cons]
    refine moreFor_mem r _ ?_ fun x m => k x (List.mem_cons_of_mem _ m)
    unfold moreFor
    split
    · exact k i (List.mem_cons_self ..)
    · exact h
theorem nextFor_mem {f : Fun} {p : List Nat} {b s i : Nat} (h : Dr04.nextFor f p b s = some i) : i ∈ aff f p b s := by
  cases e : aff f p b s with
  | nil => rw [nextFor_none e] at h; cases h
  | cons a r =>
    rw [nextFor_cons e] at h
    cases h
    exact moreFor_mem _ _ (List.mem_cons_self ..) fun x m => m
theorem greedFor_stop {f : Fun} {p : List Nat} {b s : Nat} (h : Dr04.nextFor f p b s = none) : ∀ k, Dr04.greedFor f p b k s = s
  | 0 => rfl
  | k + 1 => by
    show (match Dr04.nextFor f p b s with | none => s | some i => Dr04.greedFor f p b k (with_ s i)) = s
    rw [h]
theorem greedFor_go {f : Fun} {p : List Nat} {b s i k : Nat} (h : Dr04.nextFor f p b s = some i) (hk : 0 < k) : Dr04.greedFor f p b k s = Dr04.greedFor f p b (k - 1) (with_ s i) := by
  obtain ⟨m, rfl⟩ : ∃ m, k = m + 1 := ⟨k - 1, by omega⟩
  show (match Dr04.nextFor f p b s with | none => s | some i => Dr04.greedFor f p b m (with_ s i)) = _
  rw [h]
  rfl
theorem nextFor_step {f : Fun} (w : Wf f) {p : List Nat} {b s i : Nat} (hs : s < 2 ^ f.many) (h : Dr04.nextFor f p b s = some i) : (1 ≤ i ∧ i ≤ f.many) ∧ has s i = false ∧ with_ s i < 2 ^ f.many ∧ (out f.many (with_ s i)).length + 1 = (out f.many s).length := by
  have m := mem_out.mp (mem_aff.mp (nextFor_mem h)).1
  have h5 := w.hi
  exact ⟨m.1, m.2, with_lt f.many (by omega) s hs i (by omega) m.1.1, out_with f.many (by omega) s hs i (by omega) m.1.1 m.2⟩
theorem greedFor_lt {f : Fun} (w : Wf f) {p : List Nat} {b : Nat} : ∀ (k s : Nat), s < 2 ^ f.many → Dr04.greedFor f p b k s < 2 ^ f.many
  | 0, s, hs => hs
  | k + 1, s, hs => by
    cases h : Dr04.nextFor f p b s with
    | none => rw [greedFor_stop h]; exact hs
    | some i =>
      rw [greedFor_go h (Nat.succ_pos k)]
      exact greedFor_lt w k _ (nextFor_step w hs h).2.2.1
/-- as many turns as things are out are enough -/
theorem greedFor_cut {f : Fun} (w : Wf f) {p : List Nat} {b : Nat} : ∀ (k s : Nat), s < 2 ^ f.many → (out f.many s).length ≤ k → Dr04.greedFor f p b k s = Dr04.greedFor f p b (out f.many s).length s
  | 0, s, hs, h => by rw [Nat.le_zero.mp h]
  | k + 1, s, hs, hk => by
    cases h : Dr04.nextFor f p b s with
    | none => rw [greedFor_stop h, greedFor_stop h]
    | some i =>
      have st := nextFor_step w hs h
      rw [greedFor_go h (Nat.succ_pos k), greedFor_go h (by omega)]
      rw [greedFor_cut w (k + 1 - 1) _ st.2.2.1 (by omega)]
      have : (out f.many s).length - 1 = (out f.many (with_ s i)).length := by omega
      rw [this]
def starts (f : Fun) (p : List Nat) (b : Nat) : List Nat := (List.range (2 ^ f.many)).filter fun s => decide ((ins f.many s).length ≤ 3) && decide (Dr04.price p f s ≤ b)
theorem starts_head (f : Fun) (p : List Nat) (b : Nat) : ∃ r, starts f p b = 0 :: r := by
  obtain ⟨r, e⟩ := range_pow f.many
  unfold starts
  rw [e, List.filter_cons, if_pos (by rw [ins_zero, price_zero]; simp)]
  exact ⟨_, rfl⟩
theorem three_is (f : Fun) (p : List Nat) (b : Nat) : IsBest f ((starts f p b).map (Dr04.greedFor f p b f.many)) (Dr04.threeFor f p b) := by
  obtain ⟨r, e⟩ := starts_head f p b
  have : Dr04.threeFor f p b = (match (starts f p b).map (Dr04.greedFor f p b f.many) with
    | [] => 0
    | x :: l => l.foldl (tie f) x) := rfl
  rw [this, e, List.map_cons]
  have := best_tie (f := f) (r.map (Dr04.greedFor f p b f.many)) (Dr04.greedFor f p b f.many 0) [Dr04.greedFor f p b f.many 0] ⟨by simp, fun s hs => by
    have : s = Dr04.greedFor f p b f.many 0 := by simpa using hs
    subst this; exact .inr ⟨rfl, Nat.le_refl _⟩⟩
  exact this
def payable (f : Fun) (p : List Nat) (b : Nat) : List Nat := (List.range (2 ^ f.many)).filter fun s => decide (Dr04.price p f s ≤ b)
theorem payable_head (f : Fun) (p : List Nat) (b : Nat) : ∃ r, payable f p b = 0 :: r := by
  obtain ⟨r, e⟩ := range_pow f.many
  unfold payable
  rw [e, List.filter_cons, if_pos (by rw [price_zero]; simp)]
  exact ⟨_, rfl⟩
theorem bestFor_is (f : Fun) (p : List Nat) (b : Nat) : Dr04.bestFor f p b = (payable f p b).foldl (better2 f) 0 := rfl
theorem mem_payable {f : Fun} {p : List Nat} {b s : Nat} (h : s ∈ payable f p b) : s < 2 ^ f.many := List.mem_range.mp (List.mem_filter.mp h).1
theorem bestFor_lt (f : Fun) (p : List Nat) (b : Nat) : Dr04.bestFor f p b < 2 ^ f.many := by
  rw [bestFor_is]
  exact fold_lt _ _ (Nat.two_pow_pos _) fun s m => mem_payable m
theorem three_lt {f : Fun} (w : Wf f) (p : List Nat) (b : Nat) : Dr04.threeFor f p b < 2 ^ f.many := by
  have h := (three_is f p b).1
  rw [List.mem_map] at h
  obtain ⟨s, hs, e⟩ := h
  rw [← e]
  exact greedFor_lt w _ _ (List.mem_range.mp (List.mem_filter.mp hs).1)
end Cw
set_option Elab.async false
set_option maxRecDepth 100000
set_option maxHeartbeats 2000000
set_option linter.all false
namespace Cw
open PySem PySem.Spec PyProof.Rows L2
open Dr01 (has with_ without val brings)
open C8 (Cal Met Mak cal0 met0 mak0 pe_c pe_mt pe_mt0 pe_gc fnScope_by scC)
/-- the i-th statement of the program's text -/
def top (i : Nat) : Stmt := PySem.Challenge.pw_chosenwell_s01_answers.main.body.getD i (.Pass ⟨0, 0, 0, 0⟩)
def IsC (mg : Str → Option Value) (x : Str) (v : V) : Prop := ∃ u, mg x = some u ∧ RelV v u
/-- whole numbers 0 or more, as the program holds them -/
abbrev nV (n : Nat) : V := .int (n : Int)
/-- hands back v, the heap grown at most -/
def Gives (H : Hp) (Q : VK) (v : V) : Prop := ∀ H', Same H H' → Q v H'
/-- hands back a new list of xs, the heap grown at most -/
def GivesL (H : Hp) (Q : VK) (xs : List V) : Prop := ∀ H' p, Same H H' → H p = none → H' p = some (.lst xs) → Q (.ref p) H'

/-! ### bits as ints -/
theorem bAnd (x y : Nat) : Builtin.bitAnd (x : Int) (y : Int) = ((x &&& y : Nat) : Int) := rfl
theorem bOr (x y : Nat) : Builtin.bitOr (x : Int) (y : Int) = ((x ||| y : Nat) : Int) := by
  unfold Builtin.bitOr Builtin.bitAnd Builtin.bitNot
  have h1 : decide ((0 : Int) ≤ -(x : Int) - 1) = false := decide_eq_false (by omega)
  have h2 : decide ((0 : Int) ≤ -(y : Int) - 1) = false := decide_eq_false (by omega)
  rw [h1, h2]
  have e1 : (-(-(x : Int) - 1) - 1).toNat = x := by omega
  have e2 : (-(-(y : Int) - 1) - 1).toNat = y := by omega
  rw [e1, e2]
  show -(-((x ||| y : Nat) : Int) - 1) - 1 = _
  omega
/-! ### comprehensions: what is walked leaves the heap as it is; p: the test, v: the item -/
theorem same_upd {H1 H : Hp} {D : Addr} {o : HO} (hD : H1 D = none) (s : Same H1 H) : Same H1 (upd H D o) := fun b u e => by
  rw [upd_ne (ne_of_none e hD)]
  exact s b u e
theorem filt_yes {α : Type} {p : Nat → Bool} {v : Nat → α} {i : Nat} (h : p i = true) : ((List.range (i + 1)).filter p).map v = ((List.range i).filter p).map v ++ [v i] := by
  rw [List.range_succ, List.filter_append, List.map_append]
  simp [h]
theorem filt_no {α : Type} {p : Nat → Bool} {v : Nat → α} {i : Nat} (h : p i = false) : ((List.range (i + 1)).filter p).map v = ((List.range i).filter p).map v := by
  rw [List.range_succ, List.filter_append, List.map_append]
  simp [h]
theorem lc_w {J : It} {n : Nat} {G : Hp → Prop} {Y : Nat → Hp → V → Hp → Prop} (wk : Walk J n G Y) {g : TG} {tt : TT} {te : TE} {vs : List Nat} {σ : L2.St} {H1 : Hp} {D : Addr} {Qd : Hp → Prop}
    (p : Nat → Bool) (v : Nat → V) (hn : n < sizeLine) (hD : H1 D = none) (hG : ∀ H, Same H1 H → G H)
    (hs : ∀ i x H H', i < n → Same H1 H → Y i H x H' → ∀ acc, H D = some (.lst acc) → ∀ Nx : Hp → Prop,
      (p i = false → ∀ H5, Same H H5 → Nx H5) →
      (p i = true → ∀ H5, Same H H5 → ∃ acc, H5 D = some (.lst acc) ∧ acc.length < sizeLine ∧ Nx (upd H5 D (.lst (acc ++ [v i])))) →
      g x (wipe σ vs) H' fun σ2 H2 => wipe σ2 vs = wipe σ vs ∧ tt σ2 H2 fun b H3 =>
        if b = true then te σ2 H3 fun y H4 => ∃ acc, H4 D = some (.lst acc) ∧ acc.length < sizeLine ∧ Nx (upd H4 D (.lst (acc ++ [y]))) else Nx H3)
    (hd : ∀ H, Same H1 H → H D = some (.lst (((List.range n).filter p).map v)) → Qd H) :
    ∃ W : Nat → Nat → Hp → Prop, (∃ m, W 0 m (upd H1 D (.lst []))) ∧ ∀ i m H, W i m H →
      (J.stop i H ∧ Qd H) ∨ (J.go i H ∧ ∃ Nx : Hp → Prop, (∀ H', Nx H' → ∃ m', m' < m ∧ W (i + 1) m' H') ∧ ∀ x H', J.yld i H x H' → g x (wipe σ vs) H' fun σ2 H2 => wipe σ2 vs = wipe σ vs ∧ tt σ2 H2 fun b H3 =>
        if b = true then te σ2 H3 fun y H4 => ∃ acc, H4 D = some (.lst acc) ∧ acc.length < sizeLine ∧ Nx (upd H4 D (.lst (acc ++ [y]))) else Nx H3) := by
  refine lc_it wk (fun i H => i ≤ n ∧ Same H1 H ∧ H D = some (.lst (((List.range i).filter p).map v))) ⟨Nat.zero_le _, same_upd hD (Same.refl _), upd_same⟩ (fun i H _ h => hG H h.2.1) (fun i x H H' hi h y => ?_) (fun H h => hd H h.2.1 h.2.2)
  obtain ⟨_, hS, hA⟩ := h
  refine hs i x H H' hi hS y _ hA _ (fun e H5 s5 => ⟨hi, hS.trans s5, ?_⟩) (fun e H5 s5 => ⟨_, s5 _ _ hA, ?_, hi, same_upd hD (hS.trans s5), ?_⟩)
  · rw [filt_no e]; exact s5 _ _ hA
  · rw [List.length_map]
    exact Nat.lt_of_le_of_lt (Nat.le_trans (List.length_filter_le _ _) (by rw [List.length_range]; omega)) hn
  · rw [filt_yes e]; exact upd_same
section
variable {P : Program} {w : World} {K : PySem.W.Frag} {mg : Str → Option Value} {base : Heap}
/-! ### only -/
abbrev sOnly : Stmt := top 24
def spOnly : Sp := fun vs H Q _ => ∃ t : Nat, vs = [nV t] ∧ 1 ≤ t ∧ t ≤ 5 ∧ Q (nV (2 ^ (t - 1))) H
theorem ok_only {f : Addr} {fd : FuncData} (D : C8.Def K mg "only" sOnly f fd) (b : Binds K fd ["thing"] []) : Cal P w K mg base 1 "only" spOnly [] := by
  refine cal0 D b .nil (N := ["thing"]) (fnScope_by (by decide +kernel)) (fun vs H Q E h => ?_) (fun cdv A outer s H vs Q E hr h => ?_)
  · obtain ⟨t, rfl, _⟩ := h; rfl
  · obtain ⟨t, rfl, h1, h5, q⟩ := h
    refine ⟨_, pss_one (ps_ret (pe_op op_shl pe_int (pe_op op_sub (pv 0) pe_int))), ?_⟩
    refine ⟨_, rfl, _, _, rfl, rfl, _, _, rfl, rfl, ⟨by omega, by omega, by decide⟩, ?_⟩
    have e : (1 : Int) * 2 ^ (((t : Int) - 1).toNat) = ((2 ^ (t - 1) : Nat) : Int) := by
      have : ((t : Int) - 1).toNat = t - 1 := by omega
      rw [this, Int.one_mul, Int.natCast_pow]; rfl
    show Q (.int ((1 : Int) * 2 ^ (((t : Int) - 1).toNat))) H
    rw [e]
    exact q
/-! ### things_outside, things_within -/
structure Gs (mg : Str → Option Value) : Prop where
  rng : mg "range" = none
  len : mg "len" = none
  max : mg "max" = none
  min : mg "min" = none
  sum : mg "sum" = none
  srt : mg "sorted" = none
  all : mg "all" = none
theorem out_rng (n s : Nat) : (out n s).map nV = ((List.range n).filter fun i => !has s (i + 1)).map fun i => nV (i + 1) := by
  unfold out
  rw [List.filter_map, List.map_map]
  rfl
theorem ins_rng (n s : Nat) : (ins n s).map nV = ((List.range n).filter fun i => has s (i + 1)).map fun i => nV (i + 1) := by
  unfold ins
  rw [List.filter_map, List.map_map]
  rfl
abbrev sWithin : Stmt := top 25
abbrev sOutside : Stmt := top 26
def spOutside : Sp := fun vs H Q _ => ∃ n s : Nat, vs = [nV n, nV s] ∧ n ≤ 5 ∧ s < 32 ∧ GivesL H Q ((out n s).map nV)
def spWithin : Sp := fun vs H Q _ => ∃ n s : Nat, vs = [nV n, nV s] ∧ n ≤ 5 ∧ s < 32 ∧ GivesL H Q ((ins n s).map nV)
theorem bit_eq {s i : Nat} (hs : s < 32) (hi : i < 5) : (decide (V.int (Builtin.bitAnd (s : Int) ((2 ^ (i + 1 - 1) : Nat) : Int)) = V.int 0)) = !has s (i + 1) := by
  rw [← and_pow_zero s hs (i + 1) (by omega), bAnd]
  congr 1
  rw [eq_iff_iff]
  constructor
  · intro h
    injection h with h
    exact_mod_cast h
  · intro h
    rw [h]; rfl
theorem ok_outside {f : Addr} {fd : FuncData} (g : Gs mg) (cOnly : Cal P w K mg base 1 "only" spOnly []) (D : C8.Def K mg "things_outside" sOutside f fd) (b : Binds K fd ["n", "s"] []) : Cal P w K mg base 2 "things_outside" spOutside [] := by
  have sc : FnScope ["n", "s", "thing"] ["n", "s"] (C8.fnScope sOutside) := fnScope_by (by decide +kernel)
  refine cal0 D b .nil (N := ["n", "s", "thing"]) sc (fun vs H Q E h => ?_) (fun cdv A outer s0 H vs Q E hr h => ?_)
  · obtain ⟨n, s, rfl, _⟩ := h; rfl
  · obtain ⟨n, s, rfl, h5, hs, q⟩ := h
    refine ⟨_, pss_one (ps_ret (pe_lc (own := [("thing", 2)]) (g := gName 2) rfl sc.nd (pi_range2 (by rfl) g.rng (pa_cons pe_int (pa_cons (pe_op op_add (pv 0) pe_int) pa_nil)))
      (blkOk_by (N := ["n", "s", "thing"]) (sc := C8.fnScope sOutside) (by decide +kernel)) (fun _ _ _ _ _ => pg_name (i := 2) sc.nd rfl (Or.inl rfl))
      (fun _ _ _ _ _ => pts_one (pt_cmpR op_eq (pe_op op_and (pv 1) (pe_c cOnly hr (Nat.le_refl _) (by rfl) (pa_cons (pv 2) pa_nil))) pe_int (nomark _)))
      (fun _ _ _ _ _ => pv 2))), ?_⟩
    refine ⟨_, rfl, _, _, rfl, rfl, 1, (n : Int) + 1, rfl, ⟨by decide, by decide, by omega, by omega⟩, fun D hD => ?_⟩
    have en : ((n : Int) + 1 - 1).toNat = n := by omega
    rw [en]
    refine lc_w walk_range (fun i => !has s (i + 1)) (fun i => nV (i + 1)) (Nat.lt_of_le_of_lt h5 (by decide)) hD (fun _ _ => trivial) (fun i x H1 H2 hi hS y acc hA Nx hn hy => ?_) (fun H' hS hA => ?_)
    · obtain ⟨rfl, hx⟩ := y
      replace hx : x = nV (i + 1) := hx.trans (congrArg V.int (by omega : (1 : Int) + (i : Int) = ((i + 1 : Nat) : Int)))
      subst hx
      refine ⟨rfl, _, rfl, _, rfl, i + 1, rfl, by omega, by omega, _, _, rfl, rfl, rfl, _, rfl, ?_⟩
      rw [bit_eq hs (by omega)]
      cases hb : has s (i + 1) with
      | true => exact iteF (hn (by rw [hb]; rfl) _ (Same.refl _))
      | false => exact iteT ⟨_, rfl, hy (by rw [hb]; rfl) _ (Same.refl _)⟩
    · refine q H' D hS hD ?_
      rw [out_rng]
      exact hA
theorem ok_within {f : Addr} {fd : FuncData} (g : Gs mg) (cOnly : Cal P w K mg base 1 "only" spOnly []) (D : C8.Def K mg "things_within" sWithin f fd) (b : Binds K fd ["n", "s"] []) : Cal P w K mg base 2 "things_within" spWithin [] := by
  have sc : FnScope ["n", "s", "thing"] ["n", "s"] (C8.fnScope sWithin) := fnScope_by (by decide +kernel)
  refine cal0 D b .nil (N := ["n", "s", "thing"]) sc (fun vs H Q E h => ?_) (fun cdv A outer s0 H vs Q E hr h => ?_)
  · obtain ⟨n, s, rfl, _⟩ := h; rfl
  · obtain ⟨n, s, rfl, h5, hs, q⟩ := h
    refine ⟨_, pss_one (ps_ret (pe_lc (own := [("thing", 2)]) (g := gName 2) rfl sc.nd (pi_range2 (by rfl) g.rng (pa_cons pe_int (pa_cons (pe_op op_add (pv 0) pe_int) pa_nil)))
      (blkOk_by (N := ["n", "s", "thing"]) (sc := C8.fnScope sWithin) (by decide +kernel)) (fun _ _ _ _ _ => pg_name (i := 2) sc.nd rfl (Or.inl rfl))
      (fun _ _ _ _ _ => pts_one (pt_cmpR op_ne (pe_op op_and (pv 1) (pe_c cOnly hr (Nat.le_refl _) (by rfl) (pa_cons (pv 2) pa_nil))) pe_int (nomark _)))
      (fun _ _ _ _ _ => pv 2))), ?_⟩
    refine ⟨_, rfl, _, _, rfl, rfl, 1, (n : Int) + 1, rfl, ⟨by decide, by decide, by omega, by omega⟩, fun D hD => ?_⟩
    have en : ((n : Int) + 1 - 1).toNat = n := by omega
    rw [en]
    refine lc_w walk_range (fun i => has s (i + 1)) (fun i => nV (i + 1)) (Nat.lt_of_le_of_lt h5 (by decide)) hD (fun _ _ => trivial) (fun i x H1 H2 hi hS y acc hA Nx hn hy => ?_) (fun H' hS hA => ?_)
    · obtain ⟨rfl, hx⟩ := y
      replace hx : x = nV (i + 1) := hx.trans (congrArg V.int (by omega : (1 : Int) + (i : Int) = ((i + 1 : Nat) : Int)))
      subst hx
      refine ⟨rfl, _, rfl, _, rfl, i + 1, rfl, by omega, by omega, _, _, rfl, rfl, rfl, _, rfl, ?_⟩
      rw [bit_eq hs (by omega)]
      cases hb : has s (i + 1) with
      | false => exact iteF (hn hb _ (Same.refl _))
      | true => exact iteT ⟨_, rfl, hy hb _ (Same.refl _)⟩
    · refine q H' D hS hD ?_
      rw [ins_rng]
      exact hA
/-! ### what_it_brings -/
abbrev sWhat : Stmt := top 27
def spWhat (K : PySem.W.Frag) : Sp := fun vs H Q _ => ∃ (a : Addr) (f : Dr01.Fun) (s t : Nat), vs = [.ref a, nV s, nV t] ∧ SqL K H a (f.vals.map V.int) ∧ Wf f ∧ s < 2 ^ f.many ∧ (1 ≤ t ∧ t ≤ f.many) ∧ Q (.int (brings f s t)) H
theorem at_val {f : Dr01.Fun} (w : Wf f) {s : Nat} (h : s < 2 ^ f.many) : atI (f.vals.map V.int) (s : Int) = some (V.int (val f s)) := by
  refine atI_nat ?_
  rw [List.getElem?_map, val_get w h]
  rfl
theorem or_with {s t : Nat} (hs : s < 32) (ht : t ≤ 5) : Builtin.bitOr (s : Int) ((2 ^ (t - 1) : Nat) : Int) = ((with_ s t : Nat) : Int) := by
  rw [bOr, or_pow s hs t (by omega)]
theorem ok_what {f : Addr} {fd : FuncData} (cOnly : Cal P w K mg base 1 "only" spOnly []) (D : C8.Def K mg "what_it_brings" sWhat f fd) (b : Binds K fd ["worth", "s", "thing"] []) : Cal P w K mg base 2 "what_it_brings" (spWhat K) [] := by
  refine cal0 D b .nil (N := ["worth", "s", "thing"]) (fnScope_by (by decide +kernel)) (fun vs H Q E h => ?_) (fun cdv A outer s0 H vs Q E hr h => ?_)
  · obtain ⟨a, f, s, t, rfl, _⟩ := h; rfl
  · obtain ⟨a, f, s, t, rfl, hl, wf, hs, ht, q⟩ := h
    have h5 := wf.hi
    refine ⟨_, pss_one (ps_ret (pe_op op_sub (pe_ix ix_list (pv 0) (pe_op op_or (pv 1) (pe_c cOnly hr (Nat.le_refl _) (by rfl) (pa_cons (pv 2) pa_nil))) (fun _ _ => rfl)) (pe_ix ix_list (pv 0) (pv 1) (fun _ _ => rfl)))), ?_⟩
    refine ⟨_, rfl, _, rfl, _, rfl, t, rfl, ht.1, by omega, _, _, rfl, rfl, a, _, _, V.int (val f (with_ s t)), rfl, rfl, hl, ?_, ?_⟩
    · rw [or_with (lt32 h5 hs) (by omega)]
      exact at_val wf (with_lt f.many (by omega) s hs t (by omega) ht.1)
    · exact ⟨_, rfl, _, rfl, a, _, _, _, rfl, rfl, hl, at_val wf hs, _, _, rfl, rfl, q⟩
end
end Cw
set_option Elab.async false
set_option maxRecDepth 100000
set_option maxHeartbeats 2000000
set_option linter.all false
namespace Cw
open PySem PySem.Spec PyProof.Rows L2
open Dr01 (has with_ without val brings)
open C8 (Cal Met Mak cal0 met0 mak0 pe_c pe_mt pe_mt0 pe_gc fnScope_by scC)
/-- the written numbers of the text -/
structure Cs (K : PySem.W.Frag) (mg : Str → Option Value) : Prop where
  counts : ∃ a, IsC mg "SET_COUNTS" (.ref a) ∧ (∀ H, SqT K H a [.int 2, .int 4, .int 8, .int 16, .int 32]) ∧ ∃ o, K.lookup a = some o ∧ o.cls = .type "tuple" ∧ o.dict = none
  mostThings : IsC mg "MOST_THINGS" (.int 5)
  mostHanded : IsC mg "MOST_HANDED" (.int 20000)
  mostPoints : IsC mg "MOST_POINTS" (.int 20)
  mostWeight : IsC mg "MOST_WEIGHT" (.int 1000)
  wrongNumbers : IsC mg "WRONG_NUMBERS" (.int (-1))
  wrongFunction : IsC mg "WRONG_FUNCTION" (.int (-6))
  mostPrice : IsC mg "MOST_PRICE" (.int 1000)
  mostBegun : IsC mg "MOST_BEGUN" (.int 3)
  noBetter : IsC mg "NO_BETTER_CHANGE" (.int (-3))
theorem if_t {c : Bool} {A B : Prop} (hc : c = true) (h : A) : if c = true then A else B := by
  rw [if_pos hc]; exact h
theorem if_f {c : Bool} {A B : Prop} (hc : c = false) (h : B) : if c = true then A else B := by
  rw [if_neg (by rw [hc]; exact Bool.false_ne_true)]; exact h
section
variable {P : Program} {w : World} {K : PySem.W.Frag} {mg : Str → Option Value} {base : Heap}
/-! ### handed_number -/
abbrev sHanded : Stmt := top 28
def spHanded : Sp := fun vs H Q _ => ∃ z : Nat, vs = [nV z] ∧ Q (.int (Dr01.whole z)) H
theorem ok_handed {f : Addr} {fd : FuncData} (D : C8.Def K mg "handed_number" sHanded f fd) (b : Binds K fd ["handed"] []) : Cal P w K mg base 1 "handed_number" spHanded [] := by
  refine cal0 D b .nil (N := ["handed"]) (fnScope_by (by decide +kernel)) (fun vs H Q E h => ?_) (fun cdv A outer s0 H vs Q E hr h => ?_)
  · obtain ⟨z, rfl, _⟩ := h; rfl
  · obtain ⟨z, rfl, q⟩ := h
    refine ⟨_, pss_cons (ps_if (pt_cmpR op_eq (pe_op op_mod (pv 0) pe_int) pe_int (nomark _)) (pss_one (ps_ret (pe_op op_fdiv (pv 0) pe_int))) pss_nil)
      (pss_one (ps_ret (pe_un un_neg (pe_op op_fdiv (pe_op op_add (pv 0) pe_int) pe_int)))), ?_⟩
    refine ⟨_, rfl, _, _, rfl, rfl, (by show (0 : Int) < 2; decide), rfl, _, rfl, ?_⟩
    by_cases c : z % 2 = 0
    · refine if_t (decide_eq_true (congrArg V.int (by omega))) ?_
      refine ⟨_, rfl, _, _, rfl, rfl, ⟨by decide, by decide⟩, ?_⟩
      rw [whole_even c] at q
      exact q
    · refine if_f (decide_eq_false fun e => c (by injection e; omega)) ?_
      refine ⟨_, rfl, _, _, rfl, rfl, _, _, rfl, rfl, ⟨by decide, by decide⟩, _, rfl, ?_⟩
      rw [whole_odd c] at q
      exact q
/-! ### values_fit -/
abbrev sVals : Stmt := top 29
def vfit (zs : List Nat) : Bool := decide ((zs.length = 2 ∨ zs.length = 4 ∨ zs.length = 8 ∨ zs.length = 16 ∨ zs.length = 32) ∧ ∀ z ∈ zs, z ≤ 20000)
def spVals (K : PySem.W.Frag) : Sp := fun vs H Q _ => ∃ (a : Addr) (zs : List Nat), vs = [.ref a] ∧ SqL K H a (zs.map nV) ∧ Q (.bl (vfit zs)) H
theorem in_counts (m : Nat) : inV (.int (m : Int)) [.int 2, .int 4, .int 8, .int 16, .int 32] = decide (m = 2 ∨ m = 4 ∨ m = 8 ∨ m = 16 ∨ m = 32) := by
  rw [Bool.eq_iff_iff]
  unfold inV
  simp only [List.any_cons, List.any_nil, eqV, Bool.or_eq_true, beq_iff_eq, decide_eq_true_eq, Bool.or_false]
  omega
theorem map_nV (zs : List Nat) : zs.map nV = (zs.map fun (z : Nat) => (z : Int)).map V.int := by rw [List.map_map]; rfl
theorem ok_vals {f : Addr} {fd : FuncData} (g : Gs mg) (c : Cs K mg) (D : C8.Def K mg "values_fit" sVals f fd) (b : Binds K fd ["handed"] []) : Cal P w K mg base 1 "values_fit" (spVals K) [] := by
  refine cal0 D b .nil (N := ["handed"]) (fnScope_by (by decide +kernel)) (fun vs H Q E h => ?_) (fun cdv A outer s0 H vs Q E hr h => ?_)
  · obtain ⟨a, z, rfl, _⟩ := h; rfl
  · obtain ⟨a, zs, rfl, hl, q⟩ := h
    obtain ⟨ac, hc, hsc, _⟩ := c.counts
    refine ⟨_, pss_cons (ps_if (pt_cmpR op_notIn_seq (pe_callB call_len_seq (by rfl) g.len PySem.boot_len (pa_cons (pv 0) pa_nil)) (pe_gc (by rfl) hc) (by rfl)) (pss_one (ps_ret pe_bl)) pss_nil)
      (pss_one (ps_ret (pe_cmpR op_le (pe_callB (cr_max rfl) (by rfl) g.max boot_max (pa_cons (pv 0) pa_nil)) (pe_gc (by rfl) c.mostHanded) (nomark _)))), ?_⟩
    refine ⟨_, rfl, a, _, rfl, .inl hl, ac, _, rfl, .inr (hsc H), rfl, rfl, _, rfl, ?_⟩
    rw [List.length_map, in_counts]
    by_cases e : zs.length = 2 ∨ zs.length = 4 ∨ zs.length = 8 ∨ zs.length = 16 ∨ zs.length = 32
    · rw [decide_eq_true e]
      refine iteF ?_
      refine ⟨_, rfl, a, zs.map fun (z : Nat) => (z : Int), rfl, by rw [← map_nV]; exact hl, by rw [List.length_map]; omega, fun m hm ha => ⟨_, _, rfl, rfl, ?_⟩⟩
      have ev : vfit zs = decide (m ≤ 20000) := by
        unfold vfit
        congr 1
        rw [eq_iff_iff]
        constructor
        · rintro ⟨_, h⟩
          rw [List.mem_map] at hm
          obtain ⟨z, hz, rfl⟩ := hm
          have := h z hz
          omega
        · intro h
          refine ⟨e, fun z hz => ?_⟩
          have := ha z (List.mem_map.mpr ⟨z, hz, rfl⟩)
          omega
      rw [ev] at q
      exact q
    · rw [decide_eq_false e]
      refine iteT ?_
      have ev : vfit zs = false := by
        unfold vfit
        exact decide_eq_false fun h => e h.1
      rw [ev] at q
      exact q
/-! ### points_fit -/
abbrev sPts : Stmt := top 30
theorem rg2 : ∀ (m : Nat), m < 51 → RgC 0 (m : Int) 2 ((m + 1) / 2) := by
  intro m hm
  refine ⟨by decide, by decide, ?_, ?_⟩
  · revert m; decide +kernel
  · revert m; decide +kernel
def spPts (K : PySem.W.Frag) : Sp := fun vs H Q _ => ∃ (a : Addr) (n : Nat) (l : List Nat), vs = [nV n, .ref a] ∧ SqL K H a (l.map nV) ∧ (1 ≤ n ∧ n ≤ 5) ∧ l.length ≤ 50 ∧ Q (.bl (pointsOk n l)) H
theorem counts_at : ∀ (n : Nat), n < 6 → 1 ≤ n → atI [V.int 2, .int 4, .int 8, .int 16, .int 32] ((n : Int) - 1) = some (nV (2 ^ n)) := by
  intro n h1 h2
  match n, h1, h2 with
  | 1, _, _ => rfl
  | 2, _, _ => rfl
  | 3, _, _ => rfl
  | 4, _, _ => rfl
  | 5, _, _ => rfl
theorem at_nat {l : List Nat} {j : Nat} (h : j < l.length) : atI (l.map nV) (j : Int) = some (nV (l.getD j 0)) := by
  refine atI_nat ?_
  rw [List.getElem?_map, List.getElem?_eq_getElem h, List.getD_eq_getElem?_getD, List.getElem?_eq_getElem h]
  rfl
theorem ok_pts {f : Addr} {fd : FuncData} (g : Gs mg) (c : Cs K mg) (D : C8.Def K mg "points_fit" sPts f fd) (b : Binds K fd ["n", "points"] []) : Cal P w K mg base 1 "points_fit" (spPts K) [] := by
  have sc : FnScope ["n", "points", "at"] ["n", "points"] (C8.fnScope sPts) := fnScope_by (by decide +kernel)
  refine cal0 D b .nil (N := ["n", "points", "at"]) sc (fun vs H Q E h => ?_) (fun cdv A outer s0 H vs Q E hr h => ?_)
  · obtain ⟨a, n, l, rfl, _⟩ := h; rfl
  · obtain ⟨a, n, l, rfl, hl, hn, h50, q⟩ := h
    obtain ⟨ac, hc, hsc, _⟩ := c.counts
    refine ⟨_, pss_cons (ps_if (PW.pt (pw_or (pt_cmpR op_ne (pe_op op_mod (pe_callB call_len_seq (by rfl) g.len PySem.boot_len (pa_cons (pv 1) pa_nil)) pe_int) pe_int (nomark _))
        (pw_or1 (pt_cmpR op_gt (pe_callB call_len_seq (by rfl) g.len PySem.boot_len (pa_cons (pv 1) pa_nil)) (pe_op op_mul pe_int (pe_gc (by rfl) c.mostPoints)) (nomark _))))) (pss_one (ps_ret pe_bl)) pss_nil)
      (pss_cons (ps_for PassesOwn.never rfl (pi_range3 (by rfl) g.rng (pa_cons pe_int (pa_cons (pe_callB call_len_seq (by rfl) g.len PySem.boot_len (pa_cons (pv 1) pa_nil)) (pa_cons pe_int pa_nil)))) (pg_name (i := 2) sc.nd rfl (Or.inl rfl))
        (pss_one (ps_if (PW.pt (pw_or (pt_cmpR op_gt (pe_ix ix_list (pv 1) (pv 2) (fun _ _ => rfl)) (pe_gc (by rfl) c.mostWeight) (nomark _))
          (pw_or1 (pt_cmpR op_ge (pe_ix ix_list (pv 1) (pe_op op_add (pv 2) pe_int) (fun _ _ => rfl)) (pe_ix ix_tup (pe_gc (by rfl) hc) (pe_op op_sub (pv 0) pe_int) (fun _ _ => rfl)) (nomark _))))) (pss_one (ps_ret pe_bl)) pss_nil)))
      (pss_one (ps_ret pe_bl))), ?_⟩
    have el : (l.map nV).length = l.length := List.length_map ..
    refine ⟨_, rfl, a, _, rfl, .inl hl, _, _, rfl, rfl, (by show (0 : Int) < 2; decide), rfl, _, rfl, ?_⟩
    rw [el]
    rw [pointsOk_is] at q
    by_cases c1 : l.length % 2 = 0
    case neg =>
      refine if_t (by rw [decide_eq_false (fun e => c1 (by injection e; omega))]; rfl) ?_
      refine iteT ?_
      rw [decide_eq_false c1, Bool.false_and, Bool.false_and] at q
      exact q
    refine if_f (by rw [decide_eq_true (congrArg V.int (by omega))]; rfl) ?_
    refine ⟨_, rfl, a, _, rfl, .inl hl, _, _, rfl, rfl, .inl ⟨by decide, by decide⟩, _, _, rfl, rfl, _, rfl, ?_⟩
    rw [el]
    rw [decide_eq_true c1, Bool.true_and] at q
    by_cases c2 : l.length ≤ 40
    case neg =>
      refine if_t (decide_eq_true (by omega)) ?_
      rw [decide_eq_false c2, Bool.false_and] at q
      exact q
    refine if_f (decide_eq_false (by omega)) ?_
    rw [decide_eq_true c2, Bool.true_and] at q
    refine ⟨_, rfl, a, _, rfl, .inl hl, 0, (l.length : Int), 2, (l.length + 1) / 2, ?_, rg2 l.length (by omega), ?_⟩
    · rw [el]
    have eh : (l.length + 1) / 2 = l.length / 2 := by omega
    rw [eh]
    refine for_it walk_rangeC (fun i σ H' => i ≤ l.length / 2 ∧ H' = H ∧ (∃ v, σ = [some (nV n), some (.ref a), v]) ∧ ∀ j < i, pairOk n l j = true) ⟨Nat.zero_le _, rfl, ⟨none, rfl⟩, fun j h => absurd h (Nat.not_lt_zero _)⟩ (fun _ _ _ _ _ => trivial) (fun i x σ H1 H2 hi hp y => ?_) (fun σ H1 hp => ?_)
    · obtain ⟨_, rfl, ⟨v, rfl⟩, ha⟩ := hp
      obtain ⟨rfl, hx⟩ := y
      replace hx : x = nV (2 * i) := hx.trans (congrArg V.int (by omega : (0 : Int) + (i : Int) * 2 = ((2 * i : Nat) : Int)))
      subst hx
      have h1 : 2 * i < l.length := by omega
      have h2 : 2 * i + 1 < l.length := by omega
      have hpo : pairOk n l i = (decide (l.getD (2 * i) 0 ≤ 1000) && decide (l.getD (2 * i + 1) 0 < 2 ^ n)) := rfl
      have bad : pairOk n l i = false → Q (.bl false) H2 := by
        intro e
        have : ((List.range (l.length / 2)).all fun j => pairOk n l j) = false := by
          rw [← Bool.not_eq_true, List.all_eq_true]
          intro z
          have := z i (List.mem_range.mpr hi)
          rw [e] at this; cases this
        rw [this] at q
        exact q
      refine ⟨_, rfl, _, rfl, a, _, _, _, rfl, rfl, hl, at_nat h1, _, _, rfl, rfl, _, rfl, ?_⟩
      by_cases d1 : l.getD (2 * i) 0 ≤ 1000
      case neg =>
        refine if_t (decide_eq_true (by omega)) (iteT (bad ?_))
        rw [hpo, decide_eq_false d1, Bool.false_and]
      refine if_f (decide_eq_false (by omega)) ?_
      refine ⟨_, rfl, _, rfl, _, _, rfl, rfl, a, _, _, nV (l.getD (2 * i + 1) 0), rfl, rfl, hl, ?_, _, rfl, _, _, rfl, rfl, ac, _, _, nV (2 ^ n), rfl, rfl, hsc H2, counts_at n (by omega) hn.1, _, _, rfl, rfl, _, rfl, ?_⟩
      · exact at_nat (j := 2 * i + 1) h2
      by_cases d2 : l.getD (2 * i + 1) 0 < 2 ^ n
      case neg =>
        refine if_t (decide_eq_true (Int.ofNat_le.mpr (Nat.le_of_not_lt d2))) (bad ?_)
        rw [hpo, decide_eq_false d2, Bool.and_false]
      refine if_f (decide_eq_false (fun z => absurd (Int.ofNat_le.mp z) (Nat.not_le_of_lt d2))) ?_
      refine ⟨hi, rfl, ⟨_, rfl⟩, fun j hj => ?_⟩
      by_cases e : j = i
      · subst e
        rw [hpo, decide_eq_true d1, decide_eq_true d2]; rfl
      · exact ha j (by omega)
    · obtain ⟨_, rfl, ⟨v, rfl⟩, ha⟩ := hp
      have : ((List.range (l.length / 2)).all fun j => pairOk n l j) = true := by
        rw [List.all_eq_true]
        intro j hj
        exact ha j (List.mem_range.mp hj)
      rw [this] at q
      exact q
end
end Cw
set_option Elab.async false
set_option maxRecDepth 100000
set_option maxHeartbeats 2000000
set_option linter.all false
namespace Cw
open PySem PySem.Spec PyProof.Rows L2
open Dr01 (has with_ without val brings)
open C8 (Cal Met Mak cal0 met0 mak0 pe_c pe_mt pe_mt0 pe_gc fnScope_by scC)
theorem filt_all {α : Type} (n : Nat) (v : Nat → α) : ((List.range n).filter fun _ => true).map v = (List.range n).map v := by
  rw [List.filter_eq_self.mpr (fun _ _ => rfl)]
theorem get_map {α : Type} {l : List α} {g : α → V} {i : Nat} {x : V} (h : (l.map g)[i]? = some x) : ∃ z, l[i]? = some z ∧ x = g z := by
  rw [List.getElem?_map] at h
  cases e : l[i]? with
  | none => rw [e] at h; cases h
  | some z => rw [e] at h; exact ⟨z, rfl, (Option.some.inj h).symm⟩
theorem take_more {α : Type} {l : List α} {i : Nat} {x : α} (h : l[i]? = some x) : l.take (i + 1) = l.take i ++ [x] := by
  rw [List.take_succ, h]; rfl
theorem all_more {α : Type} {l : List α} {i : Nat} {x : α} {p : α → Bool} (h : l[i]? = some x) (a : (l.take i).all p = true) (b : p x = true) : (l.take (i + 1)).all p = true := by
  rw [take_more h, List.all_append, a]
  simp [b]
theorem all_not {α : Type} {l : List α} {x : α} {p : α → Bool} (h : x ∈ l) (b : p x = false) : l.all p = false := by
  rw [← Bool.not_eq_true, List.all_eq_true]
  intro z
  have := z x h
  rw [b] at this; cases this
theorem and0 (x y : Nat) : decide (V.int (Builtin.bitAnd (x : Int) (y : Int)) = V.int 0) = decide ((x &&& y) = 0) := by
  rw [bAnd]
  congr 1
  rw [eq_iff_iff]
  constructor
  · intro h
    injection h with h
    exact_mod_cast h
  · intro h
    rw [h]; rfl
/-- within a comprehension the written part is told by name -/
theorem ixl {X : Cx} {K : PySem.W.Frag} (h : X.K = K) : IxR X (rIxL K) := h ▸ ix_list
section
variable {P : Program} {w : World} {K : PySem.W.Frag} {mg : Str → Option Value} {base : Heap}
/-! ### weight_met -/
abbrev sMet : Stmt := top 31
def spMet (K : PySem.W.Frag) : Sp := fun vs H Q _ => ∃ (a : Addr) (l : List Nat) (s : Nat), vs = [.ref a, nV s] ∧ SqL K H a (l.map nV) ∧ l.length % 2 = 0 ∧ l.length ≤ 50 ∧ Gives H Q (.int ((met l s).map fun (z : Nat) => (z : Int)).sum)
theorem ok_met {f : Addr} {fd : FuncData} (g : Gs mg) (D : C8.Def K mg "weight_met" sMet f fd) (b : Binds K fd ["points", "s"] []) : Cal P w K mg base 1 "weight_met" (spMet K) [] := by
  have sc : FnScope ["points", "s", "at"] ["points", "s"] (C8.fnScope sMet) := fnScope_by (by decide +kernel)
  refine cal0 D b .nil (N := ["points", "s", "at"]) sc (fun vs H Q E h => ?_) (fun cdv A outer s0 H vs Q E hr h => ?_)
  · obtain ⟨a, l, s, rfl, _⟩ := h; rfl
  · obtain ⟨a, l, s, rfl, hl, hev, h50, q⟩ := h
    have el : (l.map nV).length = l.length := List.length_map ..
    refine ⟨_, pss_one (ps_ret (pe_callB (cr_sum rfl) (by rfl) g.sum boot_sum (pa_cons (pe_lc (own := [("at", 2)]) (g := gName 2) rfl sc.nd
      (pi_range3 (by rfl) g.rng (pa_cons pe_int (pa_cons (pe_callB call_len_seq (by rfl) g.len PySem.boot_len (pa_cons (pv 0) pa_nil)) (pa_cons pe_int pa_nil))))
      (blkOk_by (N := ["points", "s", "at"]) (sc := C8.fnScope sMet) (by decide +kernel)) (fun _ _ _ _ _ => pg_name (i := 2) sc.nd rfl (Or.inl rfl))
      (fun _ _ _ _ _ => pts_one (pt_cmpR op_ne (pe_op op_and (pe_ix (ixl (K := K) rfl) (pv 0) (pe_op op_add (pv 2) pe_int) (fun _ _ => rfl)) (pv 1)) pe_int (nomark _)))
      (fun _ _ _ _ _ => pe_ix (ixl (K := K) rfl) (pv 0) (pv 2) (fun _ _ => rfl))) pa_nil))), ?_⟩
    refine ⟨_, rfl, a, _, rfl, .inl hl, 0, (l.length : Int), 2, (l.length + 1) / 2, ?_, rg2 l.length (by omega), fun D hD => ?_⟩
    · rw [el]
    have eh : (l.length + 1) / 2 = l.length / 2 := by omega
    rw [eh]
    refine lc_w walk_rangeC (fun j => decide (¬ (l.getD (2 * j + 1) 0 &&& s) = 0)) (fun j => nV (l.getD (2 * j) 0)) (Nat.lt_of_le_of_lt (by omega : l.length / 2 ≤ 25) (by decide)) hD (fun _ _ => trivial) (fun i x H1 H2 hi hS y acc hA Nx hn hy => ?_) (fun H' hS hA => ?_)
    · obtain ⟨rfl, hx⟩ := y
      replace hx : x = nV (2 * i) := hx.trans (congrArg V.int (by omega : (0 : Int) + (i : Int) * 2 = ((2 * i : Nat) : Int)))
      subst hx
      have h1 : 2 * i < l.length := by omega
      have h2 : 2 * i + 1 < l.length := by omega
      refine ⟨rfl, _, rfl, _, rfl, _, _, rfl, rfl, a, _, _, nV (l.getD (2 * i + 1) 0), rfl, rfl, hS.seq hl, at_nat (j := 2 * i + 1) h2, _, rfl, _, _, rfl, rfl, rfl, _, rfl, ?_⟩
      by_cases z : (l.getD (2 * i + 1) 0 &&& s) = 0
      · refine if_f ?_ (hn (decide_eq_false (fun y => y z)) _ (Same.refl _))
        show (!decide (V.int (Builtin.bitAnd ((l.getD (2 * i + 1) 0 : Nat) : Int) (s : Int)) = V.int 0)) = false
        rw [and0, decide_eq_true z]; rfl
      · refine if_t ?_ ⟨_, rfl, _, rfl, a, _, _, _, rfl, rfl, hS.seq hl, at_nat h1, hy (decide_eq_true z) _ (Same.refl _)⟩
        show (!decide (V.int (Builtin.bitAnd ((l.getD (2 * i + 1) 0 : Nat) : Int) (s : Int)) = V.int 0)) = true
        rw [and0, decide_eq_false z]; rfl
    · refine ⟨D, (met l s).map fun (z : Nat) => (z : Int), rfl, .inl (.inl ?_), q H' hS⟩
      rw [hA, ← map_nV]
      unfold met
      rw [List.map_map]
      rfl
/-! ### brings_rightly -/
abbrev sRight : Stmt := top 33
def spRight (K : PySem.W.Frag) : Sp := fun vs H Q _ => ∃ (a : Addr) (f : Dr01.Fun) (s : Nat), vs = [nV f.many, .ref a, nV s] ∧ SqL K H a (f.vals.map V.int) ∧ Wf f ∧ s < 2 ^ f.many ∧ Gives H Q (.bl (rightly f s))
def okT (f : Dr01.Fun) (s t : Nat) : Bool := decide (0 ≤ brings f s t) && (out f.many s).all fun u => decide (u = t) || decide (brings f (with_ s u) t ≤ brings f s t)
theorem rightly_is (f : Dr01.Fun) (s : Nat) : rightly f s = (out f.many s).all (okT f s) := rfl
theorem ok_right {f : Addr} {fd : FuncData} (cOnly : Cal P w K mg base 1 "only" spOnly []) (cOut : Cal P w K mg base 2 "things_outside" spOutside []) (cWhat : Cal P w K mg base 2 "what_it_brings" (spWhat K) [])
    (D : C8.Def K mg "brings_rightly" sRight f fd) (b : Binds K fd ["n", "worth", "s"] []) : Cal P w K mg base 3 "brings_rightly" (spRight K) [] := by
  have sc : FnScope ["n", "worth", "s", "outside", "thing", "alone", "other"] ["n", "worth", "s"] (C8.fnScope sRight) := fnScope_by (by decide +kernel)
  refine cal0 D b .nil (N := ["n", "worth", "s", "outside", "thing", "alone", "other"]) sc (fun vs H Q E h => ?_) (fun cdv A outer s0 H vs Q E hr h => ?_)
  · obtain ⟨a, l, s, rfl, _⟩ := h; rfl
  · obtain ⟨a, f, s, rfl, hl, wf, hs, q⟩ := h
    have h5 := wf.hi
    have hs32 := lt32 h5 hs
    refine ⟨_, pss_cons (ps_set (i := 3) sc.nd rfl (Or.inl rfl) (pe_c cOut hr (by decide) (by rfl) (pa_cons (pv 0) (pa_cons (pv 2) pa_nil))))
      (pss_cons (ps_for PassesOwn.never rfl (pi_list (pv 3)) (pg_name (i := 4) sc.nd rfl (Or.inl rfl))
        (pss_cons (ps_set (i := 5) sc.nd rfl (Or.inl rfl) (pe_c cWhat hr (by decide) (by rfl) (pa_cons (pv 1) (pa_cons (pv 2) (pa_cons (pv 4) pa_nil)))))
        (pss_cons (ps_if (pt_cmpR op_lt (pv 5) pe_int (nomark _)) (pss_one (ps_ret pe_bl)) pss_nil)
        (pss_one (ps_for PassesOwn.never rfl (pi_list (pv 3)) (pg_name (i := 6) sc.nd rfl (Or.inl rfl))
          (pss_one (ps_if (PW.pt (pw_and (pt_cmpR op_ne (pv 6) (pv 4) (nomark _)) (pw_and1 (pt_cmpR op_gt (pe_c cWhat hr (by decide) (by rfl)
            (pa_cons (pv 1) (pa_cons (pe_op op_or (pv 2) (pe_c cOnly hr (by decide) (by rfl) (pa_cons (pv 6) pa_nil))) (pa_cons (pv 4) pa_nil)))) (pv 5) (nomark _))))) (pss_one (ps_ret pe_bl)) pss_nil)))))))
      (pss_one (ps_ret pe_bl))), ?_⟩
    refine ⟨_, rfl, _, rfl, f.many, s, rfl, h5, hs32, fun H1 p s1 np hp => ?_⟩
    refine ⟨_, rfl, p, rfl, ⟨_, .inl (.inl hp)⟩, for_list (K := K) (a := p) (xs := (out f.many s).map nV) (fun i σ H' => H1 = H' ∧ (∃ v4 v5 v6, σ = [some (nV f.many), some (.ref a), some (nV s), some (.ref p), v4, v5, v6]) ∧ ((out f.many s).take i).all (okT f s) = true)
      ⟨rfl, ⟨none, none, none, rfl⟩, rfl⟩ (fun i σ H' _ h => by rw [← h.1]; exact .inl (.inl hp)) ?_ ?_⟩
    · rintro i x σ H' hx ⟨rfl, ⟨v4, v5, v6, rfl⟩, ha⟩
      obtain ⟨t, ht, rfl⟩ := get_map hx
      have mt := List.mem_of_getElem? ht
      have mt' := mem_out.mp mt
      refine ⟨_, rfl, _, rfl, _, rfl, a, f, s, t, rfl, s1.seq hl, wf, hs, mt'.1, ?_⟩
      refine ⟨_, rfl, _, _, rfl, rfl, _, rfl, ?_⟩
      by_cases c : 0 ≤ brings f s t
      case neg =>
        refine if_t (decide_eq_true (by omega)) ?_
        have : rightly f s = false := by
          rw [rightly_is]
          refine all_not mt ?_
          unfold okT
          rw [decide_eq_false c, Bool.false_and]
        rw [this] at q
        exact q _ s1
      refine if_f (decide_eq_false (by omega)) ?_
      refine ⟨_, rfl, p, rfl, ⟨_, .inl (.inl hp)⟩, for_list (K := K) (a := p) (xs := (out f.many s).map nV) (fun j σ H' => H1 = H' ∧ (∃ v6, σ = [some (nV f.many), some (.ref a), some (nV s), some (.ref p), some (nV t), some (.int (brings f s t)), v6]) ∧ ((out f.many s).take j).all (fun u => decide (u = t) || decide (brings f (with_ s u) t ≤ brings f s t)) = true)
        ⟨rfl, ⟨v6, rfl⟩, rfl⟩ (fun i σ H' _ h => by rw [← h.1]; exact .inl (.inl hp)) ?_ ?_⟩
      · rintro j y σ H' hy ⟨rfl, ⟨v6, rfl⟩, hb⟩
        obtain ⟨u, hu, rfl⟩ := get_map hy
        have mu := List.mem_of_getElem? hu
        have mu' := mem_out.mp mu
        refine ⟨_, rfl, _, rfl, rfl, _, rfl, ?_⟩
        by_cases e : u = t
        · refine if_f (by rw [decide_eq_true (congrArg nV e)]; rfl) (iteF ?_)
          refine ⟨rfl, ⟨_, rfl⟩, all_more hu hb ?_⟩
          rw [decide_eq_true e]; rfl
        · refine if_t (by rw [decide_eq_false]; · rfl
                          · intro z; injection z with z; exact e (by exact_mod_cast z)) ?_
          refine ⟨_, rfl, _, rfl, _, rfl, u, rfl, mu'.1.1, by omega, _, _, rfl, rfl, _, rfl, ?_⟩
          refine ⟨a, f, with_ s u, t, congrArg (fun z => [V.ref a, V.int z, nV t]) (or_with hs32 (by omega)), s1.seq hl, wf, with_lt f.many (by omega) s hs u (by omega) mu'.1.1, mt'.1, _, rfl, _, _, rfl, rfl, _, rfl, ?_⟩
          by_cases c2 : brings f (with_ s u) t ≤ brings f s t
          · refine if_f (decide_eq_false (by omega)) ⟨rfl, ⟨_, rfl⟩, all_more hu hb ?_⟩
            rw [decide_eq_true c2, Bool.or_true]
          · refine if_t (decide_eq_true (by omega)) ?_
            have : rightly f s = false := by
              rw [rightly_is]
              refine all_not mt ?_
              unfold okT
              rw [all_not mu (by rw [decide_eq_false e, decide_eq_false c2]; rfl), Bool.and_false]
            rw [this] at q
            exact q _ s1
      · rintro σ H' ⟨rfl, ⟨v6, rfl⟩, hb⟩
        rw [List.length_map, List.take_length] at hb
        refine ⟨rfl, ⟨_, _, _, rfl⟩, all_more ht ha ?_⟩
        unfold okT
        rw [decide_eq_true c, hb]; rfl
    · rintro σ H' ⟨rfl, _, ha⟩
      rw [List.length_map, List.take_length] at ha
      have : rightly f s = true := ha
      rw [this] at q
      exact q _ s1
/-! ### function_fits -/
abbrev sFits : Stmt := top 34
def spFits (K : PySem.W.Frag) : Sp := fun vs H Q _ => ∃ (a : Addr) (f : Dr01.Fun), vs = [nV f.many, .ref a] ∧ SqL K H a (f.vals.map V.int) ∧ Wf f ∧ Gives H Q (.bl (Dr04.fits f))
theorem ok_fits {f : Addr} {fd : FuncData} (g : Gs mg) (cRight : Cal P w K mg base 3 "brings_rightly" (spRight K) [])
    (D : C8.Def K mg "function_fits" sFits f fd) (b : Binds K fd ["n", "worth"] []) : Cal P w K mg base 4 "function_fits" (spFits K) [] := by
  have sc : FnScope ["n", "worth", "s"] ["n", "worth"] (C8.fnScope sFits) := fnScope_by (by decide +kernel)
  refine cal0 D b .nil (N := ["n", "worth", "s"]) sc (fun vs H Q E h => ?_) (fun cdv A outer s0 H vs Q E hr h => ?_)
  · obtain ⟨a, f, rfl, _⟩ := h; rfl
  · obtain ⟨a, f, rfl, hl, wf, q⟩ := h
    have h5 := wf.hi
    have hp := Nat.two_pow_pos f.many
    refine ⟨_, pss_cons (ps_if (pt_cmpR op_ne (pe_ix ix_list (pv 1) pe_int (fun _ _ => rfl)) pe_int (nomark _)) (pss_one (ps_ret pe_bl)) pss_nil)
      (pss_one (ps_ret (pe_callB (cr_all rfl) (by rfl) g.all boot_all (pa_cons (pe_lc (own := [("s", 2)]) (g := gName 2) rfl sc.nd
      (pi_range1 (by rfl) g.rng (pa_cons (pe_callB call_len_seq (by rfl) g.len PySem.boot_len (pa_cons (pv 1) pa_nil)) pa_nil))
      (blkOk_by (N := ["n", "worth", "s"]) (sc := C8.fnScope sFits) (by decide +kernel)) (fun _ _ _ _ _ => pg_name (i := 2) sc.nd rfl (Or.inl rfl))
      (fun _ _ _ _ _ => pts_nil)
      (fun _ _ _ _ _ => pe_c cRight hr (by decide) (by rfl) (pa_cons (pv 0) (pa_cons (pv 1) (pa_cons (pv 2) pa_nil))))) pa_nil)))), ?_⟩
    refine ⟨_, rfl, a, _, _, V.int (val f 0), rfl, rfl, hl, at_val wf (s := 0) hp, rfl, _, rfl, ?_⟩
    rw [fits_iff wf] at q
    by_cases c : val f 0 = 0
    case neg =>
      refine if_t (by rw [decide_eq_false (fun z => c (by injection z))]; rfl) ?_
      rw [decide_eq_false c, Bool.false_and] at q
      exact q _ (Same.refl _)
    refine if_f (by rw [decide_eq_true (congrArg V.int c)]; rfl) ?_
    rw [decide_eq_true c, Bool.true_and] at q
    have el : (f.vals.map V.int).length = 2 ^ f.many := by rw [List.length_map, wf.len]
    have h32 := pow_le h5
    refine ⟨_, rfl, a, _, rfl, .inl hl, ((2 ^ f.many : Nat) : Int), ?_, by omega, by omega, fun D hD => ?_⟩
    · rw [el]
    rw [Int.toNat_natCast]
    refine lc_w walk_range (fun _ => true) (fun s => .bl (rightly f s)) (Nat.lt_of_le_of_lt h32 (by decide)) hD (fun _ _ => trivial) (fun i x H1 H2 hi hS y acc hA Nx hn hy => ?_) (fun H' hS hA => ?_)
    · obtain ⟨rfl, hx⟩ := y
      replace hx : x = nV i := hx.trans (congrArg V.int (by omega : (0 : Int) + (i : Int) = (i : Int)))
      subst hx
      exact ⟨rfl, _, rfl, _, rfl, _, rfl, a, f, i, rfl, hS.seq hl, wf, hi, fun H5 s5 => hy rfl _ s5⟩
    · refine ⟨D, (List.range (2 ^ f.many)).map fun s => rightly f s, rfl, .inl (.inl ?_), ?_⟩
      · rw [hA, filt_all, List.map_map]; rfl
      · have := q _ hS
        rw [List.all_map]
        exact this
end
end Cw
set_option Elab.async false
set_option maxRecDepth 100000
set_option maxHeartbeats 2000000
set_option linter.all false
namespace Cw
open PySem PySem.Spec PyProof.Rows L2
open Dr01 (has with_ without val brings)
open C8 (Cal Met Mak cal0 met0 mak0 pe_c pe_mt pe_mt0 pe_gc fnScope_by scC)
section
variable {P : Program} {w : World} {K : PySem.W.Frag} {mg : Str → Option Value} {base : Heap}
/-! ### best_of -/
abbrev sBestOf : Stmt := top 36
def spBestOf (K : PySem.W.Frag) : Sp := fun vs H Q _ => ∃ (a b : Addr) (f : Dr01.Fun) (x : Nat) (r : List Nat), vs = [.ref a, .ref b] ∧ SqL K H a (f.vals.map V.int) ∧ SqL K H b ((x :: r).map nV) ∧ Wf f ∧ (∀ s ∈ x :: r, s < 2 ^ f.many) ∧ Q (nV ((x :: r).foldl (better2 f) x)) H
theorem ok_bestOf {f : Addr} {fd : FuncData} (D : C8.Def K mg "best_of" sBestOf f fd) (b : Binds K fd ["worth", "sets"] []) : Cal P w K mg base 1 "best_of" (spBestOf K) [] := by
  have sc : FnScope ["worth", "sets", "best", "s"] ["worth", "sets"] (C8.fnScope sBestOf) := fnScope_by (by decide +kernel)
  refine cal0 D b .nil (N := ["worth", "sets", "best", "s"]) sc (fun vs H Q E h => ?_) (fun cdv A outer s0 H vs Q E hr h => ?_)
  · obtain ⟨a, b', f, x, r, rfl, _⟩ := h; rfl
  · obtain ⟨a, p, f, x, r, rfl, hl, hp, wf, hlt, q⟩ := h
    refine ⟨_, pss_cons (ps_set (i := 2) sc.nd rfl (Or.inl rfl) (pe_ix ix_list (pv 1) pe_int (fun _ _ => rfl)))
      (pss_cons (ps_for PassesOwn.never rfl (pi_list (pv 1)) (pg_name (i := 3) sc.nd rfl (Or.inl rfl))
        (pss_one (ps_if (pt_cmpR op_gt (pe_ix ix_list (pv 0) (pv 3) (fun _ _ => rfl)) (pe_ix ix_list (pv 0) (pv 2) (fun _ _ => rfl)) (nomark _)) (pss_one (ps_set (i := 2) sc.nd rfl (Or.inl rfl) (pv 3))) pss_nil)))
      (pss_one (ps_ret (pv 2)))), ?_⟩
    refine ⟨_, rfl, p, _, _, nV x, rfl, rfl, hp, atI_nat (j := 0) rfl, ?_⟩
    refine ⟨_, rfl, p, rfl, ⟨_, hp⟩, for_list (K := K) (a := p) (xs := (x :: r).map nV) (fun i σ H' => H = H' ∧ ((x :: r).take i).foldl (better2 f) x < 2 ^ f.many ∧ ∃ v, σ = [some (.ref a), some (.ref p), some (nV (((x :: r).take i).foldl (better2 f) x)), v])
      ⟨rfl, hlt x (List.mem_cons_self ..), none, rfl⟩ (fun i σ H' _ h => by rw [← h.1]; exact hp) ?_ ?_⟩
    · rintro i y σ H' hy ⟨rfl, hb, v, rfl⟩
      obtain ⟨s, hs, rfl⟩ := get_map hy
      have ms := hlt s (List.mem_of_getElem? hs)
      refine ⟨_, rfl, _, rfl, a, _, _, V.int (val f s), rfl, rfl, hl, at_val wf ms, _, rfl, _, rfl, a, _, _, _, rfl, rfl, hl, at_val wf hb, _, _, rfl, rfl, _, rfl, ?_⟩
      have e : ((x :: r).take (i + 1)).foldl (better2 f) x = better2 f (((x :: r).take i).foldl (better2 f) x) s := by
        rw [take_more hs, List.foldl_append]; rfl
      by_cases c : val f (((x :: r).take i).foldl (better2 f) x) < val f s
      · refine if_t (decide_eq_true c) ⟨_, rfl, rfl, ?_⟩
        rw [e, show better2 f (((x :: r).take i).foldl (better2 f) x) s = s from if_pos c]
        exact ⟨ms, _, rfl⟩
      · refine if_f (decide_eq_false c) ⟨rfl, ?_⟩
        rw [e, show better2 f (((x :: r).take i).foldl (better2 f) x) s = _ from if_neg c]
        exact ⟨hb, _, rfl⟩
    · rintro σ H' ⟨rfl, hb, v, rfl⟩
      rw [List.length_map, List.take_length]
      exact ⟨_, rfl, q⟩
/-! ### thing_bringing_most -/
abbrev sMost : Stmt := top 37
def spMost (K : PySem.W.Frag) : Sp := fun vs H Q _ => ∃ (a : Addr) (f : Dr01.Fun) (s t : Nat), vs = [nV f.many, .ref a, nV s] ∧ SqL K H a (f.vals.map V.int) ∧ Wf f ∧ s < 2 ^ f.many ∧ Dr04.next f s = some t ∧ Gives H Q (nV t)
theorem ok_most {f : Addr} {fd : FuncData} (cOut : Cal P w K mg base 2 "things_outside" spOutside []) (cWhat : Cal P w K mg base 2 "what_it_brings" (spWhat K) [])
    (D : C8.Def K mg "thing_bringing_most" sMost f fd) (b : Binds K fd ["n", "worth", "s"] []) : Cal P w K mg base 3 "thing_bringing_most" (spMost K) [] := by
  have sc : FnScope ["n", "worth", "s", "outside", "most", "thing"] ["n", "worth", "s"] (C8.fnScope sMost) := fnScope_by (by decide +kernel)
  refine cal0 D b .nil (N := ["n", "worth", "s", "outside", "most", "thing"]) sc (fun vs H Q E h => ?_) (fun cdv A outer s0 H vs Q E hr h => ?_)
  · obtain ⟨a, f, s, t, rfl, _⟩ := h; rfl
  · obtain ⟨a, f, s, t, rfl, hl, wf, hs, hn, q⟩ := h
    have h5 := wf.hi
    refine ⟨_, pss_cons (ps_set (i := 3) sc.nd rfl (Or.inl rfl) (pe_c cOut hr (by decide) (by rfl) (pa_cons (pv 0) (pa_cons (pv 2) pa_nil))))
      (pss_cons (ps_set (i := 4) sc.nd rfl (Or.inl rfl) (pe_ix ix_list (pv 3) pe_int (fun _ _ => rfl)))
      (pss_cons (ps_for PassesOwn.never rfl (pi_list (pv 3)) (pg_name (i := 5) sc.nd rfl (Or.inl rfl))
        (pss_one (ps_if (pt_cmpR op_gt (pe_c cWhat hr (by decide) (by rfl) (pa_cons (pv 1) (pa_cons (pv 2) (pa_cons (pv 5) pa_nil)))) (pe_c cWhat hr (by decide) (by rfl) (pa_cons (pv 1) (pa_cons (pv 2) (pa_cons (pv 4) pa_nil)))) (nomark _)) (pss_one (ps_set (i := 4) sc.nd rfl (Or.inl rfl) (pv 5))) pss_nil)))
      (pss_one (ps_ret (pv 4))))), ?_⟩
    refine ⟨_, rfl, _, rfl, f.many, s, rfl, h5, lt32 h5 hs, fun H1 p s1 np hp => ?_⟩
    cases eo : out f.many s with
    | nil => rw [next_none eo] at hn; cases hn
    | cons x r =>
      have hmem : ∀ y ∈ x :: r, 1 ≤ y ∧ y ≤ f.many := fun y m => (mem_out.mp (by rw [eo]; exact m)).1
      rw [next_cons eo] at hn
      have hn := Option.some.inj hn
      rw [eo] at hp
      refine ⟨_, rfl, p, _, _, nV x, rfl, rfl, .inl (.inl hp), atI_nat (j := 0) rfl, ?_⟩
      refine ⟨_, rfl, p, rfl, ⟨_, .inl (.inl hp)⟩, for_list (K := K) (a := p) (xs := (x :: r).map nV) (fun i σ H' => H1 = H' ∧ ((x :: r).take i).foldl (more f s) x ∈ x :: r ∧ ∃ v, σ = [some (nV f.many), some (.ref a), some (nV s), some (.ref p), some (nV (((x :: r).take i).foldl (more f s) x)), v])
        ⟨rfl, List.mem_cons_self .., none, rfl⟩ (fun i σ H' _ h => by rw [← h.1]; exact .inl (.inl hp)) ?_ ?_⟩
      · rintro i y σ H' hy ⟨rfl, hb, v, rfl⟩
        obtain ⟨u, hu, rfl⟩ := get_map hy
        have mu := List.mem_of_getElem? hu
        refine ⟨_, rfl, _, rfl, _, rfl, a, f, s, u, rfl, s1.seq hl, wf, hs, hmem u mu, _, rfl, _, rfl, _, rfl, a, f, s, _, rfl, s1.seq hl, wf, hs, hmem _ hb, _, _, rfl, rfl, _, rfl, ?_⟩
        have e : ((x :: r).take (i + 1)).foldl (more f s) x = more f s (((x :: r).take i).foldl (more f s) x) u := by
          rw [take_more hu, List.foldl_append]; rfl
        by_cases c : brings f s (((x :: r).take i).foldl (more f s) x) < brings f s u
        · refine if_t (decide_eq_true c) ⟨_, rfl, rfl, ?_⟩
          rw [e, show more f s (((x :: r).take i).foldl (more f s) x) u = u from if_pos c]
          exact ⟨mu, _, rfl⟩
        · refine if_f (decide_eq_false c) ⟨rfl, ?_⟩
          rw [e, show more f s (((x :: r).take i).foldl (more f s) x) u = _ from if_neg c]
          exact ⟨hb, _, rfl⟩
      · rintro σ H' ⟨rfl, hb, v, rfl⟩
        rw [List.length_map, List.take_length, hn]
        exact ⟨_, rfl, q _ s1⟩
/-! ### things_by_greed -/
abbrev sGreed : Stmt := top 38
def spGreed (K : PySem.W.Frag) : Sp := fun vs H Q _ => ∃ (a : Addr) (f : Dr01.Fun) (k : Nat), vs = [nV f.many, .ref a, nV k] ∧ SqL K H a (f.vals.map V.int) ∧ Wf f ∧ GivesL H Q ((Dr04.greed f (min k f.many) 0).map nV)
theorem min_nV (k n : Nat) : (if (n : Int) < (k : Int) then (n : Int) else (k : Int)) = ((min k n : Nat) : Int) := by
  split <;> omega
theorem ok_greed {f : Addr} {fd : FuncData} (g : Gs mg) (cOnly : Cal P w K mg base 1 "only" spOnly []) (cMost : Cal P w K mg base 3 "thing_bringing_most" (spMost K) [])
    (D : C8.Def K mg "things_by_greed" sGreed f fd) (b : Binds K fd ["n", "worth", "k"] []) : Cal P w K mg base 4 "things_by_greed" (spGreed K) [] := by
  have sc : FnScope ["n", "worth", "k", "taken", "s", "thing"] ["n", "worth", "k"] (C8.fnScope sGreed) := fnScope_by (by decide +kernel)
  refine cal0 D b .nil (N := ["n", "worth", "k", "taken", "s", "thing"]) sc (fun vs H Q E h => ?_) (fun cdv A outer s0 H vs Q E hr h => ?_)
  · obtain ⟨a, f, k, rfl, _⟩ := h; rfl
  · obtain ⟨a, f, k, rfl, hl, wf, q⟩ := h
    have h5 := wf.hi
    refine ⟨_, pss_cons (ps_set (i := 3) sc.nd rfl (Or.inl rfl) (pe_lst pa_nil))
      (pss_cons (ps_set (i := 4) sc.nd rfl (Or.inl rfl) pe_int)
      (pss_cons (ps_while PassesOwn.never (pt_cmpR op_lt (pe_callB call_len_seq (by rfl) g.len PySem.boot_len (pa_cons (pv 3) pa_nil)) (pe_callB (call_min2 rfl) (by rfl) g.min boot_min (pa_cons (pv 2) (pa_cons (pv 0) pa_nil))) (nomark _))
        (pss_cons (ps_set (i := 5) sc.nd rfl (Or.inl rfl) (pe_c cMost hr (by decide) (by rfl) (pa_cons (pv 0) (pa_cons (pv 1) (pa_cons (pv 4) pa_nil)))))
        (pss_cons (ps_expr (pe_bm PySem.F.plainAttrs_list PySem.F.slot_list_append PySem.F.type_list_append mt_append (pv 3) (pa_cons (pv 5) pa_nil)))
        (pss_one (ps_set (i := 4) sc.nd rfl (Or.inl rfl) (pe_op op_or (pv 4) (pe_c cOnly hr (by decide) (by rfl) (pa_cons (pv 5) pa_nil))))))))
      (pss_one (ps_ret (pv 3))))), ?_⟩
    refine ⟨(by show 0 ≤ sizeLine; decide), fun p np => ?_⟩
    refine ⟨fun m σ H' => ∃ (tk : List Nat) (s : Nat), m = min k f.many - tk.length ∧ tk.length ≤ min k f.many ∧ H' p = some (.lst (tk.map nV)) ∧ Same H H' ∧ s < 2 ^ f.many ∧ tk ++ Dr04.greed f (min k f.many - tk.length) s = Dr04.greed f (min k f.many) 0 ∧ (out f.many s).length + tk.length = f.many ∧
      ∃ v, σ = [some (nV f.many), some (.ref a), some (nV k), some (.ref p), some (nV s), v], ⟨_, [], 0, rfl, Nat.zero_le _, upd_same, same_upd np (Same.refl _), Nat.two_pow_pos _, rfl, out_zero_len _, none, rfl⟩, ?_⟩
    rintro m σ H' ⟨tk, s, rfl, hle, hp, hS, hs, hg, ho, v, rfl⟩
    refine ⟨_, rfl, p, _, rfl, .inl (.inl (.inl hp)), _, rfl, _, rfl, _, _, rfl, _, _, rfl, rfl, _, rfl, ?_⟩
    rw [min_nV, List.length_map]
    by_cases c : tk.length < min k f.many
    · refine if_t (decide_eq_true (by omega)) ?_
      have hne : out f.many s ≠ [] := by
        intro e
        rw [e, List.length_nil] at ho
        omega
      obtain ⟨t, ht⟩ : ∃ t, Dr04.next f s = some t := by
        cases e : out f.many s with
        | nil => exact absurd e hne
        | cons x r => exact ⟨_, next_cons e⟩
      have mt := mem_out.mp (next_mem ht)
      refine ⟨fun σ' H' => ∃ m', m' < min k f.many - tk.length ∧ _, fun σ' H' h => h, ?_⟩
      refine ⟨_, rfl, _, rfl, _, rfl, a, f, s, t, rfl, hS.seq hl, wf, hs, ht, fun H2 s2 => ?_⟩
      have hp2 := s2 _ _ hp
      refine ⟨_, rfl, .inl ⟨rfl, _, .inl (.inl hp2)⟩, _, rfl, p, _, _, rfl, rfl, hp2, ?_, ?_⟩
      · rw [List.length_map]
        exact Nat.lt_of_le_of_lt (by omega : tk.length ≤ 5) (by decide)
      refine ⟨_, rfl, _, rfl, t, rfl, mt.1.1, by omega, _, _, rfl, rfl, ?_⟩
      have hw := out_with f.many (by omega) s hs t (by omega) mt.1.1 mt.2
      refine ⟨min k f.many - (tk.length + 1), by omega, tk ++ [t], with_ s t, by rw [List.length_append]; rfl, by rw [List.length_append]; exact c, ?_, same_upd np (hS.trans s2), with_lt f.many (by omega) s hs t (by omega) mt.1.1, ?_, ?_, some (nV t), ?_⟩
      · rw [upd_same, List.map_append]; rfl
      · rw [List.length_append, List.append_assoc, ← hg]
        congr 1
        have em : min k f.many - tk.length = (min k f.many - (tk.length + 1)) + 1 := by omega
        rw [em]
        show [t] ++ _ = (match Dr04.next f s with | none => [] | some i => i :: Dr04.greed f (min k f.many - (tk.length + 1)) (with_ s i))
        rw [ht]
        rfl
      · rw [List.length_append]
        show _ + (tk.length + 1) = _
        omega
      · exact congrArg (fun z => [some (nV f.many), some (V.ref a), some (nV k), some (V.ref p), some (V.int z), some (nV t)]) (or_with (lt32 h5 hs) (by omega : t ≤ 5))
    · refine if_f (decide_eq_false (by omega)) ?_
      have e0 : min k f.many - tk.length = 0 := by omega
      rw [e0] at hg
      refine ⟨_, rfl, q H' p hS np ?_⟩
      rw [hp, ← hg]
      show some (HO.lst (tk.map nV)) = some (HO.lst ((tk ++ []).map nV))
      rw [List.append_nil]
end
end Cw
set_option Elab.async false
set_option maxRecDepth 100000
set_option maxHeartbeats 2000000
set_option linter.all false
namespace Cw
open PySem PySem.Spec PyProof.Rows L2
open Dr01 (has with_ without val brings)
open C8 (Cal Met Mak cal0 met0 mak0 pe_c pe_mt pe_mt0 pe_gc fnScope_by scC)
theorem range_getD {α : Type} (g : Nat → α) : ∀ (zs : List Nat), (List.range zs.length).map (fun i => g (zs.getD i 0)) = zs.map g
  | [] => rfl
  | z :: zs => by
    rw [List.length_cons, List.range_succ_eq_map, List.map_cons, List.map_map, List.map_cons, ← range_getD g zs]
    rfl
theorem getD_of {zs : List Nat} {i : Nat} {z : Nat} (h : zs[i]? = some z) : zs.getD i 0 = z := by
  rw [List.getD_eq_getElem?_getD, h]; rfl
/-! ### within a comprehension the written part is told by name -/
theorem lenK {X : Cx} {K : PySem.W.Frag} (h : X.K = K) : CallR X (.builtin "len") (fun xs H Q => ∃ p ys, xs = [.ref p] ∧ (SqL K H p ys ∨ SqT K H p ys) ∧ Q (.int ys.length) H) := h ▸ call_len_seq
theorem fldK {X : Cx} {K : PySem.W.Frag} (h : X.K = K) {e : Expr} {f : Str} {pos : Pos} {ta : TE} (he : PE X e ta) (hb : attributeBase e f X.env (eval e X.env) = eval e X.env) : PE X (.Attribute e f pos) (tFld K ta f) := h ▸ pe_fld he hb
theorem cast_sum : ∀ l : List Nat, (l.map fun (z : Nat) => (z : Int)).sum = ((l.sum : Nat) : Int)
  | [] => rfl
  | z :: l => by
    rw [List.map_cons, List.sum_cons, List.sum_cons, cast_sum l]
    omega
theorem givesL_new {H : Hp} {Q : VK} {xs : List V} (q : GivesL H Q xs) {p : Addr} {H1 : Hp} (s : Same H H1) (np : H1 p = none) : Q (.ref p) (upd H1 p (.lst xs)) :=
  q _ p (same_upd (s.free np) s) (s.free np) upd_same
theorem givesL_mono {H H1 : Hp} {Q : VK} {xs : List V} (q : GivesL H Q xs) (s : Same H H1) : GivesL H1 Q xs := fun H' p s' np hp => q H' p (s.trans s') (s.free np) hp

theorem filt_getD {α : Type} (q : Nat → Bool) (g : Nat → α) (l : List Nat) : ((List.range l.length).filter fun i => q (l.getD i 0)).map (fun i => g (l.getD i 0)) = (l.filter q).map g := by
  have e := range_getD (fun z => z) l
  rw [List.map_id'] at e
  have : (l.filter q).map g = (((List.range l.length).map fun i => l.getD i 0).filter q).map g := by rw [e]
  rw [this, List.filter_map, List.map_map]
  rfl
theorem at_pred {l : List Nat} {z : Nat} (d : Nat) (h : 1 ≤ z ∧ z ≤ l.length) : atI (l.map nV) ((z : Int) - 1) = some (nV (l.getD (z - 1) d)) := by
  have e : (z : Int) - 1 = ((z - 1 : Nat) : Int) := by omega
  have hz : z - 1 < l.length := by omega
  rw [e]
  refine atI_nat ?_
  rw [List.getElem?_map, List.getElem?_eq_getElem hz, List.getD_eq_getElem?_getD, List.getElem?_eq_getElem hz]
  rfl
theorem mem_take_more {l : List Nat} {i x z : Nat} (h : l[i]? = some z) (m : x ∈ l.take (i + 1)) : x ∈ l.take i ∨ x = z := by
  rw [take_more h, List.mem_append] at m
  rcases m with m | m
  · exact .inl m
  · exact .inr (by simpa using m)
set_option synthInstance.maxHeartbeats 400000 in
set_option synthInstance.maxSize 4000 in
theorem has_le : ∀ (s : Nat), s < 32 → ∀ (i : Nat), i < 6 → has s i = true → 2 ^ (i - 1) ≤ s := by decide +kernel
section
variable {P : Program} {w : World} {K : PySem.W.Frag} {mg : Str → Option Value} {base : Heap}
/-! ### prices_fit -/
abbrev sPrices : Stmt := top 32
def pricesOk (n : Nat) (p : List Nat) : Bool := p.length == n && p.all fun z => decide (1 ≤ z) && decide (z ≤ 1000)
theorem isPrices_is (d : Dr04.St) (p : List Nat) : Dr04.isPrices d p = pricesOk d.fun_.many p := rfl
def spPrices (K : PySem.W.Frag) : Sp := fun vs H Q _ => ∃ (a : Addr) (n : Nat) (p : List Nat), vs = [nV n, .ref a] ∧ SqL K H a (p.map nV) ∧ 1 ≤ n ∧ Q (.bl (pricesOk n p)) H
theorem ok_prices {f : Addr} {fd : FuncData} (g : Gs mg) (c : Cs K mg) (D : C8.Def K mg "prices_fit" sPrices f fd) (b : Binds K fd ["n", "prices"] []) : Cal P w K mg base 1 "prices_fit" (spPrices K) [] := by
  refine cal0 D b .nil (N := ["n", "prices"]) (fnScope_by (by decide +kernel)) (fun vs H Q E h => ?_) (fun cdv A outer s0 H vs Q E hr h => ?_)
  · obtain ⟨a, n, p, rfl, _⟩ := h; rfl
  · obtain ⟨a, n, p, rfl, hl, hn, q⟩ := h
    refine ⟨_, pss_one (ps_ret (pe_and (pe_cmpR op_eq (pe_callB call_len_seq (by rfl) g.len PySem.boot_len (pa_cons (pv 1) pa_nil)) (pv 0) (nomark _))
      (pe_and (pe_cmpR op_ge (pe_callB (cr_min rfl) (by rfl) g.min boot_min (pa_cons (pv 1) pa_nil)) pe_int (nomark _))
      (pe_one (pe_cmpR op_le (pe_callB (cr_max rfl) (by rfl) g.max boot_max (pa_cons (pv 1) pa_nil)) (pe_gc (by rfl) c.mostPrice) (nomark _)))))), ?_⟩
    refine ⟨_, rfl, a, _, rfl, .inl hl, _, rfl, rfl, _, rfl, ?_⟩
    rw [List.length_map]
    by_cases e : p.length = n
    case neg =>
      refine if_f (decide_eq_false fun z => e (by injection z; omega)) ?_
      have : pricesOk n p = false := by
        unfold pricesOk
        rw [beq_eq_false_iff_ne.mpr e, Bool.false_and]
      rw [this] at q
      exact q
    refine if_t (decide_eq_true (congrArg nV e)) ?_
    have hpos : 0 < (p.map fun (z : Nat) => (z : Int)).length := by rw [List.length_map]; omega
    refine ⟨_, rfl, a, p.map fun (z : Nat) => (z : Int), rfl, by rw [← map_nV]; exact hl, hpos, fun m hm ha => ⟨_, _, rfl, rfl, _, rfl, ?_⟩⟩
    rw [List.mem_map] at hm
    obtain ⟨z, hz, rfl⟩ := hm
    have ek : pricesOk n p = p.all fun z => decide (1 ≤ z) && decide (z ≤ 1000) := by
      unfold pricesOk
      rw [beq_iff_eq.mpr e, Bool.true_and]
    rw [ek] at q
    by_cases c1 : 1 ≤ z
    case neg =>
      refine if_f (decide_eq_false (by omega)) ?_
      have : (p.all fun z => decide (1 ≤ z) && decide (z ≤ 1000)) = false := all_not hz (by rw [decide_eq_false c1, Bool.false_and])
      rw [this] at q
      exact q
    refine if_t (decide_eq_true (by omega)) ?_
    refine ⟨_, rfl, a, p.map fun (z : Nat) => (z : Int), rfl, by rw [← map_nV]; exact hl, hpos, fun m hm hb => ⟨_, _, rfl, rfl, ?_⟩⟩
    rw [List.mem_map] at hm
    obtain ⟨y, hy, rfl⟩ := hm
    have ev : (p.all fun z => decide (1 ≤ z) && decide (z ≤ 1000)) = decide ((y : Int) ≤ 1000) := by
      by_cases c2 : y ≤ 1000
      · rw [decide_eq_true (by omega), List.all_eq_true]
        intro x hx
        have h1 := ha x (List.mem_map.mpr ⟨x, hx, rfl⟩)
        have h2 := hb x (List.mem_map.mpr ⟨x, hx, rfl⟩)
        rw [decide_eq_true (by omega), decide_eq_true (by omega)]; rfl
      · rw [decide_eq_false (by omega)]
        exact all_not hy (by rw [decide_eq_false c2, Bool.and_false])
    rw [ev] at q
    exact q
/-! ### sets_up_to -/
abbrev sSets : Stmt := top 35
def setsTo (n k : Nat) : List Nat := (List.range (2 ^ n)).filter fun s => decide ((ins n s).length ≤ k)
def spSets : Sp := fun vs H Q _ => ∃ n k : Nat, vs = [nV n, nV k] ∧ (1 ≤ n ∧ n ≤ 5) ∧ GivesL H Q ((setsTo n k).map nV)
theorem ok_sets {f : Addr} {fd : FuncData} (g : Gs mg) (c : Cs K mg) (cWithin : Cal P w K mg base 2 "things_within" spWithin []) (D : C8.Def K mg "sets_up_to" sSets f fd) (b : Binds K fd ["n", "k"] []) : Cal P w K mg base 3 "sets_up_to" spSets [] := by
  have sc : FnScope ["n", "k", "s"] ["n", "k"] (C8.fnScope sSets) := fnScope_by (by decide +kernel)
  refine cal0 D b .nil (N := ["n", "k", "s"]) sc (fun vs H Q E h => ?_) (fun cdv A outer s0 H vs Q E hr h => ?_)
  · obtain ⟨n, k, rfl, _⟩ := h; rfl
  · obtain ⟨n, k, rfl, hn, q⟩ := h
    obtain ⟨ac, hc, hsc, _⟩ := c.counts
    refine ⟨_, pss_one (ps_ret (pe_lc (own := [("s", 2)]) (g := gName 2) rfl sc.nd
      (pi_range1 (by rfl) g.rng (pa_cons (pe_ix ix_tup (pe_gc (by rfl) hc) (pe_op op_sub (pv 0) pe_int) (fun _ _ => rfl)) pa_nil))
      (blkOk_by (N := ["n", "k", "s"]) (sc := C8.fnScope sSets) (by decide +kernel)) (fun _ _ _ _ _ => pg_name (i := 2) sc.nd rfl (Or.inl rfl))
      (fun _ _ _ _ _ => pts_one (pt_cmpR op_le (pe_callB (lenK (K := K) rfl) (by rfl) g.len PySem.boot_len (pa_cons (pe_c cWithin hr (by decide) (by rfl) (pa_cons (pv 0) (pa_cons (pv 2) pa_nil))) pa_nil)) (pv 1) (nomark _)))
      (fun _ _ _ _ _ => pv 2))), ?_⟩
    have h5 := hn.2
    have h32 := pow_le h5
    refine ⟨_, rfl, _, _, rfl, rfl, ac, _, _, nV (2 ^ n), rfl, rfl, hsc H, counts_at n (by omega) hn.1, ((2 ^ n : Nat) : Int), rfl, Int.le_trans (by decide) (Int.natCast_nonneg _), Int.lt_of_le_of_lt (Int.ofNat_le.mpr h32) (by decide), fun D hD => ?_⟩
    rw [Int.toNat_natCast]
    refine lc_w walk_range (fun s => decide ((ins n s).length ≤ k)) nV (Nat.lt_of_le_of_lt h32 (by decide)) hD (fun _ _ => trivial) (fun i x H1 H2 hi hS y acc hA Nx hn hy => ?_) (fun H' hS hA => ?_)
    · obtain ⟨rfl, hx⟩ := y
      replace hx : x = nV i := hx.trans (congrArg V.int (by omega : (0 : Int) + (i : Int) = (i : Int)))
      subst hx
      refine ⟨rfl, _, rfl, _, rfl, n, i, rfl, h5, lt32 h5 hi, fun H5 p5 s5 np5 hp5 => ?_⟩
      refine ⟨p5, _, rfl, .inl (.inl (.inl hp5)), _, rfl, _, _, rfl, rfl, _, rfl, ?_⟩
      rw [List.length_map]
      by_cases z : (ins n i).length ≤ k
      · exact if_t (decide_eq_true (Int.ofNat_le.mpr z)) ⟨_, rfl, hy (decide_eq_true z) _ s5⟩
      · exact if_f (decide_eq_false (fun y => z (Int.ofNat_le.mp y))) (hn (decide_eq_false z) _ s5)
    · exact q H' D hS hD hA
/-! ### changed -/
abbrev sChanged : Stmt := top 39
def spChanged (K : PySem.W.Frag) : Sp := fun vs H Q _ => ∃ (a : Addr) (s i j : Nat), vs = [nV s, .ref a] ∧ SqL K H a [nV i, nV j] ∧ s < 32 ∧ ((1 ≤ i ∧ i ≤ 5) ∧ (1 ≤ j ∧ j ≤ 5)) ∧ (has s i = true ∧ has s j = false) ∧ Q (nV (swap s i j)) H
theorem swap_int {s i j : Nat} (hs : s < 32) (hi : (1 ≤ i ∧ i ≤ 5) ∧ (1 ≤ j ∧ j ≤ 5)) (h : has s i = true ∧ has s j = false) : (s : Int) - ((2 ^ (i - 1) : Nat) : Int) + ((2 ^ (j - 1) : Nat) : Int) = ((swap s i j : Nat) : Int) := by
  have e := swap_sub s hs i (by omega) j (by omega) ⟨⟨hi.1.1, hi.2.1⟩, h⟩
  have l := has_le s hs i (by omega) h.1
  rw [← e]
  generalize 2 ^ (i - 1) = x at *
  generalize 2 ^ (j - 1) = y at *
  omega
theorem ok_changed {f : Addr} {fd : FuncData} (cOnly : Cal P w K mg base 1 "only" spOnly []) (D : C8.Def K mg "changed" sChanged f fd) (b : Binds K fd ["s", "change"] []) : Cal P w K mg base 2 "changed" (spChanged K) [] := by
  refine cal0 D b .nil (N := ["s", "change"]) (fnScope_by (by decide +kernel)) (fun vs H Q E h => ?_) (fun cdv A outer s0 H vs Q E hr h => ?_)
  · obtain ⟨a, s, i, j, rfl, _⟩ := h; rfl
  · obtain ⟨a, s, i, j, rfl, hl, hs, hij, hh, q⟩ := h
    refine ⟨_, pss_one (ps_ret (pe_op op_add (pe_op op_sub (pv 0) (pe_c cOnly hr (by decide) (by rfl) (pa_cons (pe_ix ix_list (pv 1) pe_int (fun _ _ => rfl)) pa_nil))) (pe_c cOnly hr (by decide) (by rfl) (pa_cons (pe_ix ix_list (pv 1) pe_int (fun _ _ => rfl)) pa_nil)))), ?_⟩
    refine ⟨_, rfl, _, rfl, a, _, _, nV i, rfl, rfl, hl, atI_nat (j := 0) rfl, i, rfl, hij.1.1, hij.1.2, _, _, rfl, rfl, _, rfl, a, _, _, nV j, rfl, rfl, hl, atI_nat (j := 1) rfl, j, rfl, hij.2.1, hij.2.2, _, _, rfl, rfl, ?_⟩
    show Q (.int ((s : Int) - ((2 ^ (i - 1) : Nat) : Int) + ((2 ^ (j - 1) : Nat) : Int))) H
    rw [swap_int hs hij hh]
    exact q
/-! ### first_better_change -/
abbrev sFirst : Stmt := top 40
def pairV : Option (Nat × Nat) → List V
  | none => []
  | some p => [nV p.1, nV p.2]
def spFirst (K : PySem.W.Frag) : Sp := fun vs H Q _ => ∃ (a : Addr) (f : Dr01.Fun) (s : Nat), vs = [nV f.many, .ref a, nV s] ∧ SqL K H a (f.vals.map V.int) ∧ Wf f ∧ s < 2 ^ f.many ∧ GivesL H Q (pairV (Dr04.better f s))
theorem ok_first {f : Addr} {fd : FuncData} (cWithin : Cal P w K mg base 2 "things_within" spWithin []) (cOut : Cal P w K mg base 2 "things_outside" spOutside []) (cChanged : Cal P w K mg base 2 "changed" (spChanged K) [])
    (D : C8.Def K mg "first_better_change" sFirst f fd) (b : Binds K fd ["n", "worth", "s"] []) : Cal P w K mg base 3 "first_better_change" (spFirst K) [] := by
  have sc : FnScope ["n", "worth", "s", "goes", "comes", "change"] ["n", "worth", "s"] (C8.fnScope sFirst) := fnScope_by (by decide +kernel)
  refine cal0 D b .nil (N := ["n", "worth", "s", "goes", "comes", "change"]) sc (fun vs H Q E h => ?_) (fun cdv A outer s0 H vs Q E hr h => ?_)
  · obtain ⟨a, f, s, rfl, _⟩ := h; rfl
  · obtain ⟨a, f, s, rfl, hl, wf, hs, q⟩ := h
    have h5 := wf.hi
    have hs32 := lt32 h5 hs
    refine ⟨_, pss_cons (ps_for PassesOwn.never rfl (pi_list (pe_c cWithin hr (by decide) (by rfl) (pa_cons (pv 0) (pa_cons (pv 2) pa_nil)))) (pg_name (i := 3) sc.nd rfl (Or.inl rfl))
        (pss_one (ps_for PassesOwn.never rfl (pi_list (pe_c cOut hr (by decide) (by rfl) (pa_cons (pv 0) (pa_cons (pv 2) pa_nil)))) (pg_name (i := 4) sc.nd rfl (Or.inl rfl))
          (pss_cons (ps_set (i := 5) sc.nd rfl (Or.inl rfl) (pe_lst (pa_cons (pv 3) (pa_cons (pv 4) pa_nil))))
          (pss_one (ps_if (pt_cmpR op_gt (pe_ix ix_list (pv 1) (pe_c cChanged hr (by decide) (by rfl) (pa_cons (pv 2) (pa_cons (pv 5) pa_nil))) (fun _ _ => rfl)) (pe_ix ix_list (pv 1) (pv 2) (fun _ _ => rfl)) (nomark _)) (pss_one (ps_ret (pv 5))) pss_nil))))))
      (pss_one (ps_ret (pe_lst pa_nil))), ?_⟩
    refine ⟨_, rfl, _, rfl, f.many, s, rfl, h5, hs32, fun H1 p s1 np hp => ?_⟩
    refine ⟨p, rfl, ⟨_, .inl (.inl hp)⟩, for_list (K := K) (a := p) (xs := (ins f.many s).map nV) (fun i σ H' => Same H1 H' ∧ (∃ v3 v4 v5, σ = [some (nV f.many), some (.ref a), some (nV s), v3, v4, v5]) ∧ ∀ x ∈ (ins f.many s).take i, ∀ y ∈ out f.many s, good f s x y = false)
      ⟨Same.refl _, ⟨none, none, none, rfl⟩, fun x m => nomatch m⟩ (fun i σ H' _ h => .inl (.inl (h.1 _ _ hp))) ?_ ?_⟩
    · rintro i x σ H' hx ⟨sH, ⟨v3, v4, v5, rfl⟩, hno⟩
      obtain ⟨t, ht, rfl⟩ := get_map hx
      have mt := mem_ins.mp (List.mem_of_getElem? ht)
      refine ⟨_, rfl, _, rfl, f.many, s, rfl, h5, hs32, fun H2 p2 s2 np2 hp2 => ?_⟩
      refine ⟨p2, rfl, ⟨_, .inl (.inl hp2)⟩, for_list (K := K) (a := p2) (xs := (out f.many s).map nV) (fun j σ H' => Same H2 H' ∧ (∃ v4 v5, σ = [some (nV f.many), some (.ref a), some (nV s), some (nV t), v4, v5]) ∧ ∀ y ∈ (out f.many s).take j, good f s t y = false)
        ⟨Same.refl _, ⟨v4, v5, rfl⟩, fun x m => nomatch m⟩ (fun i σ H' _ h => .inl (.inl (h.1 _ _ hp2))) ?_ ?_⟩
      · rintro j y σ H3 hy ⟨s3, ⟨v4, v5, rfl⟩, hno2⟩
        obtain ⟨u, hu, rfl⟩ := get_map hy
        have mu := mem_out.mp (List.mem_of_getElem? hu)
        have sH3 : Same H H3 := ((s1.trans sH).trans s2).trans s3
        refine ⟨_, rfl, _, rfl, (by show 2 ≤ sizeLine; decide), fun r nr => ?_⟩
        have s4 : Same H (upd H3 r (.lst [nV t, nV u])) := same_upd (sH3.free nr) sH3
        have hlt := swap_lt f.many (by omega) s hs t (by omega) u (by omega) mu.1.1
        refine ⟨_, rfl, _, rfl, _, rfl, r, s, t, u, rfl, .inl (.inl upd_same), hs32, ⟨⟨mt.1.1, by omega⟩, ⟨mu.1.1, by omega⟩⟩, ⟨mt.2, mu.2⟩, a, _, _, V.int (val f (swap s t u)), rfl, rfl, s4.seq hl, at_val wf hlt, _, rfl, _, rfl, a, _, _, _, rfl, rfl, s4.seq hl, at_val wf hs, _, _, rfl, rfl, _, rfl, ?_⟩
        by_cases c : val f s < val f (swap s t u)
        · refine if_t (decide_eq_true c) ⟨_, rfl, ?_⟩
          rw [better_at ht hu (decide_eq_true c) hno hno2] at q
          exact q _ r s4 (sH3.free nr) upd_same
        · refine if_f (decide_eq_false c) ⟨same_upd (s3.free nr) s3, ⟨_, _, rfl⟩, fun y m => ?_⟩
          rcases mem_take_more hu m with m | rfl
          · exact hno2 y m
          · exact decide_eq_false c
      · rintro σ H3 ⟨s3, ⟨v4, v5, rfl⟩, hno2⟩
        rw [List.length_map, List.take_length] at hno2
        refine ⟨(sH.trans s2).trans s3, ⟨_, _, _, rfl⟩, fun x m => ?_⟩
        rcases mem_take_more ht m with m | rfl
        · exact hno x m
        · exact hno2
    · rintro σ H' ⟨sH, ⟨v3, v4, v5, rfl⟩, hno⟩
      rw [List.length_map, List.take_length] at hno
      rw [better_none hno] at q
      exact ⟨(by show 0 ≤ sizeLine; decide), fun r nr => givesL_new q (s1.trans sH) nr⟩
end
end Cw
set_option Elab.async false
set_option maxRecDepth 100000
set_option maxHeartbeats 2000000
set_option linter.all false
namespace Cw
open PySem PySem.Spec PyProof.Rows L2
open Dr01 (has with_ without val brings)
open C8 (Cal Met Mak cal0 met0 mak0 pe_c pe_mt pe_mt0 pe_gc fnScope_by scC)
theorem ins_lt {n s : Nat} : ∀ z ∈ ins n s, 1 ≤ z ∧ z ≤ n := fun z m => (mem_ins.mp m).1
section
variable {P : Program} {w : World} {K : PySem.W.Frag} {mg : Str → Option Value} {base : Heap}
/-! ### price_of -/
abbrev sPriceOf : Stmt := top 41
def spPriceOf (K : PySem.W.Frag) : Sp := fun vs H Q _ => ∃ (a : Addr) (p : List Nat) (s : Nat), vs = [.ref a, nV s] ∧ SqL K H a (p.map nV) ∧ p.length ≤ 5 ∧ s < 32 ∧ Gives H Q (nV (costs p (ins p.length s)))
theorem ok_priceOf {f : Addr} {fd : FuncData} (g : Gs mg) (cWithin : Cal P w K mg base 2 "things_within" spWithin []) (D : C8.Def K mg "price_of" sPriceOf f fd) (b : Binds K fd ["prices", "s"] []) : Cal P w K mg base 3 "price_of" (spPriceOf K) [] := by
  have sc : FnScope ["prices", "s", "thing"] ["prices", "s"] (C8.fnScope sPriceOf) := fnScope_by (by decide +kernel)
  refine cal0 D b .nil (N := ["prices", "s", "thing"]) sc (fun vs H Q E h => ?_) (fun cdv A outer s0 H vs Q E hr h => ?_)
  · obtain ⟨a, p, s, rfl, _⟩ := h; rfl
  · obtain ⟨a, p, s, rfl, hl, h5, hs, q⟩ := h
    refine ⟨_, pss_one (ps_ret (pe_callB (cr_sum rfl) (by rfl) g.sum boot_sum (pa_cons (pe_lc (own := [("thing", 2)]) (g := gName 2) rfl sc.nd
      (pi_list (pe_c cWithin hr (by decide) (by rfl) (pa_cons (pe_callB call_len_seq (by rfl) g.len PySem.boot_len (pa_cons (pv 0) pa_nil)) (pa_cons (pv 1) pa_nil))))
      (blkOk_by (N := ["prices", "s", "thing"]) (sc := C8.fnScope sPriceOf) (by decide +kernel)) (fun _ _ _ _ _ => pg_name (i := 2) sc.nd rfl (Or.inl rfl)) (fun _ _ _ _ _ => pts_nil)
      (fun _ _ _ _ _ => pe_ix (ixl (K := K) rfl) (pv 0) (pe_op op_sub (pv 2) pe_int) (fun _ _ => rfl))) pa_nil))), ?_⟩
    have ep : (p.map nV).length = p.length := List.length_map ..
    refine ⟨_, rfl, a, _, rfl, .inl hl, _, rfl, p.length, s, congrArg (fun z : Nat => [V.int (z : Int), nV s]) ep, h5, hs, fun H1 t s1 nt ht => ?_⟩
    refine ⟨t, rfl, ⟨_, .inl (.inl ht)⟩, fun D hD => ?_⟩
    have il := ins_len p.length s
    have hmem := ins_lt (n := p.length) (s := s)
    generalize ins p.length s = l at *
    have el : (l.map nV).length = l.length := List.length_map ..
    refine lc_w (walk_list (xs := l.map nV)) (fun _ => true) (fun i => nV (p.getD (l.getD i 0 - 1) 0)) (by rw [el]; exact Nat.lt_of_le_of_lt (by omega : _ ≤ 5) (by decide)) hD (fun H' s' => .inl (.inl (s' _ _ ht))) (fun i x H2 H3 hi hS y acc hA Nx hn hy => ?_) (fun H' hS hA => ?_)
    · obtain ⟨rfl, hx⟩ := y
      obtain ⟨z, hz, rfl⟩ := get_map hx
      have mz := hmem z (List.mem_of_getElem? hz)
      have := hy rfl _ (Same.refl _)
      rw [getD_of hz] at this
      exact ⟨rfl, _, rfl, _, rfl, _, _, rfl, rfl, a, _, _, nV (p.getD (z - 1) 0), rfl, rfl, hS.seq (s1.seq hl), at_pred 0 mz, this⟩
    · rw [filt_all, el, range_getD (fun z => nV (p.getD (z - 1) 0))] at hA
      refine ⟨D, (l.map fun z => p.getD (z - 1) 0).map fun (z : Nat) => (z : Int), rfl, .inl (.inl ?_), ?_⟩
      · rw [hA, ← map_nV, List.map_map]; rfl
      · rw [cast_sum]
        exact q H' (s1.trans hS)
/-! ### paid_with -/
abbrev sPaid : Stmt := top 42
def paid (b : Nat) (p l : List Nat) : List Nat := l.filter fun s => decide (costs p (ins p.length s) ≤ b)
def spPaid (K : PySem.W.Frag) : Sp := fun vs H Q _ => ∃ (a c : Addr) (b : Nat) (p l : List Nat), vs = [nV b, .ref a, .ref c] ∧ SqL K H a (p.map nV) ∧ SqL K H c (l.map nV) ∧ p.length ≤ 5 ∧ l.length ≤ 32 ∧ (∀ s ∈ l, s < 32) ∧ GivesL H Q ((paid b p l).map nV)
theorem ok_paid {f : Addr} {fd : FuncData} (cPrice : Cal P w K mg base 3 "price_of" (spPriceOf K) []) (D : C8.Def K mg "paid_with" sPaid f fd) (b : Binds K fd ["b", "prices", "sets"] []) : Cal P w K mg base 4 "paid_with" (spPaid K) [] := by
  have sc : FnScope ["b", "prices", "sets", "s"] ["b", "prices", "sets"] (C8.fnScope sPaid) := fnScope_by (by decide +kernel)
  refine cal0 D b .nil (N := ["b", "prices", "sets", "s"]) sc (fun vs H Q E h => ?_) (fun cdv A outer s0 H vs Q E hr h => ?_)
  · obtain ⟨a, c, b, p, l, rfl, _⟩ := h; rfl
  · obtain ⟨a, c, b, p, l, rfl, hl, hc, h5, hll, hlt, q⟩ := h
    refine ⟨_, pss_one (ps_ret (pe_lc (own := [("s", 3)]) (g := gName 3) rfl sc.nd (pi_list (pv 2))
      (blkOk_by (N := ["b", "prices", "sets", "s"]) (sc := C8.fnScope sPaid) (by decide +kernel)) (fun _ _ _ _ _ => pg_name (i := 3) sc.nd rfl (Or.inl rfl))
      (fun _ _ _ _ _ => pts_one (pt_cmpR op_le (pe_c cPrice hr (by decide) (by rfl) (pa_cons (pv 1) (pa_cons (pv 3) pa_nil))) (pv 0) (nomark _)))
      (fun _ _ _ _ _ => pv 3))), ?_⟩
    refine ⟨_, rfl, c, rfl, ⟨_, hc⟩, fun D hD => ?_⟩
    have el : (l.map nV).length = l.length := List.length_map ..
    refine lc_w (walk_list (xs := l.map nV)) (fun i => decide (costs p (ins p.length (l.getD i 0)) ≤ b)) (fun i => nV (l.getD i 0)) (by rw [el]; exact Nat.lt_of_le_of_lt hll (by decide)) hD (fun H' s' => s'.seq hc) (fun i x H2 H3 hi hS y acc hA Nx hn hy => ?_) (fun H' hS hA => ?_)
    · obtain ⟨rfl, hx⟩ := y
      obtain ⟨z, hz, rfl⟩ := get_map hx
      have mz := hlt z (List.mem_of_getElem? hz)
      rw [getD_of hz] at hn hy
      refine ⟨rfl, _, rfl, _, rfl, a, p, z, rfl, hS.seq hl, h5, mz, fun H5 s5 => ?_⟩
      refine ⟨_, rfl, _, _, rfl, rfl, _, rfl, ?_⟩
      by_cases c : costs p (ins p.length z) ≤ b
      · exact if_t (decide_eq_true (Int.ofNat_le.mpr c)) ⟨_, rfl, hy (decide_eq_true c) _ s5⟩
      · exact if_f (decide_eq_false (fun y => c (Int.ofNat_le.mp y))) (hn (decide_eq_false c) _ s5)
    · refine q H' D hS hD ?_
      rw [hA, el]
      exact congrArg (fun z => some (HO.lst z)) (filt_getD (fun s => decide (costs p (ins p.length s) ≤ b)) nV l)
/-! ### things_still_paid -/
abbrev sStill : Stmt := top 43
def spStill (K : PySem.W.Frag) : Sp := fun vs H Q _ => ∃ (a : Addr) (b : Nat) (p : List Nat) (f : Dr01.Fun) (s : Nat), vs = [nV b, .ref a, nV s] ∧ SqL K H a (p.map nV) ∧ Wf f ∧ p.length = f.many ∧ s < 2 ^ f.many ∧ GivesL H Q ((aff f p b s).map nV)
theorem ok_still {f : Addr} {fd : FuncData} (g : Gs mg) (cOut : Cal P w K mg base 2 "things_outside" spOutside []) (cPrice : Cal P w K mg base 3 "price_of" (spPriceOf K) []) (D : C8.Def K mg "things_still_paid" sStill f fd) (b : Binds K fd ["b", "prices", "s"] []) : Cal P w K mg base 4 "things_still_paid" (spStill K) [] := by
  have sc : FnScope ["b", "prices", "s", "left", "thing"] ["b", "prices", "s"] (C8.fnScope sStill) := fnScope_by (by decide +kernel)
  refine cal0 D b .nil (N := ["b", "prices", "s", "left", "thing"]) sc (fun vs H Q E h => ?_) (fun cdv A outer s0 H vs Q E hr h => ?_)
  · obtain ⟨a, b, p, f, s, rfl, _⟩ := h; rfl
  · obtain ⟨a, b, p, f, s, rfl, hl, wf, hpl, hs, q⟩ := h
    have h5 := wf.hi
    have hs32 := lt32 h5 hs
    refine ⟨_, pss_cons (ps_set (i := 3) sc.nd rfl (Or.inr rfl) (pe_op op_sub (pv 0) (pe_c cPrice hr (by decide) (by rfl) (pa_cons (pv 1) (pa_cons (pv 2) pa_nil)))))
      (pss_one (ps_ret (pe_lc (own := [("thing", 4)]) (g := gName 4) rfl sc.nd
        (pi_list (pe_c cOut hr (by decide) (by rfl) (pa_cons (pe_callB call_len_seq (by rfl) g.len PySem.boot_len (pa_cons (pv 1) pa_nil)) (pa_cons (pv 2) pa_nil))))
        (blkOk_by (N := ["b", "prices", "s", "left", "thing"]) (sc := C8.fnScope sStill) (by decide +kernel)) (fun _ _ _ _ _ => pg_name (i := 4) sc.nd rfl (Or.inl rfl))
        (fun _ _ _ _ _ => pts_one (pt_cmpR op_le (pe_ix (ixl (K := K) rfl) (pv 1) (pe_op op_sub (pv 4) pe_int) (fun _ _ => rfl)) (pv 3) (nomark _)))
        (fun _ _ _ _ _ => pv 4)))), ?_⟩
    have ep : (p.map nV).length = f.many := (List.length_map ..).trans hpl
    refine ⟨_, rfl, _, rfl, _, rfl, a, p, s, rfl, hl, by omega, hs32, fun H0 s0 => ⟨_, _, rfl, rfl, ?_⟩⟩
    refine ⟨_, rfl, a, _, rfl, .inl (s0.seq hl), _, rfl, f.many, s, congrArg (fun z : Nat => [V.int (z : Int), nV s]) ep, h5, hs32, fun H1 t s1 nt ht => ?_⟩
    refine ⟨t, rfl, ⟨_, .inl (.inl ht)⟩, fun D hD => ?_⟩
    have ol := out_len f.many s
    have el : ((out f.many s).map nV).length = (out f.many s).length := List.length_map ..
    have pr : Dr04.price p f s = costs p (ins p.length s) := by rw [price_is, hpl]
    refine lc_w (walk_list (xs := (out f.many s).map nV)) (fun i => decide (Dr04.price p f (with_ s ((out f.many s).getD i 0)) ≤ b)) (fun i => nV ((out f.many s).getD i 0)) (by rw [el]; exact Nat.lt_of_le_of_lt (by omega : _ ≤ 5) (by decide)) hD (fun H' s' => .inl (.inl (s' _ _ ht))) (fun i x H2 H3 hi hS y acc hA Nx hn hy => ?_) (fun H' hS hA => ?_)
    · obtain ⟨rfl, hx⟩ := y
      obtain ⟨z, hz, rfl⟩ := get_map hx
      have mz := mem_out.mp (List.mem_of_getElem? hz)
      rw [getD_of hz] at hn hy
      have pw := price_with (p := p) wf hs mz.1 mz.2
      refine ⟨rfl, _, rfl, _, rfl, _, _, rfl, rfl, a, _, _, nV (p.getD (z - 1) 0), rfl, rfl, hS.seq (s1.seq (s0.seq hl)), at_pred 0 (by omega), _, rfl, _, _, rfl, rfl, _, rfl, ?_⟩
      by_cases c : Dr04.price p f (with_ s z) ≤ b
      · exact if_t (decide_eq_true (by omega)) ⟨_, rfl, hy (decide_eq_true c) _ (Same.refl _)⟩
      · exact if_f (decide_eq_false (by omega)) (hn (decide_eq_false c) _ (Same.refl _))
    · refine q H' D ((s0.trans s1).trans hS) ((s0.trans s1).free hD) ?_
      rw [hA, el]
      exact congrArg (fun z => some (HO.lst z)) (filt_getD (fun i => decide (Dr04.price p f (with_ s i) ≤ b)) nV (out f.many s))
/-! ### brings_more_for_price -/
abbrev sMoreFor : Stmt := top 44
def spMoreFor (K : PySem.W.Frag) : Sp := fun vs H Q _ => ∃ (a c : Addr) (f : Dr01.Fun) (p : List Nat) (s t u : Nat), vs = [.ref a, .ref c, nV s, nV t, nV u] ∧ SqL K H a (f.vals.map V.int) ∧ SqL K H c (p.map nV) ∧ Wf f ∧ p.length = f.many ∧ s < 2 ^ f.many ∧ (1 ≤ t ∧ t ≤ f.many) ∧ (1 ≤ u ∧ u ≤ f.many) ∧
  Q (.bl (decide (brings f s u * (p.getD (t - 1) 1 : Int) < brings f s t * (p.getD (u - 1) 1 : Int)))) H
theorem ok_moreFor {f : Addr} {fd : FuncData} (cWhat : Cal P w K mg base 2 "what_it_brings" (spWhat K) []) (D : C8.Def K mg "brings_more_for_price" sMoreFor f fd) (b : Binds K fd ["worth", "prices", "s", "thing", "other"] []) : Cal P w K mg base 3 "brings_more_for_price" (spMoreFor K) [] := by
  refine cal0 D b .nil (N := ["worth", "prices", "s", "thing", "other"]) (fnScope_by (by decide +kernel)) (fun vs H Q E h => ?_) (fun cdv A outer s0 H vs Q E hr h => ?_)
  · obtain ⟨a, c, f, p, s, t, u, rfl, _⟩ := h; rfl
  · obtain ⟨a, c, f, p, s, t, u, rfl, hl, hc, wf, hpl, hs, ht, hu, q⟩ := h
    refine ⟨_, pss_one (ps_ret (pe_cmpR op_gt
      (pe_op op_mul (pe_c cWhat hr (by decide) (by rfl) (pa_cons (pv 0) (pa_cons (pv 2) (pa_cons (pv 3) pa_nil)))) (pe_ix ix_list (pv 1) (pe_op op_sub (pv 4) pe_int) (fun _ _ => rfl)))
      (pe_op op_mul (pe_c cWhat hr (by decide) (by rfl) (pa_cons (pv 0) (pa_cons (pv 2) (pa_cons (pv 4) pa_nil)))) (pe_ix ix_list (pv 1) (pe_op op_sub (pv 3) pe_int) (fun _ _ => rfl))) (nomark _))), ?_⟩
    have b1 := brings_bd wf s t
    have b2 := brings_bd wf s u
    refine ⟨_, rfl, _, rfl, _, rfl, a, f, s, t, rfl, hl, wf, hs, ht, _, rfl, _, rfl, _, _, rfl, rfl, c, _, _, nV (p.getD (u - 1) 1), rfl, rfl, hc, at_pred 1 (by omega), _, _, rfl, rfl, .inl ⟨by omega, by omega⟩, ?_⟩
    exact ⟨_, rfl, _, rfl, _, rfl, a, f, s, u, rfl, hl, wf, hs, hu, _, rfl, _, rfl, _, _, rfl, rfl, c, _, _, nV (p.getD (t - 1) 1), rfl, rfl, hc, at_pred 1 (by omega), _, _, rfl, rfl, .inl ⟨by omega, by omega⟩, _, _, rfl, rfl, q⟩
/-! ### most_for_price -/
abbrev sMostFor : Stmt := top 45
def spMostFor (K : PySem.W.Frag) : Sp := fun vs H Q _ => ∃ (a c l : Addr) (f : Dr01.Fun) (p : List Nat) (s x : Nat) (r : List Nat), vs = [.ref a, .ref c, nV s, .ref l] ∧ SqL K H a (f.vals.map V.int) ∧ SqL K H c (p.map nV) ∧ SqL K H l ((x :: r).map nV) ∧ Wf f ∧ p.length = f.many ∧ s < 2 ^ f.many ∧ (∀ t ∈ x :: r, 1 ≤ t ∧ t ≤ f.many) ∧
  Q (nV ((x :: r).foldl (moreFor f p s) x)) H
theorem ok_mostFor {f : Addr} {fd : FuncData} (cMore : Cal P w K mg base 3 "brings_more_for_price" (spMoreFor K) []) (D : C8.Def K mg "most_for_price" sMostFor f fd) (b : Binds K fd ["worth", "prices", "s", "things"] []) : Cal P w K mg base 4 "most_for_price" (spMostFor K) [] := by
  have sc : FnScope ["worth", "prices", "s", "things", "most", "thing"] ["worth", "prices", "s", "things"] (C8.fnScope sMostFor) := fnScope_by (by decide +kernel)
  refine cal0 D b .nil (N := ["worth", "prices", "s", "things", "most", "thing"]) sc (fun vs H Q E h => ?_) (fun cdv A outer s0 H vs Q E hr h => ?_)
  · obtain ⟨a, c, l, f, p, s, x, r, rfl, _⟩ := h; rfl
  · obtain ⟨a, c, l, f, p, s, x, r, rfl, hl, hc, hp, wf, hpl, hs, hmem, q⟩ := h
    refine ⟨_, pss_cons (ps_set (i := 4) sc.nd rfl (Or.inl rfl) (pe_ix ix_list (pv 3) pe_int (fun _ _ => rfl)))
      (pss_cons (ps_for PassesOwn.never rfl (pi_list (pv 3)) (pg_name (i := 5) sc.nd rfl (Or.inl rfl))
        (pss_one (ps_if (pt_val (pe_c cMore hr (by decide) (by rfl) (pa_cons (pv 0) (pa_cons (pv 1) (pa_cons (pv 2) (pa_cons (pv 5) (pa_cons (pv 4) pa_nil))))))) (pss_one (ps_set (i := 4) sc.nd rfl (Or.inl rfl) (pv 5))) pss_nil)))
      (pss_one (ps_ret (pv 4)))), ?_⟩
    refine ⟨_, rfl, l, _, _, nV x, rfl, rfl, hp, atI_nat (j := 0) rfl, ?_⟩
    refine ⟨_, rfl, l, rfl, ⟨_, hp⟩, for_list (K := K) (a := l) (xs := (x :: r).map nV) (fun i σ H' => H = H' ∧ ((x :: r).take i).foldl (moreFor f p s) x ∈ x :: r ∧ ∃ v, σ = [some (.ref a), some (.ref c), some (nV s), some (.ref l), some (nV (((x :: r).take i).foldl (moreFor f p s) x)), v])
      ⟨rfl, List.mem_cons_self .., none, rfl⟩ (fun i σ H' _ h => by rw [← h.1]; exact hp) ?_ ?_⟩
    · rintro i y σ H' hy ⟨rfl, hb, v, rfl⟩
      obtain ⟨u, hu, rfl⟩ := get_map hy
      have mu := List.mem_of_getElem? hu
      refine ⟨_, rfl, _, rfl, _, rfl, _, rfl, _, rfl, a, c, f, p, s, u, _, rfl, hl, hc, wf, hpl, hs, hmem u mu, hmem _ hb, _, rfl, ?_⟩
      have e : ((x :: r).take (i + 1)).foldl (moreFor f p s) x = moreFor f p s (((x :: r).take i).foldl (moreFor f p s) x) u := by
        rw [take_more hu, List.foldl_append]; rfl
      generalize ((x :: r).take i).foldl (moreFor f p s) x = m at *
      by_cases c : brings f s m * (p.getD (u - 1) 1 : Int) < brings f s u * (p.getD (m - 1) 1 : Int)
      · refine if_t (decide_eq_true c) ⟨_, rfl, rfl, ?_⟩
        rw [e, show moreFor f p s m u = u from if_pos c]
        exact ⟨mu, _, rfl⟩
      · refine if_f (decide_eq_false c) ⟨rfl, ?_⟩
        rw [e, show moreFor f p s m u = m from if_neg c]
        exact ⟨hb, _, rfl⟩
    · rintro σ H' ⟨rfl, hb, v, rfl⟩
      rw [List.length_map, List.take_length]
      exact ⟨_, rfl, q⟩
/-! ### greed_for_price -/
abbrev sGreedFor : Stmt := top 46
def spGreedFor (K : PySem.W.Frag) : Sp := fun vs H Q _ => ∃ (a c : Addr) (f : Dr01.Fun) (p : List Nat) (b s : Nat), vs = [.ref a, nV b, .ref c, nV s] ∧ SqL K H a (f.vals.map V.int) ∧ SqL K H c (p.map nV) ∧ Wf f ∧ p.length = f.many ∧ s < 2 ^ f.many ∧ Gives H Q (nV (Dr04.greedFor f p b f.many s))
theorem ok_greedFor {f : Addr} {fd : FuncData} (g : Gs mg) (cOnly : Cal P w K mg base 1 "only" spOnly []) (cStill : Cal P w K mg base 4 "things_still_paid" (spStill K) []) (cMost : Cal P w K mg base 4 "most_for_price" (spMostFor K) [])
    (D : C8.Def K mg "greed_for_price" sGreedFor f fd) (b : Binds K fd ["worth", "b", "prices", "begun"] []) : Cal P w K mg base 5 "greed_for_price" (spGreedFor K) [] := by
  have sc : FnScope ["worth", "b", "prices", "begun", "s", "things"] ["worth", "b", "prices", "begun"] (C8.fnScope sGreedFor) := fnScope_by (by decide +kernel)
  refine cal0 D b .nil (N := ["worth", "b", "prices", "begun", "s", "things"]) sc (fun vs H Q E h => ?_) (fun cdv A outer s0 H vs Q E hr h => ?_)
  · obtain ⟨a, c, f, p, b, s, rfl, _⟩ := h; rfl
  · obtain ⟨a, c, f, p, b, begun, rfl, hl, hc, wf, hpl, hbeg, q⟩ := h
    have h5 := wf.hi
    refine ⟨_, pss_cons (ps_set (i := 4) sc.nd rfl (Or.inl rfl) (pv 3))
      (pss_cons (ps_set (i := 5) sc.nd rfl (Or.inl rfl) (pe_c cStill hr (by decide) (by rfl) (pa_cons (pv 1) (pa_cons (pv 2) (pa_cons (pv 4) pa_nil)))))
      (pss_cons (ps_while PassesOwn.never (pt_cmpR op_gt (pe_callB call_len_seq (by rfl) g.len PySem.boot_len (pa_cons (pv 5) pa_nil)) pe_int (nomark _))
        (pss_cons (ps_set (i := 4) sc.nd rfl (Or.inl rfl) (pe_op op_or (pv 4) (pe_c cOnly hr (by decide) (by rfl) (pa_cons (pe_c cMost hr (by decide) (by rfl) (pa_cons (pv 0) (pa_cons (pv 2) (pa_cons (pv 4) (pa_cons (pv 5) pa_nil))))) pa_nil))))
        (pss_one (ps_set (i := 5) sc.nd rfl (Or.inl rfl) (pe_c cStill hr (by decide) (by rfl) (pa_cons (pv 1) (pa_cons (pv 2) (pa_cons (pv 4) pa_nil))))))))
      (pss_one (ps_ret (pv 4))))), ?_⟩
    refine ⟨_, rfl, _, rfl, _, rfl, _, rfl, c, b, p, f, begun, rfl, hc, wf, hpl, hbeg, fun H1 t1 s1 nt1 ht1 => ?_⟩
    refine ⟨fun m σ H' => ∃ (s : Nat) (t : Addr), m = (out f.many s).length ∧ s < 2 ^ f.many ∧ Same H H' ∧ H' t = some (.lst ((aff f p b s).map nV)) ∧ Dr04.greedFor f p b (out f.many s).length s = Dr04.greedFor f p b f.many begun ∧
      σ = [some (.ref a), some (nV b), some (.ref c), some (nV begun), some (nV s), some (.ref t)], ⟨_, begun, t1, rfl, hbeg, s1, ht1, (greedFor_cut wf f.many begun hbeg (out_len _ _)).symm, rfl⟩, ?_⟩
    rintro m σ H' ⟨s, t, rfl, hs, sH, ht, hg, rfl⟩
    refine ⟨_, rfl, t, _, rfl, .inl (.inl (.inl ht)), _, _, rfl, rfl, _, rfl, ?_⟩
    rw [List.length_map]
    cases ea : aff f p b s with
    | nil =>
      refine if_f (decide_eq_false (by decide)) ⟨_, rfl, ?_⟩
      rw [greedFor_stop (nextFor_none ea)] at hg
      rw [← hg] at q
      exact q _ sH
    | cons x r =>
      refine if_t (decide_eq_true (by rw [List.length_cons]; omega)) ?_
      have hn := nextFor_cons ea
      have st := nextFor_step wf hs hn
      have hmem : ∀ y ∈ x :: r, 1 ≤ y ∧ y ≤ f.many := fun y m => (mem_out.mp (mem_aff.mp (by rw [ea]; exact m)).1).1
      rw [ea] at ht
      generalize hi : (x :: r).foldl (moreFor f p s) x = i at *
      refine ⟨fun σ' H' => ∃ m', m' < (out f.many s).length ∧ _, fun σ' H' h => h, ?_⟩
      refine ⟨_, rfl, _, rfl, _, rfl, _, rfl, _, rfl, a, c, t, f, p, s, x, r, rfl, sH.seq hl, sH.seq hc, .inl (.inl ht), wf, hpl, hs, hmem, i, congrArg (fun z => [nV z]) hi, st.1.1, by omega, _, _, rfl, rfl, ?_⟩
      have eo := or_with (lt32 h5 hs) (by omega : i ≤ 5)
      refine ⟨_, rfl, _, rfl, _, rfl, c, b, p, f, with_ s i, congrArg (fun z => [nV b, V.ref c, V.int z]) eo, sH.seq hc, wf, hpl, st.2.2.1, fun H2 t2 s2 nt2 ht2 => ?_⟩
      refine ⟨_, by omega, with_ s i, t2, rfl, st.2.2.1, sH.trans s2, ht2, ?_, congrArg (fun z => [some (V.ref a), some (nV b), some (V.ref c), some (nV begun), some (V.int z), some (V.ref t2)]) eo⟩
      rw [← hg, greedFor_go hn (by omega)]
      congr 1
      omega
end
end Cw
set_option Elab.async false
set_option maxRecDepth 100000
set_option maxHeartbeats 2000000
set_option linter.all false
namespace Cw
open PySem PySem.Spec PyProof.Rows L2
open Dr01 (has with_ without val brings)
open C8 (Cal Met Mak cal0 met0 mak0 pe_c pe_mt pe_mt0 pe_gc fnScope_by scC)
/-! ### t.index of a tuple of whole numbers -/
theorem flat_ints (ys : List Int) : (ys.map V.int).all flatV = true := by
  rw [List.all_map]
  exact List.all_eq_true.mpr fun _ _ => rfl
def rTupIx (K : PySem.W.Frag) : V → List V → Hp → VK → Prop := fun x xs H Q => ∃ (p : Addr) (ys : List Int) (z : Int) (j : Nat), x = .ref p ∧ xs = [.int z] ∧ SqT K H p (ys.map V.int) ∧ ys[j]? = some z ∧ (∀ m, m < j → ys[m]? ≠ some z) ∧ Q (.int (j : Nat)) H
theorem mt_tupIx {X : Cx} : MtR X "tuple.index" (rTupIx X.K) := by
  intro pins s σ H x xs v us Q I rx rs h
  obtain ⟨p, ys, z, j, rfl, rfl, hq, hy, hno, q⟩ := h
  cases rx
  obtain ⟨u, rfl, t, rfl⟩ := vals1 rs
  obtain ⟨its, r, pl, hz⟩ := I.tuple hq
  obtain ⟨⟨cls, dd, dt, sl⟩, ho, hc, n, hd⟩ := pl
  simp only at hc hd
  subst hc
  subst hd
  have hl : its.toArray.size = ys.length := by rw [List.size_toArray, ← r.length, List.length_map]
  have hj : j < its.toArray.size := by rw [hl]; exact (List.getElem?_eq_some_iff.mp hy).1
  have place : ∀ (m : Nat) (hm : m < its.toArray.size), ∃ y t', ys[m]? = some y ∧ its.toArray[m] = Value.int y t' := fun m hm => by
    have hm' : m < ys.length := by rw [← hl]; exact hm
    obtain ⟨w, hw, t', hw'⟩ := r.get (i := m) (x := .int ys[m]) (by simp [hm'])
    refine ⟨ys[m], t', List.getElem?_eq_getElem hm', ?_⟩
    have e := (List.getElem?_eq_some_iff.mp hw).2
    rw [← hw', ← e]
    simp
  refine call_meets PySem.F.slot_tuple_index ⟨_, ho, rfl⟩ PySem.F.entry_tuple_index (PySem.F.args_tuple_index_2 _ _)
    (TI.tuple_indexAt p its.toArray n dd sl (.int z t) (eqU (.int z)) j hj ?_ ?_) ⟨ho, fun w hw => mem_eqAt (x := V.int z) ⟨t, rfl⟩ rfl r (flat_ints ys) w (by simpa using hw), ⟨.int (j : Nat), H, I.tok _, ⟨_, rfl⟩, q⟩⟩
  · obtain ⟨y, t', h1, h2⟩ := place j hj
    rw [hy] at h1
    cases h1
    rw [h2]
    exact beq_self_eq_true z
  · intro m hm hmj
    obtain ⟨y, t', h1, h2⟩ := place m hm
    rw [h2]
    exact beq_eq_false_iff_ne.mpr fun e => hno m hmj (e ▸ h1)
/-! ### the object -/
def chL (v u : V) : List (Str × V) := [("n", v), ("worth", u)]
def chF (f : Dr01.Fun) (p : Addr) : List (Str × V) := chL (nV f.many) (.ref p)
def ChAt (C : Addr) (H : Hp) (c : Addr) (f : Dr01.Fun) : Prop := ∃ dx p, H c = some (.ins C dx (chF f p)) ∧ H p = some (.lst (f.vals.map V.int)) ∧ Wf f
/-- all but the object at c is as it was -/
def Kept (H H' : Hp) (c : Addr) : Prop := ∀ b o, H b = some o → b ≠ c → H' b = some o
theorem kept_of {H H' : Hp} {c : Addr} (s : Same H H') : Kept H H' c := fun b o h _ => s b o h
theorem ChAt.same {C : Addr} {H H' : Hp} {c : Addr} {f : Dr01.Fun} (h : ChAt C H c f) (s : Same H H') : ChAt C H' c f := by
  obtain ⟨dx, p, h1, h2, h3⟩ := h
  exact ⟨dx, p, s _ _ h1, s _ _ h2, h3⟩
/-- .. its list standing where A allows -/
def ChA (C : Addr) (A : Addr → Prop) (H : Hp) (c : Addr) (f : Dr01.Fun) : Prop := ∃ dx p, H c = some (.ins C dx (chF f p)) ∧ H p = some (.lst (f.vals.map V.int)) ∧ Wf f ∧ A p
theorem ChA.at {C : Addr} {A : Addr → Prop} {H : Hp} {c : Addr} {f : Dr01.Fun} (h : ChA C A H c f) : ChAt C H c f := by
  obtain ⟨dx, p, h1, h2, h3, _⟩ := h
  exact ⟨dx, p, h1, h2, h3⟩
theorem ChA.same {C : Addr} {A : Addr → Prop} {H H' : Hp} {c : Addr} {f : Dr01.Fun} (h : ChA C A H c f) (s : Same H H') : ChA C A H' c f := by
  obtain ⟨dx, p, h1, h2, h3, h4⟩ := h
  exact ⟨dx, p, s _ _ h1, s _ _ h2, h3, h4⟩
/-- a call's answer, and what the function is then -/
def Ans (C : Addr) (A : Addr → Prop) (H : Hp) (Q : VK) (c : Addr) (r : Dr04.St × List Int) : Prop := ∀ H' q, Kept H H' c → ChA C A H' c r.1.fun_ → H q = none → H' q = some (.lst (r.2.map V.int)) → Q (.ref q) H'
theorem lk1 {k g : Str} {a b : V} : List.lookup k [(k, a), (g, b)] = some a := by
  have e : (k == k) = true := beq_self_eq_true k
  simp only [List.lookup, e]
theorem lk2 {k g : Str} {a b : V} (h : (k == g) = false) : List.lookup k [(g, a), (k, b)] = some b := by
  have e : (k == k) = true := beq_self_eq_true k
  simp only [List.lookup, e, h]
theorem lk0 {k g g' : Str} {a b : V} (h : (k == g) = false) (h' : (k == g') = false) : List.lookup k [(g, a), (g', b)] = none := by
  simp only [List.lookup, h, h']
theorem ch_n (f : Dr01.Fun) (p : Addr) : (chF f p).lookup ("n" : Str) = some (nV f.many) := lk1
theorem ch_w (f : Dr01.Fun) (p : Addr) : (chF f p).lookup ("worth" : Str) = some (.ref p) := lk2 (by decide +kernel)
/-- what the top has written of the class -/
structure Kl (K : PySem.W.Frag) (C : Addr) : Prop where
  cl : Cls K C
  n : NoAttr K C "n"
  wo : NoAttr K C "worth"
abbrev clChooser : Stmt := top 47
section
variable {P : Program} {w : World} {K : PySem.W.Frag} {mg : Str → Option Value} {base : Heap} {C : Addr}
/-! ### Chooser.__init__ -/
def spCInit (C : Addr) : Sp := fun vs H Q _ => ∃ (c dx : Addr), vs = [.ref c] ∧ H c = some (.ins C dx []) ∧ ∀ H', ChAt C H' c Dr04.init.fun_ → Kept H H' c → Q .non H'
theorem ok_cinit {f : Addr} {fd : FuncData} (k : Kl K C) (F : C8.Fun K "__init__" "Chooser.__init__" (inClass clChooser 0) f fd) (b : Binds K fd ["self"] []) : FnOk P w K mg base C8.CX0 1 f fd ["self"] (spCInit C) := by
  have sc : FnScope ["self"] ["self"] (C8.fnScope (inClass clChooser 0)) := fnScope_by (by decide +kernel)
  refine C8.fn0 F sc (fun vs H Q E h => ?_) (fun cdv A outer s0 H vs Q E hr h => ?_)
  · obtain ⟨c, dx, rfl, _⟩ := h; rfl
  · obtain ⟨c, dx, rfl, hc, q⟩ := h
    refine ⟨_, pss_cons (ps_fld (pv 0) pe_int rfl) (pss_one (ps_fld (pv 0) (pe_lst (pa_cons pe_int (pa_cons pe_int pa_nil))) rfl)), ?_⟩
    refine ⟨_, rfl, c, C, dx, _, rfl, hc, k.cl, k.n, (by show 0 < 1000; decide), ?_⟩
    refine ⟨(by show 2 ≤ sizeLine; decide), fun p np => ?_⟩
    have hcp : c ≠ p := fun e => by rw [← e, upd_same] at np; cases np
    have np' : H p = none := by rw [upd_ne (fun e => hcp e.symm)] at np; exact np
    refine ⟨_, rfl, c, C, dx, _, rfl, (upd_ne hcp).trans upd_same, k.cl, k.wo, (by show 1 < 1000; decide), ?_⟩
    refine q _ ⟨dx, p, ?_, ?_, wf_init⟩ ?_
    · refine upd_same.trans (congrArg (fun z => some (HO.ins C dx z)) ?_)
      show putF "worth" (.ref p) [("n", .int 1)] = _
      unfold putF
      rw [if_neg (by decide +kernel)]
      rfl
    · rw [upd_ne (fun e => hcp e.symm), upd_same]; rfl
    · intro b o hb hne
      rw [upd_ne hne, upd_ne (fun e => by rw [e, np'] at hb; cases hb), upd_ne hne]
      exact hb
/-! ### has_set, told -/
def spHas (C : Addr) : Sp := fun vs H Q _ => ∃ (c : Addr) (f : Dr01.Fun) (s : Nat), vs = [.ref c, nV s] ∧ ChAt C H c f ∧ Q (.bl (decide (s < 2 ^ f.many))) H
theorem ok_has {f : Addr} {fd : FuncData} (g : Gs mg) (k : Kl K C) (me : Meth K C "has_set" f) (F : C8.Fun K "has_set" "Chooser.has_set" (inClass clChooser 1) f fd) (b : Binds K fd ["self", "s"] []) : Met P w K mg base 1 C "has_set" (spHas C) [] := by
  have sc : FnScope ["self", "s"] ["self", "s"] (C8.fnScope (inClass clChooser 1)) := fnScope_by (by decide +kernel)
  refine met0 k.cl me F b sc (fun vs H Q E h => ?_) (fun cdv A outer s0 H vs Q E hr h => ?_)
  · obtain ⟨c, f, s, rfl, _⟩ := h; rfl
  · obtain ⟨c, f, s, rfl, ⟨dx, p, hc, hp, wf⟩, q⟩ := h
    refine ⟨_, pss_one (ps_ret (pe_cmpR op_lt (pv 1) (pe_callB call_len_seq (by rfl) g.len PySem.boot_len (pa_cons (pe_fld (pv 0) rfl) pa_nil)) (nomark _))), ?_⟩
    refine ⟨_, rfl, _, rfl, c, C, dx, _, _, rfl, hc, k.cl, k.wo, ch_w f p, p, _, rfl, .inl (.inl (.inl hp)), _, _, rfl, rfl, ?_⟩
    have e : decide ((s : Int) < ((f.vals.map V.int).length : Int)) = decide (s < 2 ^ f.many) := by
      rw [List.length_map, wf.len]
      congr 1
      rw [eq_iff_iff]
      exact Int.ofNat_lt
    show Q (.bl (decide ((s : Int) < ((f.vals.map V.int).length : Int)))) H
    rw [e]
    exact q
def spTold (C : Addr) : Sp := fun vs H Q _ => ∃ (c : Addr) (f : Dr01.Fun) (s : Nat), vs = [.ref c, nV s] ∧ ChAt C H c f ∧ s < 2 ^ f.many ∧ GivesL H Q ((Dr04.shown f s).map V.int)
theorem ok_told {f : Addr} {fd : FuncData} (k : Kl K C) (me : Meth K C "told" f) (F : C8.Fun K "told" "Chooser.told" (inClass clChooser 2) f fd) (b : Binds K fd ["self", "s"] []) : Met P w K mg base 1 C "told" (spTold C) [] := by
  have sc : FnScope ["self", "s"] ["self", "s"] (C8.fnScope (inClass clChooser 2)) := fnScope_by (by decide +kernel)
  refine met0 k.cl me F b sc (fun vs H Q E h => ?_) (fun cdv A outer s0 H vs Q E hr h => ?_)
  · obtain ⟨c, f, s, rfl, _⟩ := h; rfl
  · obtain ⟨c, f, s, rfl, ⟨dx, p, hc, hp, wf⟩, hs, q⟩ := h
    refine ⟨_, pss_one (ps_ret (pe_lst (pa_cons (pe_ix ix_list (pe_fld (pv 0) rfl) (pv 1) (fun _ _ => rfl)) (pa_cons (pv 1) pa_nil)))), ?_⟩
    refine ⟨_, rfl, c, C, dx, _, _, rfl, hc, k.cl, k.wo, ch_w f p, _, rfl, p, _, _, _, rfl, rfl, .inl (.inl hp), at_val wf hs, _, rfl, (by show 2 ≤ sizeLine; decide), fun r nr => ?_⟩
    exact givesL_new q (Same.refl _) nr
/-! ### take -/
def spTake (C : Addr) : Sp := fun vs H Q _ => ∃ (c p' : Addr) (d : Dr04.St) (f' : Dr01.Fun) (A : Addr → Prop), vs = [.ref c, nV f'.many, .ref p'] ∧ ChA C A H c d.fun_ ∧ H p' = some (.lst (f'.vals.map V.int)) ∧ A p' ∧ Wf f' ∧ Ans C A H Q c (Dr04.become d f')
theorem put_n (f : Dr01.Fun) (p : Addr) (v : V) : putF "n" v (chF f p) = chL v (.ref p) := by
  unfold chF chL putF
  rw [if_pos rfl]
theorem put_w (v u u' : V) : putF "worth" u' (chL v u) = chL v u' := by
  unfold chL putF
  rw [if_neg (by decide +kernel)]
  unfold putF
  rw [if_pos rfl]
theorem ok_take {f : Addr} {fd : FuncData} (cs : Cs K mg) (k : Kl K C) (cFits : Cal P w K mg base 4 "function_fits" (spFits K) []) (me : Meth K C "take" f) (F : C8.Fun K "take" "Chooser.take" (inClass clChooser 3) f fd) (b : Binds K fd ["self", "n", "worth"] []) : Met P w K mg base 5 C "take" (spTake C) [] := by
  have sc : FnScope ["self", "n", "worth"] ["self", "n", "worth"] (C8.fnScope (inClass clChooser 3)) := fnScope_by (by decide +kernel)
  refine met0 k.cl me F b sc (fun vs H Q E h => ?_) (fun cdv A outer s0 H vs Q E hr h => ?_)
  · obtain ⟨c, p', d, f', A, rfl, _⟩ := h; rfl
  · obtain ⟨c, p', d, f', AA, rfl, ch, hp', hA', wf', q⟩ := h
    refine ⟨_, pss_cons (ps_if (pt_not (pt_val (pe_c cFits hr (by decide) (by rfl) (pa_cons (pv 1) (pa_cons (pv 2) pa_nil))))) (pss_one (ps_ret (pe_lst (pa_cons (pe_gc (by rfl) cs.wrongFunction) pa_nil)))) pss_nil)
      (pss_cons (ps_fld (pv 0) (pv 1) rfl) (pss_cons (ps_fld (pv 0) (pv 2) rfl) (pss_one (ps_ret (pe_op op_cat (pe_lst (pa_cons (pv 1) pa_nil)) (pv 2)))))), ?_⟩
    refine ⟨_, rfl, _, rfl, p', f', rfl, .inl (.inl hp'), wf', fun H1 s1 => ⟨_, rfl, ?_⟩⟩
    unfold Dr04.become at q
    cases hf : Dr04.fits f' with
    | false =>
      rw [hf, if_pos rfl] at q
      refine iteT ⟨(by show 1 ≤ sizeLine; decide), fun r nr => ?_⟩
      exact q _ r (kept_of (same_upd (s1.free nr) s1)) (ch.same (same_upd (s1.free nr) s1)) (s1.free nr) upd_same
    | true =>
      rw [hf, if_neg (by decide)] at q
      refine iteF ?_
      obtain ⟨dx, p, hc, hp, wf, _⟩ := ch.same s1
      refine ⟨_, rfl, _, rfl, c, C, dx, _, rfl, hc, k.cl, k.n, (by show 2 < 1000; decide), ?_⟩
      rw [put_n d.fun_ p]
      refine ⟨_, rfl, _, rfl, c, C, dx, _, rfl, upd_same, k.cl, k.wo, (by show 2 < 1000; decide), ?_⟩
      rw [put_w, upd_upd]
      have hpc : p' ≠ c := ne_of (s1 _ _ hp') hc (by intro z; cases z)
      refine ⟨_, rfl, (by show 1 ≤ sizeLine; decide), fun r nr => ?_⟩
      have hrc : r ≠ c := fun e => by rw [e, upd_same] at nr; cases nr
      have nr1 : H1 r = none := by rw [upd_ne hrc] at nr; exact nr
      have hpr : p' ≠ r := ne_of_none (s1 _ _ hp') nr1
      have h32 := pow_le wf'.hi
      refine ⟨_, rfl, r, p', _, _, rfl, rfl, upd_same, (upd_ne hpr).trans ((upd_ne hpc).trans (s1 _ _ hp')), ?_, fun t nt => ?_⟩
      · rw [List.length_map, wf'.len]
        exact Nat.le_trans (by show 1 + 2 ^ f'.many ≤ 100; omega) (by decide)
      have htr : t ≠ r := fun e => by rw [e, upd_same] at nt; cases nt
      have nt1 : upd H1 c (.ins C dx (chL (nV f'.many) (.ref p'))) t = none := by rw [upd_ne htr] at nt; exact nt
      have htc : t ≠ c := fun e => by rw [e, upd_same] at nt1; cases nt1
      have nt2 : H1 t = none := by rw [upd_ne htc] at nt1; exact nt1
      have hpt : p' ≠ t := ne_of_none (s1 _ _ hp') nt2
      refine q _ t ?_ ⟨dx, p', ?_, ?_, wf', hA'⟩ (s1.free nt2) ?_
      · intro b o hb hne
        have h1 := s1 _ _ hb
        rw [upd_ne (ne_of_none h1 nt2), upd_ne (ne_of_none h1 nr1), upd_ne hne]
        exact h1
      · rw [upd_ne (fun e => htc e.symm), upd_ne (fun e => hrc e.symm), upd_same]; rfl
      · rw [upd_ne hpt, upd_ne hpr, upd_ne hpc]; exact s1 _ _ hp'
      · rw [upd_same]; rfl
end
end Cw
set_option Elab.async false
set_option maxRecDepth 100000
set_option maxHeartbeats 2000000
set_option linter.all false
namespace Cw
open PySem PySem.Spec PyProof.Rows L2
open Dr01 (has with_ without val brings)
open C8 (Cal Met Mak cal0 met0 mak0 pe_c pe_mt pe_mt0 pe_gc fnScope_by scC)
theorem counts_ix {m : Nat} (h : m = 2 ∨ m = 4 ∨ m = 8 ∨ m = 16 ∨ m = 32) : ∃ j : Nat, ([2, 4, 8, 16, 32] : List Int)[j]? = some (m : Int) ∧ (∀ i, i < j → ([2, 4, 8, 16, 32] : List Int)[i]? ≠ some (m : Int)) ∧ j + 1 = (Dr01.log2 m).getD 0 := by
  rcases h with rfl | rfl | rfl | rfl | rfl
  · exact ⟨0, by decide, by decide, by decide⟩
  · exact ⟨1, by decide, by decide, by decide⟩
  · exact ⟨2, by decide, by decide, by decide⟩
  · exact ⟨3, by decide, by decide, by decide⟩
  · exact ⟨4, by decide, by decide, by decide⟩
theorem ans_no {C : Addr} {A : Addr → Prop} {H H1 : Hp} {Q : VK} {c : Addr} {d : Dr04.St} {l : List Int} (q : Ans C A H Q c (d, l)) (ch : ChA C A H c d.fun_) (s : Same H H1) {r : Addr} (nr : H1 r = none) : Q (.ref r) (upd H1 r (.lst (l.map V.int))) :=
  q _ r (kept_of (same_upd (s.free nr) s)) (ch.same (same_upd (s.free nr) s)) (s.free nr) upd_same
theorem ans_mono {C : Addr} {A : Addr → Prop} {H H1 : Hp} {Q : VK} {c : Addr} {r : Dr04.St × List Int} (q : Ans C A H Q c r) (s : Same H H1) : Ans C A H1 Q c r := fun H' p k ch np hp =>
  q H' p (fun b o h hne => k b o (s _ _ h) hne) ch (s.free np) hp
section
variable {P : Program} {w : World} {K : PySem.W.Frag} {mg : Str → Option Value} {base : Heap} {C : Addr}
theorem ch_no (f : Dr01.Fun) (p : Addr) {m : Str} (h1 : (m == ("n" : Str)) = false) (h2 : (m == ("worth" : Str)) = false) : (chF f p).lookup m = none := lk0 h1 h2
/-! ### tell -/
def spTell (K : PySem.W.Frag) (C : Addr) : Sp := fun vs H Q _ => ∃ (c a : Addr) (d : Dr04.St) (l : List Nat) (A : Addr → Prop), vs = [.ref c, .ref a] ∧ ChA C A H c d.fun_ ∧ (∀ p, H p = none → A p) ∧ SqL K H a (l.map nV) ∧ l.length ≤ 40 ∧ Ans C A H Q c (Dr04.step d (.tell l))
theorem ok_tell {f : Addr} {fd : FuncData} (g : Gs mg) (cs : Cs K mg) (k : Kl K C) (cVals : Cal P w K mg base 1 "values_fit" (spVals K) []) (cHanded : Cal P w K mg base 1 "handed_number" spHanded []) (mTake : Met P w K mg base 5 C "take" (spTake C) [])
    (me : Meth K C "tell" f) (F : C8.Fun K "tell" "Chooser.tell" (inClass clChooser 4) f fd) (b : Binds K fd ["self", "handed"] []) : Met P w K mg base 6 C "tell" (spTell K C) [] := by
  have sc : FnScope ["self", "handed", "n", "number"] ["self", "handed"] (C8.fnScope (inClass clChooser 4)) := fnScope_by (by decide +kernel)
  refine met0 k.cl me F b sc (fun vs H Q E h => ?_) (fun cdv A outer s0 H vs Q E hr h => ?_)
  · obtain ⟨c, a, d, l, A, rfl, _⟩ := h; rfl
  · obtain ⟨c, a, d, l, AA, rfl, ch, hfr, hl, h40, q⟩ := h
    obtain ⟨ac, hc, hsc, hot⟩ := cs.counts
    refine ⟨_, pss_cons (ps_if (pt_not (pt_val (pe_c cVals hr (by decide) (by rfl) (pa_cons (pv 1) pa_nil)))) (pss_one (ps_ret (pe_lst (pa_cons (pe_gc (by rfl) cs.wrongNumbers) pa_nil)))) pss_nil)
      (pss_cons (ps_set (i := 2) sc.nd rfl (Or.inl rfl) (pe_op op_add (pe_bm PySem.F.plainAttrs_tuple PySem.F.slot_tuple_index PySem.F.type_tuple_index mt_tupIx (pe_gc (by rfl) hc) (pa_cons (pe_callB call_len_seq (by rfl) g.len PySem.boot_len (pa_cons (pv 1) pa_nil)) pa_nil)) pe_int))
      (pss_one (ps_ret (pe_mt mTake hr (by decide) (pv 0) (pa_cons (pv 2) (pa_cons (pe_lc (own := [("number", 3)]) (g := gName 3) rfl sc.nd (pi_list (pv 1))
        (blkOk_by (N := ["self", "handed", "n", "number"]) (sc := C8.fnScope (inClass clChooser 4)) (by decide +kernel)) (fun _ _ _ _ _ => pg_name (i := 3) sc.nd rfl (Or.inl rfl)) (fun _ _ _ _ _ => pts_nil)
        (fun _ _ _ _ _ => pe_c cHanded hr (by decide) (by rfl) (pa_cons (pv 3) pa_nil))) pa_nil)))))), ?_⟩
    refine ⟨_, rfl, a, l, rfl, hl, _, rfl, ?_⟩
    rw [step_tell h40] at q
    by_cases v : (l.length = 2 ∨ l.length = 4 ∨ l.length = 8 ∨ l.length = 16 ∨ l.length = 32) ∧ ∀ z ∈ l, z ≤ 20000
    case neg =>
      rw [if_neg v] at q
      refine if_t (by unfold vfit; rw [decide_eq_false v]; rfl) ⟨(by show 1 ≤ sizeLine; decide), fun r nr => ?_⟩
      exact ans_no q ch (Same.refl _) nr
    rw [if_pos v] at q
    refine if_f (by unfold vfit; rw [decide_eq_true v]; rfl) ?_
    obtain ⟨j, hj, hno, ej⟩ := counts_ix v.1
    have p5 := log2_pos v.1
    refine ⟨.inr (.inl ⟨rfl, hot⟩), _, rfl, a, _, rfl, .inl hl, ac, [2, 4, 8, 16, 32], (l.length : Int), j, rfl, by rw [List.length_map], hsc H, hj, hno, _, _, rfl, rfl, ?_⟩
    have ch' := ch
    obtain ⟨dx, p, hcc, hp, wf, _⟩ := ch'
    refine ⟨_, rfl, c, dx, _, rfl, hcc, ch_no _ _ (by decide +kernel) (by decide +kernel), _, rfl, _, rfl, a, rfl, ⟨_, hl⟩, fun D hD => ?_⟩
    have el : (l.map nV).length = l.length := List.length_map ..
    refine lc_w (walk_list (xs := l.map nV)) (fun _ => true) (fun i => .int (Dr01.whole (l.getD i 0))) (by rw [el]; exact Nat.lt_of_le_of_lt h40 (by decide)) hD (fun H' s' => s'.seq hl) (fun i x H1 H2 hi hS y acc hA Nx hn hy => ?_) (fun H' hS hA => ?_)
    · obtain ⟨rfl, hx⟩ := y
      obtain ⟨z, hz, rfl⟩ := get_map hx
      refine ⟨rfl, _, rfl, z, rfl, ?_⟩
      have := hy rfl _ (Same.refl _)
      rw [getD_of hz] at this
      exact this
    · refine ⟨c, D, d, ⟨(Dr01.log2 l.length).getD 0, l.map Dr01.whole⟩, AA, ?_, ch.same hS, ?_, hfr D hD, wf_tell p5.1 p5.2.1 p5.2.2.symm v.2, ans_mono q hS⟩
      · show [V.ref c, V.int ((j : Int) + 1), V.ref D] = [V.ref c, nV ((Dr01.log2 l.length).getD 0), V.ref D]
        rw [← ej]; rfl
      · rw [hA, filt_all, el, range_getD (fun z => V.int (Dr01.whole z)), List.map_map]
        rfl
/-! ### cover -/
def spCover (K : PySem.W.Frag) (C : Addr) : Sp := fun vs H Q _ => ∃ (c a : Addr) (d : Dr04.St) (n : Nat) (l : List Nat) (A : Addr → Prop), vs = [.ref c, nV n, .ref a] ∧ ChA C A H c d.fun_ ∧ (∀ p, H p = none → A p) ∧ SqL K H a (l.map nV) ∧ l.length ≤ 50 ∧ Ans C A H Q c (Dr04.step d (.cover n l))
theorem ok_cover {f : Addr} {fd : FuncData} (g : Gs mg) (cs : Cs K mg) (k : Kl K C) (cPts : Cal P w K mg base 1 "points_fit" (spPts K) []) (cMet : Cal P w K mg base 1 "weight_met" (spMet K) []) (mTake : Met P w K mg base 5 C "take" (spTake C) [])
    (me : Meth K C "cover" f) (F : C8.Fun K "cover" "Chooser.cover" (inClass clChooser 5) f fd) (b : Binds K fd ["self", "n", "points"] []) : Met P w K mg base 6 C "cover" (spCover K C) [] := by
  have sc : FnScope ["self", "n", "points", "s"] ["self", "n", "points"] (C8.fnScope (inClass clChooser 5)) := fnScope_by (by decide +kernel)
  refine met0 k.cl me F b sc (fun vs H Q E h => ?_) (fun cdv A outer s0 H vs Q E hr h => ?_)
  · obtain ⟨c, a, d, n, l, A, rfl, _⟩ := h; rfl
  · obtain ⟨c, a, d, n, l, AA, rfl, ch, hfr, hl, h50, q⟩ := h
    obtain ⟨ac, hc, hsc, hot⟩ := cs.counts
    refine ⟨_, pss_cons (ps_if (PW.pt (pw_or (pt_cmpR op_lt (pv 1) pe_int (nomark _)) (pw_or (pt_cmpR op_gt (pv 1) (pe_gc (by rfl) cs.mostThings) (nomark _)) (pw_or1 (pt_not (pt_val (pe_c cPts hr (by decide) (by rfl) (pa_cons (pv 1) (pa_cons (pv 2) pa_nil)))))))))
        (pss_one (ps_ret (pe_lst (pa_cons (pe_gc (by rfl) cs.wrongNumbers) pa_nil)))) pss_nil)
      (pss_one (ps_ret (pe_mt mTake hr (by decide) (pv 0) (pa_cons (pv 1) (pa_cons (pe_lc (own := [("s", 3)]) (g := gName 3) rfl sc.nd (pi_range1 (by rfl) g.rng (pa_cons (pe_ix ix_tup (pe_gc (by rfl) hc) (pe_op op_sub (pv 1) pe_int) (fun _ _ => rfl)) pa_nil))
        (blkOk_by (N := ["self", "n", "points", "s"]) (sc := C8.fnScope (inClass clChooser 5)) (by decide +kernel)) (fun _ _ _ _ _ => pg_name (i := 3) sc.nd rfl (Or.inl rfl)) (fun _ _ _ _ _ => pts_nil)
        (fun _ _ _ _ _ => pe_c cMet hr (by decide) (by rfl) (pa_cons (pv 2) (pa_cons (pv 3) pa_nil)))) pa_nil))))), ?_⟩
    rw [step_cover] at q
    have bad : ¬ ((1 ≤ n ∧ n ≤ 5) ∧ pointsOk n l = true) → ∀ r, H r = none → Q (.ref r) (upd H r (.lst [V.int (-1)])) := fun z r nr => by
      rw [if_neg z] at q
      exact ans_no q ch (Same.refl _) nr
    refine ⟨_, rfl, _, _, rfl, rfl, _, rfl, ?_⟩
    by_cases c1 : 1 ≤ n
    case neg =>
      refine if_t (decide_eq_true (by omega)) (iteT ⟨(by show 1 ≤ sizeLine; decide), fun r nr => bad (fun z => c1 z.1.1) r nr⟩)
    refine if_f (decide_eq_false (by omega)) ?_
    refine ⟨_, rfl, _, _, rfl, rfl, _, rfl, ?_⟩
    by_cases c5 : n ≤ 5
    case neg =>
      refine if_t (decide_eq_true (by omega)) (iteT ⟨(by show 1 ≤ sizeLine; decide), fun r nr => bad (fun z => c5 z.1.2) r nr⟩)
    refine if_f (decide_eq_false (by omega)) ?_
    refine ⟨_, rfl, _, rfl, a, n, l, rfl, hl, ⟨c1, c5⟩, h50, _, rfl, ?_⟩
    cases hpo : pointsOk n l with
    | false => exact iteT ⟨(by show 1 ≤ sizeLine; decide), fun r nr => bad (fun z => by rw [hpo] at z; cases z.2) r nr⟩
    | true =>
      rw [if_pos ⟨⟨c1, c5⟩, hpo⟩] at q
      refine iteF ?_
      have ch' := ch
      obtain ⟨dx, p, hcc, hp, wf, _⟩ := ch'
      unfold pointsOk at hpo
      cases ec : Dr01.covered n l with
      | none => rw [ec] at hpo; cases hpo
      | some cv =>
        rw [ec] at hpo q
        have hcl := covered_some ec
        have h20 : cv.length ≤ 20 := of_decide_eq_true hpo
        have h32 := pow_le c5
        refine ⟨_, rfl, c, dx, _, rfl, hcc, ch_no _ _ (by decide +kernel) (by decide +kernel), _, rfl, _, rfl, _, _, rfl, rfl, ac, _, _, nV (2 ^ n), rfl, rfl, hsc H, counts_at n (by omega) c1, ((2 ^ n : Nat) : Int), rfl, Int.le_trans (by decide) (Int.natCast_nonneg _), Int.lt_of_le_of_lt (Int.ofNat_le.mpr h32) (by decide), fun D hD => ?_⟩
        rw [Int.toNat_natCast]
        refine lc_w walk_range (fun _ => true) (fun s => .int (covAt s cv)) (Nat.lt_of_le_of_lt h32 (by decide)) hD (fun _ _ => trivial) (fun i x H1 H2 hi hS y acc hA Nx hn hy => ?_) (fun H' hS hA => ?_)
        · obtain ⟨rfl, hx⟩ := y
          replace hx : x = nV i := hx.trans (congrArg V.int (by omega : (0 : Int) + (i : Int) = (i : Int)))
          subst hx
          refine ⟨rfl, _, rfl, _, rfl, a, l, i, rfl, hS.seq hl, by omega, h50, fun H5 s5 => ?_⟩
          rw [met_sum i ec]
          exact hy rfl _ s5
        · refine ⟨c, D, d, Dr01.ofCover n cv, AA, rfl, ch.same hS, ?_, hfr D hD, wf_cover c1 c5 h20 hcl.2, ans_mono q hS⟩
          rw [hA, filt_all]
          unfold Dr01.ofCover
          rw [List.map_map]
          rfl
end
end Cw
set_option Elab.async false
set_option maxRecDepth 100000
set_option maxHeartbeats 2000000
set_option linter.all false
namespace Cw
open PySem PySem.Spec PyProof.Rows L2
open Dr01 (has with_ without val brings)
open C8 (Cal Met Mak cal0 met0 mak0 pe_c pe_mt pe_mt0 pe_gc fnScope_by scC)
theorem greed_mem {f : Dr01.Fun} : ∀ {k s t : Nat}, t ∈ Dr04.greed f k s → 1 ≤ t ∧ t ≤ f.many
  | 0, s, t, h => nomatch h
  | k + 1, s, t, h => by
    have h : t ∈ (match Dr04.next f s with | none => [] | some i => i :: Dr04.greed f k (with_ s i)) := h
    cases e : Dr04.next f s with
    | none => rw [e] at h; cases h
    | some i =>
      rw [e] at h
      have h : t ∈ i :: Dr04.greed f k (with_ s i) := h
      rw [List.mem_cons] at h
      rcases h with rfl | h
      · exact (mem_out.mp (next_mem e)).1
      · exact greed_mem h
section
variable {P : Program} {w : World} {K : PySem.W.Frag} {mg : Str → Option Value} {base : Heap} {C : Addr}
/-! ### best -/
def spBest (C : Addr) : Sp := fun vs H Q _ => ∃ (c : Addr) (f : Dr01.Fun) (k : Nat), vs = [.ref c, nV k] ∧ ChAt C H c f ∧ GivesL H Q ((Dr04.shown f (Dr04.best f k)).map V.int)
theorem ok_best {f : Addr} {fd : FuncData} (k : Kl K C) (cSets : Cal P w K mg base 3 "sets_up_to" spSets []) (cBestOf : Cal P w K mg base 1 "best_of" (spBestOf K) []) (mTold : Met P w K mg base 1 C "told" (spTold C) [])
    (me : Meth K C "best" f) (F : C8.Fun K "best" "Chooser.best" (inClass clChooser 6) f fd) (b : Binds K fd ["self", "k"] []) : Met P w K mg base 4 C "best" (spBest C) [] := by
  have sc : FnScope ["self", "k"] ["self", "k"] (C8.fnScope (inClass clChooser 6)) := fnScope_by (by decide +kernel)
  refine met0 k.cl me F b sc (fun vs H Q E h => ?_) (fun cdv A outer s0 H vs Q E hr h => ?_)
  · obtain ⟨c, f, k, rfl, _⟩ := h; rfl
  · obtain ⟨c, f, kk, rfl, ch, q⟩ := h
    refine ⟨_, pss_one (ps_ret (pe_mt mTold hr (by decide) (pv 0) (pa_cons (pe_c cBestOf hr (by decide) (by rfl) (pa_cons (pe_fld (pv 0) rfl) (pa_cons (pe_c cSets hr (by decide) (by rfl) (pa_cons (pe_fld (pv 0) rfl) (pa_cons (pv 1) pa_nil))) pa_nil))) pa_nil))), ?_⟩
    have ch' := ch
    obtain ⟨dx, p, hc, hp, wf⟩ := ch'
    have h5 := wf.hi
    refine ⟨_, rfl, c, dx, _, rfl, hc, ch_no _ _ (by decide +kernel) (by decide +kernel), _, rfl, c, C, dx, _, _, rfl, hc, k.cl, k.wo, ch_w f p, _, rfl, c, C, dx, _, _, rfl, hc, k.cl, k.n, ch_n f p, _, rfl, f.many, kk, rfl, ⟨wf.lo, h5⟩, fun H' D hS nD hA => ?_⟩
    obtain ⟨r, hr0⟩ := upTo_head f kk
    have hA' : H' D = some (.lst ((0 :: r).map nV)) := by rw [← hr0]; exact hA
    refine ⟨p, D, f, 0, r, rfl, .inl (.inl (hS _ _ hp)), .inl (.inl hA'), wf, ?_, ?_⟩
    · intro s ms
      rw [← hr0] at ms
      exact mem_upTo ms
    · refine ⟨c, f, (0 :: r).foldl (better2 f) 0, rfl, ch.same hS, ?_, ?_⟩
      · rw [← hr0, ← best_upTo]; exact best_lt f kk
      · rw [← hr0, ← best_upTo]
        intro H2 t s2 nt ht
        exact q H2 t (hS.trans s2) (hS.free nt) ht
/-! ### greed -/
def spGreedM (C : Addr) : Sp := fun vs H Q _ => ∃ (c : Addr) (d : Dr04.St) (k : Nat), vs = [.ref c, nV k] ∧ ChAt C H c d.fun_ ∧ GivesL H Q ((Dr04.step d (.greed (min k 100))).2.map V.int)
theorem ok_greedM {f : Addr} {fd : FuncData} (g : Gs mg) (k : Kl K C) (cOnly : Cal P w K mg base 1 "only" spOnly []) (cGreed : Cal P w K mg base 4 "things_by_greed" (spGreed K) []) (mTold : Met P w K mg base 1 C "told" (spTold C) [])
    (me : Meth K C "greed" f) (F : C8.Fun K "greed" "Chooser.greed" (inClass clChooser 7) f fd) (b : Binds K fd ["self", "k"] []) : Met P w K mg base 5 C "greed" (spGreedM C) [] := by
  have sc : FnScope ["self", "k", "taken", "thing"] ["self", "k"] (C8.fnScope (inClass clChooser 7)) := fnScope_by (by decide +kernel)
  refine met0 k.cl me F b sc (fun vs H Q E h => ?_) (fun cdv A outer s0 H vs Q E hr h => ?_)
  · obtain ⟨c, f, k, rfl, _⟩ := h; rfl
  · obtain ⟨c, d, kk, rfl, ch, q⟩ := h
    refine ⟨_, pss_cons (ps_set (i := 2) sc.nd rfl (Or.inl rfl) (pe_c cGreed hr (by decide) (by rfl) (pa_cons (pe_fld (pv 0) rfl) (pa_cons (pe_fld (pv 0) rfl) (pa_cons (pv 1) pa_nil)))))
      (pss_one (ps_ret (pe_op op_cat (pe_mt mTold hr (by decide) (pv 0) (pa_cons (pe_callB (cr_sum rfl) (by rfl) g.sum boot_sum (pa_cons (pe_lc (own := [("thing", 3)]) (g := gName 3) rfl sc.nd (pi_list (pv 2))
        (blkOk_by (N := ["self", "k", "taken", "thing"]) (sc := C8.fnScope (inClass clChooser 7)) (by decide +kernel)) (fun _ _ _ _ _ => pg_name (i := 3) sc.nd rfl (Or.inl rfl)) (fun _ _ _ _ _ => pts_nil)
        (fun _ _ _ _ _ => pe_c cOnly hr (by decide) (by rfl) (pa_cons (pv 3) pa_nil))) pa_nil)) pa_nil)) (pv 2)))), ?_⟩
    have ch' := ch
    obtain ⟨dx, p, hc, hp, wf⟩ := ch'
    have h5 := wf.hi
    generalize hf : d.fun_ = f at *
    have hG : GivesL H Q ((Dr04.shown f (Dr04.greedy f (min kk 100)) ++ Dr04.ints (Dr04.greed f (min kk 100) 0)).map V.int) := by
      have : (Dr04.step d (.greed (min kk 100))).2 = Dr04.shown d.fun_ (Dr04.greedy d.fun_ (min kk 100)) ++ Dr04.ints (Dr04.greed d.fun_ (min kk 100) 0) := rfl
      rw [this, hf] at q
      exact q
    have eg := greed_min wf kk
    have gs := greed_sum wf (min kk f.many) 0 (Nat.two_pow_pos _)
    have gy : Dr04.greedy f (min kk 100) = (Dr04.greed f (min kk f.many) 0).foldl with_ 0 := by
      unfold Dr04.greedy Dr04.setOf
      rw [eg]
    rw [gy, eg] at hG
    refine ⟨_, rfl, c, C, dx, _, _, rfl, hc, k.cl, k.n, ch_n f p, _, rfl, c, C, dx, _, _, rfl, hc, k.cl, k.wo, ch_w f p, _, rfl, p, f, kk, rfl, .inl (.inl hp), wf, fun H1 t s1 nt ht => ?_⟩
    generalize hgr : Dr04.greed f (min kk f.many) 0 = gr at *
    have hmem : ∀ u ∈ gr, 1 ≤ u ∧ u ≤ f.many := fun u m => by rw [← hgr] at m; exact greed_mem m
    have hlen : gr.length ≤ 5 := by
      have := greed_len (f := f) (min kk f.many) 0
      rw [hgr] at this
      omega
    refine ⟨_, rfl, c, dx, _, rfl, s1 _ _ hc, ch_no _ _ (by decide +kernel) (by decide +kernel), _, rfl, t, rfl, ⟨_, .inl (.inl ht)⟩, fun D hD => ?_⟩
    have el : (gr.map nV).length = gr.length := List.length_map ..
    refine lc_w (walk_list (xs := gr.map nV)) (fun _ => true) (fun i => nV (2 ^ (gr.getD i 0 - 1))) (by rw [el]; exact Nat.lt_of_le_of_lt hlen (by decide)) hD (fun H' s' => .inl (.inl (s' _ _ ht))) (fun i x H2 H3 hi hS y acc hA Nx hn hy => ?_) (fun H' hS hA => ?_)
    · obtain ⟨rfl, hx⟩ := y
      obtain ⟨z, hz, rfl⟩ := get_map hx
      have mz := hmem z (List.mem_of_getElem? hz)
      refine ⟨rfl, _, rfl, z, rfl, mz.1, by omega, ?_⟩
      have := hy rfl _ (Same.refl _)
      rw [getD_of hz] at this
      exact this
    · rw [filt_all, el, range_getD (fun z => nV (2 ^ (z - 1)))] at hA
      refine ⟨D, (gr.map fun z => 2 ^ (z - 1)).map fun (z : Nat) => (z : Int), rfl, .inl (.inl ?_), ?_⟩
      · rw [hA, ← map_nV, List.map_map]; rfl
      · rw [cast_sum]
        rw [Nat.zero_add] at gs
        refine ⟨c, f, (gr.map fun z => 2 ^ (z - 1)).sum, rfl, (ch.same s1).same hS, by rw [← gs.1]; exact gs.2, fun H4 r s4 nr hr4 => ?_⟩
        have ht4 := s4 _ _ (hS _ _ ht)
        refine ⟨_, rfl, r, t, _, _, rfl, rfl, hr4, ht4, ?_, fun u nu => ?_⟩
        · rw [el]
          exact Nat.le_trans (by show 2 + gr.length ≤ 7; omega) (by decide)
        · have := givesL_new hG ((s1.trans hS).trans s4) nu
          rw [List.map_append] at this
          rw [← gs.1]
          have e2 : (Dr04.ints gr).map V.int = gr.map nV := by
            unfold Dr04.ints
            rw [List.map_map]; rfl
          rw [e2] at this
          exact this
end
end Cw
set_option Elab.async false
set_option maxRecDepth 100000
set_option maxHeartbeats 2000000
set_option linter.all false
namespace Cw
open PySem PySem.Spec PyProof.Rows L2
open Dr01 (has with_ without val brings)
open C8 (Cal Met Mak cal0 met0 mak0 pe_c pe_mt pe_mt0 pe_gc fnScope_by scC)
theorem cut_take (xs : List V) (k : Nat) : cutV xs none (some (k : Int)) = xs.take k := by
  unfold cutV
  rw [HT.sIx_none, HT.sIx_nat, List.drop_zero, Nat.sub_zero]
  by_cases h : k ≤ xs.length
  · rw [Nat.min_eq_left h]
  · rw [Nat.min_eq_right (by omega), List.take_of_length_le (Nat.le_refl _), List.take_of_length_le (by omega)]
section
variable {P : Program} {w : World} {K : PySem.W.Frag} {mg : Str → Option Value} {base : Heap} {C : Addr}
/-! ### bound -/
def spBound (C : Addr) : Sp := fun vs H Q _ => ∃ (c : Addr) (d : Dr04.St) (k s : Nat), vs = [.ref c, nV k, nV s] ∧ ChAt C H c d.fun_ ∧ GivesL H Q ((Dr04.step d (.bound (min k 100) s)).2.map V.int)
theorem isSet_f {d : Dr04.St} {s : Nat} (h : ¬ s < 2 ^ d.fun_.many) : Dr04.isSet d s = false := decide_eq_false h
theorem isSet_t {d : Dr04.St} {s : Nat} (h : s < 2 ^ d.fun_.many) : Dr04.isSet d s = true := decide_eq_true h
theorem ok_bound {f : Addr} {fd : FuncData} (g : Gs mg) (cs : Cs K mg) (k : Kl K C) (cWhat : Cal P w K mg base 2 "what_it_brings" (spWhat K) []) (cOut : Cal P w K mg base 2 "things_outside" spOutside []) (mHas : Met P w K mg base 1 C "has_set" (spHas C) [])
    (me : Meth K C "bound" f) (F : C8.Fun K "bound" "Chooser.bound" (inClass clChooser 8) f fd) (b : Binds K fd ["self", "k", "s"] []) : Met P w K mg base 3 C "bound" (spBound C) [] := by
  have sc : FnScope ["self", "k", "s", "brought", "thing"] ["self", "k", "s"] (C8.fnScope (inClass clChooser 8)) := fnScope_by (by decide +kernel)
  refine met0 k.cl me F b sc (fun vs H Q E h => ?_) (fun cdv A outer s0 H vs Q E hr h => ?_)
  · obtain ⟨c, d, k, s, rfl, _⟩ := h; rfl
  · obtain ⟨c, d, kk, s, rfl, ch, q⟩ := h
    refine ⟨_, pss_cons (ps_if (pt_not (pt_val (pe_mt mHas hr (by decide) (pv 0) (pa_cons (pv 2) pa_nil)))) (pss_one (ps_ret (pe_lst (pa_cons (pe_gc (by rfl) cs.wrongNumbers) pa_nil)))) pss_nil)
      (pss_cons (ps_setLc (i := 3) (own := [("thing", 4)]) (g := gName 4) rfl sc.nd rfl rfl (sw_true rfl rfl rfl (by decide +kernel))
        (pi_list (pe_c cOut hr (by decide) (by rfl) (pa_cons (pe_fld (pv 0) rfl) (pa_cons (pv 2) pa_nil))))
        (blkOk_by (N := ["self", "k", "s", "brought", "thing"]) (sc := C8.fnScope (inClass clChooser 8)) (by decide +kernel)) (fun _ _ _ _ _ => pg_name (i := 4) sc.nd rfl (Or.inl rfl)) (fun _ _ _ _ _ => pts_nil)
        (fun _ _ _ _ _ => pe_c cWhat hr (by decide) (by rfl) (pa_cons (fldK (K := K) rfl (pv 0) rfl) (pa_cons (pv 2) (pa_cons (pv 4) pa_nil)))))
      (pss_one (ps_ret (pe_lst (pa_cons (pe_op op_add (pe_ix ix_list (pe_fld (pv 0) rfl) (pv 2) (fun _ _ => rfl))
        (pe_callB (cr_sum rfl) (by rfl) g.sum boot_sum (pa_cons (pe_slice sl_list (pe_callBK (cr_sortedRev (b := true)) (by rfl) g.srt boot_sorted (pa_cons (pv 3) pa_nil) (pk_cons pe_bl pk_nil)) po_none (po_some (pv 1))) pa_nil))) pa_nil))))), ?_⟩
    have ch' := ch
    obtain ⟨dx, p, hc, hp, wf⟩ := ch'
    have h5 := wf.hi
    refine ⟨_, rfl, c, dx, _, rfl, hc, ch_no _ _ (by decide +kernel) (by decide +kernel), _, rfl, c, d.fun_, s, rfl, ch, _, rfl, ?_⟩
    have e2 : (Dr04.step d (.bound (min kk 100) s)).2 = if Dr04.isSet d s = false then [-1] else [Dr04.bound d.fun_ (min kk 100) s] := rfl
    rw [e2] at q
    by_cases hs : s < 2 ^ d.fun_.many
    case neg =>
      rw [if_pos (isSet_f hs)] at q
      exact if_t (by rw [decide_eq_false hs]; rfl) ⟨(by show 1 ≤ sizeLine; decide), fun r nr => givesL_new q (Same.refl _) nr⟩
    rw [isSet_t hs, if_neg (by decide)] at q
    refine if_f (by rw [decide_eq_true hs]; rfl) ?_
    generalize d.fun_ = f at *
    refine ⟨_, rfl, c, C, dx, _, _, rfl, hc, k.cl, k.n, ch_n f p, _, rfl, f.many, s, rfl, h5, lt32 h5 hs, fun H1 t s1 nt ht => ?_⟩
    refine ⟨t, rfl, ⟨_, .inl (.inl ht)⟩, fun D hD => ?_⟩
    have el : ((out f.many s).map nV).length = (out f.many s).length := List.length_map ..
    have ol := out_len f.many s
    refine lc_w (walk_list (xs := (out f.many s).map nV)) (fun _ => true) (fun i => .int (brings f s ((out f.many s).getD i 0))) (by rw [el]; exact Nat.lt_of_le_of_lt (by omega : _ ≤ 5) (by decide)) hD (fun H' s' => .inl (.inl (s' _ _ ht))) (fun i x H2 H3 hi hS y acc hA Nx hn hy => ?_) (fun H' hS hA => ?_)
    · obtain ⟨rfl, hx⟩ := y
      obtain ⟨z, hz, rfl⟩ := get_map hx
      have mz := (mem_out.mp (List.mem_of_getElem? hz)).1
      refine ⟨rfl, _, rfl, c, C, dx, _, _, rfl, hS _ _ (s1 _ _ hc), k.cl, k.wo, ch_w f p, _, rfl, _, rfl, p, f, s, z, rfl, .inl (.inl (hS _ _ (s1 _ _ hp))), wf, hs, mz, ?_⟩
      have := hy rfl _ (Same.refl _)
      rw [getD_of hz] at this
      exact this
    · rw [filt_all, el, range_getD (fun z => V.int (brings f s z))] at hA
      have s2 : Same H H' := s1.trans hS
      refine ⟨_, rfl, c, C, dx, _, _, rfl, s2 _ _ hc, k.cl, k.wo, ch_w f p, _, rfl, p, _, _, _, rfl, rfl, .inl (.inl (s2 _ _ hp)), at_val wf hs, ?_⟩
      refine ⟨_, rfl, D, (out f.many s).map (brings f s), rfl, rfl, .inl (.inl (by rw [List.map_map]; exact hA)), fun ns' u pm od nu => ?_⟩
      have en : ns' = Dr04.sortDown ((out f.many s).map (brings f s)) := sorted_is pm od
      refine ⟨_, rfl, _, rfl, u, _, rfl, .inl (.inl upd_same), fun v nv => ?_⟩
      rw [cut_take, ← List.map_take]
      refine ⟨v, ns'.take kk, rfl, .inl (.inl upd_same), _, _, rfl, rfl, (by show 1 ≤ sizeLine; decide), fun r nr => ?_⟩
      have e3 : Dr04.bound f (min kk 100) s = val f s + (ns'.take kk).sum := by
        unfold Dr04.bound
        show val f s + (((Dr04.sortDown ((out f.many s).map (brings f s))).take (min kk 100)).foldr (fun a n => a + n) 0) = _
        rw [foldr_sum, take_min _ _ (by rw [sortDown_len, List.length_map]; omega), en]
      rw [e3] at q
      have nu1 : H' u = none := nu
      have s3 : Same H (upd H' u (.lst (ns'.map V.int))) := same_upd (s2.free nu1) s2
      exact givesL_new q (same_upd (s3.free nv) s3) nr
/-! ### brings -/
def spBrings (C : Addr) : Sp := fun vs H Q _ => ∃ (c : Addr) (d : Dr04.St) (s : Nat), vs = [.ref c, nV s] ∧ ChAt C H c d.fun_ ∧ GivesL H Q ((Dr04.step d (.brings s)).2.map V.int)
def pairsB (f : Dr01.Fun) (s : Nat) (l : List Nat) : List V := l.flatMap fun i => [nV i, .int (brings f s i)]
theorem pairsB_more (f : Dr01.Fun) (s : Nat) (l : List Nat) (x : Nat) : pairsB f s (l ++ [x]) = (pairsB f s l ++ [nV x]) ++ [.int (brings f s x)] := by
  unfold pairsB
  rw [List.flatMap_append]
  simp
theorem ok_brings {f : Addr} {fd : FuncData} (g : Gs mg) (cs : Cs K mg) (k : Kl K C) (cWhat : Cal P w K mg base 2 "what_it_brings" (spWhat K) []) (cOut : Cal P w K mg base 2 "things_outside" spOutside []) (mHas : Met P w K mg base 1 C "has_set" (spHas C) [])
    (me : Meth K C "brings" f) (F : C8.Fun K "brings" "Chooser.brings" (inClass clChooser 9) f fd) (b : Binds K fd ["self", "s"] []) : Met P w K mg base 3 C "brings" (spBrings C) [] := by
  have sc : FnScope ["self", "s", "outside", "answer", "thing"] ["self", "s"] (C8.fnScope (inClass clChooser 9)) := fnScope_by (by decide +kernel)
  refine met0 k.cl me F b sc (fun vs H Q E h => ?_) (fun cdv A outer s0 H vs Q E hr h => ?_)
  · obtain ⟨c, d, s, rfl, _⟩ := h; rfl
  · obtain ⟨c, d, s, rfl, ch, q⟩ := h
    refine ⟨_, pss_cons (ps_if (pt_not (pt_val (pe_mt mHas hr (by decide) (pv 0) (pa_cons (pv 1) pa_nil)))) (pss_one (ps_ret (pe_lst (pa_cons (pe_gc (by rfl) cs.wrongNumbers) pa_nil)))) pss_nil)
      (pss_cons (ps_set (i := 2) sc.nd rfl (Or.inl rfl) (pe_c cOut hr (by decide) (by rfl) (pa_cons (pe_fld (pv 0) rfl) (pa_cons (pv 1) pa_nil))))
      (pss_cons (ps_set (i := 3) sc.nd rfl (Or.inl rfl) (pe_lst (pa_cons (pe_callB call_len_seq (by rfl) g.len PySem.boot_len (pa_cons (pv 2) pa_nil)) pa_nil)))
      (pss_cons (ps_for PassesOwn.never rfl (pi_list (pv 2)) (pg_name (i := 4) sc.nd rfl (Or.inl rfl))
        (pss_cons (ps_expr (pe_bm PySem.F.plainAttrs_list PySem.F.slot_list_append PySem.F.type_list_append mt_append (pv 3) (pa_cons (pv 4) pa_nil)))
        (pss_one (ps_expr (pe_bm PySem.F.plainAttrs_list PySem.F.slot_list_append PySem.F.type_list_append mt_append (pv 3) (pa_cons (pe_c cWhat hr (by decide) (by rfl) (pa_cons (pe_fld (pv 0) rfl) (pa_cons (pv 1) (pa_cons (pv 4) pa_nil)))) pa_nil))))))
      (pss_one (ps_ret (pv 3)))))), ?_⟩
    have ch' := ch
    obtain ⟨dx, p, hc, hp, wf⟩ := ch'
    have h5 := wf.hi
    refine ⟨_, rfl, c, dx, _, rfl, hc, ch_no _ _ (by decide +kernel) (by decide +kernel), _, rfl, c, d.fun_, s, rfl, ch, _, rfl, ?_⟩
    have e2 : (Dr04.step d (.brings s)).2 = if Dr04.isSet d s = false then [-1] else (((out d.fun_.many s).length : Int) :: (out d.fun_.many s).flatMap fun (i : Nat) => [((i : Nat) : Int), brings d.fun_ s i]) := rfl
    rw [e2] at q
    by_cases hs : s < 2 ^ d.fun_.many
    case neg =>
      rw [if_pos (isSet_f hs)] at q
      exact if_t (by rw [decide_eq_false hs]; rfl) ⟨(by show 1 ≤ sizeLine; decide), fun r nr => givesL_new q (Same.refl _) nr⟩
    rw [isSet_t hs, if_neg (by decide)] at q
    refine if_f (by rw [decide_eq_true hs]; rfl) ?_
    generalize d.fun_ = f at *
    have ol := out_len f.many s
    refine ⟨_, rfl, c, C, dx, _, _, rfl, hc, k.cl, k.n, ch_n f p, _, rfl, f.many, s, rfl, h5, lt32 h5 hs, fun H1 t s1 nt ht => ?_⟩
    refine ⟨_, rfl, t, _, rfl, .inl (.inl (.inl ht)), (by show 1 ≤ sizeLine; decide), fun r nr => ?_⟩
    have nr0 : H r = none := s1.free nr
    have htr : t ≠ r := ne_of_none ht nr
    refine ⟨_, rfl, t, rfl, ⟨_, .inl (.inl ((upd_ne htr).trans ht))⟩, for_list (K := K) (a := t) (xs := (out f.many s).map nV)
      (fun i σ H' => Same H1 H' ∧ H' r = some (.lst (nV (out f.many s).length :: pairsB f s ((out f.many s).take i))) ∧ ∃ v, σ = [some (.ref c), some (nV s), some (.ref t), some (.ref r), v])
      ⟨same_upd nr (Same.refl _), ?_, none, rfl⟩ (fun i σ H' _ h => .inl (.inl (h.1 _ _ ht))) ?_ ?_⟩
    · rw [upd_same, List.length_map]; rfl
    · rintro i x σ H' hx ⟨sH, hrr, v, rfl⟩
      obtain ⟨z, hz, rfl⟩ := get_map hx
      have mz := (mem_out.mp (List.mem_of_getElem? hz)).1
      have hi : i < (out f.many s).length := (List.getElem?_eq_some_iff.mp hz).1
      have hb : (pairsB f s ((out f.many s).take i)).length ≤ 10 := by
        unfold pairsB
        rw [flat2, List.length_take]
        omega
      refine ⟨_, rfl, .inl ⟨rfl, _, .inl (.inl hrr)⟩, _, rfl, r, _, _, rfl, rfl, hrr, Nat.lt_of_le_of_lt (by rw [List.length_cons]; omega : _ ≤ 11) (by decide), ?_⟩
      have hcr : c ≠ r := ne_of (sH _ _ (s1 _ _ hc)) hrr (by intro z; cases z)
      have hpr : p ≠ r := ne_of_none (s1 _ _ hp) nr
      have htr' : t ≠ r := htr
      refine ⟨_, rfl, .inl ⟨rfl, _, .inl (.inl upd_same)⟩, _, rfl, c, C, dx, _, _, rfl, (upd_ne hcr).trans (sH _ _ (s1 _ _ hc)), k.cl, k.wo, ch_w f p, _, rfl, _, rfl, p, f, s, z, rfl, .inl (.inl ((upd_ne hpr).trans (sH _ _ (s1 _ _ hp)))), wf, hs, mz, ?_⟩
      refine ⟨r, _, _, rfl, rfl, upd_same, Nat.lt_of_le_of_lt (by rw [List.length_append, List.length_cons]; show _ + 1 + 1 ≤ 12; omega : _ ≤ 12) (by decide), ?_⟩
      rw [upd_upd]
      refine ⟨same_upd nr sH, ?_, _, rfl⟩
      rw [upd_same, take_more hz, pairsB_more]
      rfl
    · rintro σ H' ⟨sH, hrr, v, rfl⟩
      rw [List.length_map, List.take_length] at hrr
      refine ⟨_, rfl, q H' r (s1.trans sH) nr0 ?_⟩
      rw [hrr, List.map_cons]
      unfold pairsB
      rw [List.map_flatMap]
      rfl
end
end Cw
set_option Elab.async false
set_option maxRecDepth 100000
set_option maxHeartbeats 2000000
set_option linter.all false
namespace Cw
open PySem PySem.Spec PyProof.Rows L2
open Dr01 (has with_ without val brings)
open C8 (Cal Met Mak cal0 met0 mak0 pe_c pe_mt pe_mt0 pe_gc fnScope_by scC)

/-- lists of two, each at its place, none at q -/
def Twos (H : Hp) (q : Addr) (rs : List Addr) (ps : List (Nat × Nat)) : Prop := rs.length = ps.length ∧ ∀ (k : Nat) (r : Addr), rs[k]? = some r → r ≠ q ∧ ∃ p : Nat × Nat, ps[k]? = some p ∧ H r = some (.lst [nV p.1, nV p.2])
theorem Twos.nil {H : Hp} {q : Addr} : Twos H q [] [] := ⟨rfl, fun k r h => by cases h⟩
theorem Twos.same {H H' : Hp} {q : Addr} {rs : List Addr} {ps : List (Nat × Nat)} (h : Twos H q rs ps) (s : ∀ r o, r ≠ q → H r = some o → H' r = some o) : Twos H' q rs ps := ⟨h.1, fun k r hk => by
  obtain ⟨hq, p, hp, hr⟩ := h.2 k r hk
  exact ⟨hq, p, hp, s _ _ hq hr⟩⟩
theorem Twos.snoc {H : Hp} {q t : Addr} {rs : List Addr} {ps : List (Nat × Nat)} {p : Nat × Nat} (h : Twos H q rs ps) (ht : t ≠ q) (hp : H t = some (.lst [nV p.1, nV p.2])) : Twos H q (rs ++ [t]) (ps ++ [p]) := by
  refine ⟨by rw [List.length_append, List.length_append, h.1]; rfl, fun k r hk => ?_⟩
  by_cases c : k < rs.length
  · rw [List.getElem?_append_left c] at hk
    obtain ⟨hq, p', hp', hr⟩ := h.2 k r hk
    exact ⟨hq, p', by rw [List.getElem?_append_left (by rw [← h.1]; exact c)]; exact hp', hr⟩
  · have hk' := (List.getElem?_eq_some_iff.mp hk).1
    rw [List.length_append] at hk'
    have e : k = rs.length := by
      have : k < rs.length + 1 := hk'
      omega
    subst e
    have e1 : r = t := by
      rw [List.getElem?_append_right (Nat.le_refl _), Nat.sub_self] at hk
      exact (Option.some.inj hk).symm
    subst e1
    refine ⟨ht, p, ?_, hp⟩
    rw [h.1, List.getElem?_append_right (Nat.le_refl _), Nat.sub_self]
    rfl
def flatV2 (ps : List (Nat × Nat)) : List V := ps.flatMap fun p => [nV p.1, nV p.2]
theorem flatV2_len (ps : List (Nat × Nat)) : (flatV2 ps).length = 2 * ps.length := flat2 (fun p : Nat × Nat => nV p.1) (fun p => nV p.2) ps
theorem flatV2_more {ps : List (Nat × Nat)} {i : Nat} {p : Nat × Nat} (h : ps[i]? = some p) : flatV2 (ps.take (i + 1)) = flatV2 (ps.take i) ++ [nV p.1, nV p.2] := by
  unfold flatV2
  rw [take_more h, List.flatMap_append]
  simp
section
variable {P : Program} {w : World} {K : PySem.W.Frag} {mg : Str → Option Value} {base : Heap} {C : Addr}
/-! ### better -/
def spBetter (C : Addr) : Sp := fun vs H Q _ => ∃ (c : Addr) (d : Dr04.St) (s : Nat), vs = [.ref c, nV s] ∧ ChAt C H c d.fun_ ∧ GivesL H Q ((Dr04.step d (.better s)).2.map V.int)
theorem ok_better {f : Addr} {fd : FuncData} (g : Gs mg) (cs : Cs K mg) (k : Kl K C) (cFirst : Cal P w K mg base 3 "first_better_change" (spFirst K) []) (cChanged : Cal P w K mg base 2 "changed" (spChanged K) []) (mHas : Met P w K mg base 1 C "has_set" (spHas C) [])
    (me : Meth K C "better" f) (F : C8.Fun K "better" "Chooser.better" (inClass clChooser 10) f fd) (b : Binds K fd ["self", "s"] []) : Met P w K mg base 4 C "better" (spBetter C) [] := by
  have sc : FnScope ["self", "s", "change"] ["self", "s"] (C8.fnScope (inClass clChooser 10)) := fnScope_by (by decide +kernel)
  refine met0 k.cl me F b sc (fun vs H Q E h => ?_) (fun cdv A outer s0 H vs Q E hr h => ?_)
  · obtain ⟨c, d, s, rfl, _⟩ := h; rfl
  · obtain ⟨c, d, s, rfl, ch, q⟩ := h
    refine ⟨_, pss_cons (ps_if (pt_not (pt_val (pe_mt mHas hr (by decide) (pv 0) (pa_cons (pv 1) pa_nil)))) (pss_one (ps_ret (pe_lst (pa_cons (pe_gc (by rfl) cs.wrongNumbers) pa_nil)))) pss_nil)
      (pss_cons (ps_set (i := 2) sc.nd rfl (Or.inl rfl) (pe_c cFirst hr (by decide) (by rfl) (pa_cons (pe_fld (pv 0) rfl) (pa_cons (pe_fld (pv 0) rfl) (pa_cons (pv 1) pa_nil)))))
      (pss_cons (ps_if (pt_cmpR op_eq (pe_callB call_len_seq (by rfl) g.len PySem.boot_len (pa_cons (pv 2) pa_nil)) pe_int (nomark _)) (pss_one (ps_ret (pe_lst (pa_cons (pe_gc (by rfl) cs.noBetter) pa_nil)))) pss_nil)
      (pss_one (ps_ret (pe_op op_cat (pv 2) (pe_lst (pa_cons (pe_ix ix_list (pe_fld (pv 0) rfl) (pe_c cChanged hr (by decide) (by rfl) (pa_cons (pv 1) (pa_cons (pv 2) pa_nil))) (fun _ _ => rfl)) pa_nil))))))), ?_⟩
    have ch' := ch
    obtain ⟨dx, p, hc, hp, wf⟩ := ch'
    have h5 := wf.hi
    refine ⟨_, rfl, c, dx, _, rfl, hc, ch_no _ _ (by decide +kernel) (by decide +kernel), _, rfl, c, d.fun_, s, rfl, ch, _, rfl, ?_⟩
    have e2 : (Dr04.step d (.better s)).2 = if Dr04.isSet d s = false then [-1] else (match Dr04.better d.fun_ s with
      | none => [-3]
      | some p => Dr04.ints [p.1, p.2] ++ [val d.fun_ (with_ (without s p.1) p.2)]) := rfl
    rw [e2] at q
    by_cases hs : s < 2 ^ d.fun_.many
    case neg =>
      rw [if_pos (isSet_f hs)] at q
      exact if_t (by rw [decide_eq_false hs]; rfl) ⟨(by show 1 ≤ sizeLine; decide), fun r nr => givesL_new q (Same.refl _) nr⟩
    rw [isSet_t hs, if_neg (by decide)] at q
    refine if_f (by rw [decide_eq_true hs]; rfl) ?_
    generalize d.fun_ = f at *
    refine ⟨_, rfl, c, C, dx, _, _, rfl, hc, k.cl, k.n, ch_n f p, _, rfl, c, C, dx, _, _, rfl, hc, k.cl, k.wo, ch_w f p, _, rfl, p, f, s, rfl, .inl (.inl hp), wf, hs, fun H1 t s1 nt ht => ?_⟩
    refine ⟨_, rfl, t, _, rfl, .inl (.inl (.inl ht)), rfl, _, rfl, ?_⟩
    cases eb : Dr04.better f s with
    | none =>
      rw [eb] at q
      refine if_t (decide_eq_true rfl) ⟨(by show 1 ≤ sizeLine; decide), fun r nr => givesL_new q s1 nr⟩
    | some ij =>
      obtain ⟨i, j⟩ := ij
      rw [eb] at q ht
      have bs := better_some eb
      have mi := mem_ins.mp bs.1
      have mj := mem_out.mp bs.2.1
      have hlt := swap_lt f.many (by omega) s hs i (by omega) j (by omega) mj.1.1
      refine if_f (decide_eq_false (by intro z; injection z with z; cases z)) ?_
      refine ⟨_, rfl, _, rfl, c, C, dx, _, _, rfl, s1 _ _ hc, k.cl, k.wo, ch_w f p, _, rfl, _, rfl, t, s, i, j, rfl, .inl (.inl ht), lt32 h5 hs, ⟨⟨mi.1.1, by omega⟩, ⟨mj.1.1, by omega⟩⟩, ⟨mi.2, mj.2⟩, p, _, _, V.int (val f (swap s i j)), rfl, rfl, .inl (.inl (s1 _ _ hp)), at_val wf hlt, (by show 1 ≤ sizeLine; decide), fun r nr => ?_⟩
      refine ⟨t, r, _, _, rfl, rfl, (upd_ne (ne_of_none ht nr)).trans ht, upd_same, (by show 3 ≤ sizeLine; decide), fun u nu => ?_⟩
      exact givesL_new q (same_upd (s1.free nr) s1) nu
/-! ### settle -/
def spSettle (C : Addr) : Sp := fun vs H Q _ => ∃ (c : Addr) (d : Dr04.St) (s : Nat), vs = [.ref c, nV s] ∧ ChAt C H c d.fun_ ∧ GivesL H Q ((Dr04.step d (.settle s)).2.map V.int)
theorem ok_settle {f : Addr} {fd : FuncData} (g : Gs mg) (cs : Cs K mg) (k : Kl K C) (cFirst : Cal P w K mg base 3 "first_better_change" (spFirst K) []) (cChanged : Cal P w K mg base 2 "changed" (spChanged K) []) (mHas : Met P w K mg base 1 C "has_set" (spHas C) []) (mTold : Met P w K mg base 1 C "told" (spTold C) [])
    (me : Meth K C "settle" f) (F : C8.Fun K "settle" "Chooser.settle" (inClass clChooser 11) f fd) (b : Binds K fd ["self", "s"] []) : Met P w K mg base 4 C "settle" (spSettle C) [] := by
  have sc : FnScope ["self", "s", "end", "changes", "change", "answer"] ["self", "s"] (C8.fnScope (inClass clChooser 11)) := fnScope_by (by decide +kernel)
  refine met0 k.cl me F b sc (fun vs H Q E h => ?_) (fun cdv A outer s0 H vs Q E hr h => ?_)
  · obtain ⟨c, d, s, rfl, _⟩ := h; rfl
  · obtain ⟨c, d, s, rfl, ch, q⟩ := h
    refine ⟨_, pss_cons (ps_if (pt_not (pt_val (pe_mt mHas hr (by decide) (pv 0) (pa_cons (pv 1) pa_nil)))) (pss_one (ps_ret (pe_lst (pa_cons (pe_gc (by rfl) cs.wrongNumbers) pa_nil)))) pss_nil)
      (pss_cons (ps_set (i := 2) sc.nd rfl (Or.inl rfl) (pv 1))
      (pss_cons (ps_set (i := 3) sc.nd rfl (Or.inl rfl) (pe_lst pa_nil))
      (pss_cons (ps_set (i := 4) sc.nd rfl (Or.inl rfl) (pe_c cFirst hr (by decide) (by rfl) (pa_cons (pe_fld (pv 0) rfl) (pa_cons (pe_fld (pv 0) rfl) (pa_cons (pv 2) pa_nil)))))
      (pss_cons (ps_while PassesOwn.never (pt_cmpR op_gt (pe_callB call_len_seq (by rfl) g.len PySem.boot_len (pa_cons (pv 4) pa_nil)) pe_int (nomark _))
        (pss_cons (ps_expr (pe_bm PySem.F.plainAttrs_list PySem.F.slot_list_append PySem.F.type_list_append mt_append (pv 3) (pa_cons (pv 4) pa_nil)))
        (pss_cons (ps_set (i := 2) sc.nd rfl (Or.inl rfl) (pe_c cChanged hr (by decide) (by rfl) (pa_cons (pv 2) (pa_cons (pv 4) pa_nil))))
        (pss_one (ps_set (i := 4) sc.nd rfl (Or.inl rfl) (pe_c cFirst hr (by decide) (by rfl) (pa_cons (pe_fld (pv 0) rfl) (pa_cons (pe_fld (pv 0) rfl) (pa_cons (pv 2) pa_nil)))))))))
      (pss_cons (ps_set (i := 5) sc.nd rfl (Or.inl rfl) (pe_op op_cat (pe_mt mTold hr (by decide) (pv 0) (pa_cons (pv 2) pa_nil)) (pe_lst (pa_cons (pe_callB call_len_seq (by rfl) g.len PySem.boot_len (pa_cons (pv 3) pa_nil)) pa_nil))))
      (pss_cons (ps_for PassesOwn.never rfl (pi_list (pv 3)) (pg_name (i := 4) sc.nd rfl (Or.inl rfl))
        (pss_one (ps_expr (pe_bm PySem.F.plainAttrs_list PySem.F.slot_list_extend PySem.F.type_list_extend mt_extend (pv 5) (pa_cons (pv 4) pa_nil)))))
      (pss_one (ps_ret (pv 5))))))))), ?_⟩
    have ch' := ch
    obtain ⟨dx, p, hc, hp, wf⟩ := ch'
    have h5 := wf.hi
    refine ⟨_, rfl, c, dx, _, rfl, hc, ch_no _ _ (by decide +kernel) (by decide +kernel), _, rfl, c, d.fun_, s, rfl, ch, _, rfl, ?_⟩
    have e2 : (Dr04.step d (.settle s)).2 = if Dr04.isSet d s = false then [-1] else (Dr04.shown d.fun_ (Dr04.after s (Dr04.settle d.fun_ (2 ^ d.fun_.many) s)) ++ Dr04.ints ((Dr04.settle d.fun_ (2 ^ d.fun_.many) s).length :: (Dr04.settle d.fun_ (2 ^ d.fun_.many) s).flatMap fun p => [p.1, p.2])) := rfl
    rw [e2] at q
    by_cases hs : s < 2 ^ d.fun_.many
    case neg =>
      rw [if_pos (isSet_f hs)] at q
      exact if_t (by rw [decide_eq_false hs]; rfl) ⟨(by show 1 ≤ sizeLine; decide), fun r nr => givesL_new q (Same.refl _) nr⟩
    rw [isSet_t hs, if_neg (by decide)] at q
    refine if_f (by rw [decide_eq_true hs]; rfl) ?_
    generalize d.fun_ = f at *
    have h32 := pow_le h5
    -- end = s; changes = []
    refine ⟨_, rfl, (by show 0 ≤ sizeLine; decide), fun cg ncg => ?_⟩
    have hccg : c ≠ cg := ne_of_none hc ncg
    have hpcg : p ≠ cg := ne_of_none hp ncg
    have sA : Same H (upd H cg (.lst [])) := same_upd ncg (Same.refl _)
    refine ⟨_, rfl, c, C, dx, _, _, rfl, sA _ _ hc, k.cl, k.n, ch_n f p, _, rfl, c, C, dx, _, _, rfl, sA _ _ hc, k.cl, k.wo, ch_w f p, _, rfl, p, f, s, rfl, .inl (.inl (sA _ _ hp)), wf, hs, fun H1 t1 s1 nt1 ht1 => ?_⟩
    have ht1c : t1 ≠ cg := fun e => by rw [e, upd_same] at nt1; cases nt1
    refine ⟨fun m σ H' => ∃ (e : Nat) (t : Addr) (rs : List Addr) (ps : List (Nat × Nat)), m = rank f e ∧ e < 2 ^ f.many ∧ rank f e + ps.length ≤ 2 ^ f.many ∧ Same H H' ∧ H' cg = some (.lst (rs.map V.ref)) ∧ Twos H' cg rs ps ∧ t ≠ cg ∧ H' t = some (.lst (pairV (Dr04.better f e))) ∧
        ps ++ Dr04.settle f (2 ^ f.many - ps.length) e = Dr04.settle f (2 ^ f.many) s ∧ Dr04.after s ps = e ∧ σ = [some (.ref c), some (nV s), some (nV e), some (.ref cg), some (.ref t), none],
      ⟨_, s, t1, [], [], rfl, hs, rank_le f s, sA.trans s1, s1 _ _ upd_same, Twos.nil, ht1c, ht1, rfl, rfl, rfl⟩, ?_⟩
    rintro m σ H' ⟨e, t, rs, ps, rfl, he, hrk, sH, hcg, tw, htc, ht, hst, haf, rfl⟩
    refine ⟨_, rfl, t, _, rfl, .inl (.inl (.inl ht)), _, _, rfl, rfl, _, rfl, ?_⟩
    have hl32 : ps.length ≤ 32 := by omega
    cases eb : Dr04.better f e with
    | some ij =>
      obtain ⟨i, j⟩ := ij
      rw [eb] at ht
      have bs := better_some eb
      have mi := mem_ins.mp bs.1
      have mj := mem_out.mp bs.2.1
      have rk := rank_swap wf he eb
      refine if_t (decide_eq_true (by show (0 : Int) < 2; decide)) ?_
      refine ⟨fun σ' H' => ∃ m', m' < rank f e ∧ _, fun σ' H' h => h, ?_⟩
      refine ⟨_, rfl, .inl ⟨rfl, _, .inl (.inl hcg)⟩, _, rfl, cg, _, _, rfl, rfl, hcg, ?_, ?_⟩
      · rw [List.length_map, tw.1]
        exact Nat.lt_of_le_of_lt hl32 (by decide)
      have sB : Same H (upd H' cg (.lst (rs.map V.ref ++ [V.ref t]))) := same_upd ncg sH
      refine ⟨_, rfl, _, rfl, t, e, i, j, rfl, .inl (.inl ((upd_ne htc).trans ht)), lt32 h5 he, ⟨⟨mi.1.1, by omega⟩, ⟨mj.1.1, by omega⟩⟩, ⟨mi.2, mj.2⟩, ?_⟩
      refine ⟨_, rfl, c, C, dx, _, _, rfl, sB _ _ hc, k.cl, k.n, ch_n f p, _, rfl, c, C, dx, _, _, rfl, sB _ _ hc, k.cl, k.wo, ch_w f p, _, rfl, p, f, swap e i j, rfl, .inl (.inl (sB _ _ hp)), wf, rk.1, fun H2 t2 s2 nt2 ht2 => ?_⟩
      have ht2c : t2 ≠ cg := fun e => by rw [e, upd_same] at nt2; cases nt2
      refine ⟨_, rk.2, swap e i j, t2, rs ++ [t], ps ++ [(i, j)], rfl, rk.1, ?_, sB.trans s2, ?_, ?_, ht2c, ht2, ?_, ?_, rfl⟩
      · rw [List.length_append]
        have := rk.2
        show rank f (swap e i j) + (ps.length + 1) ≤ 2 ^ f.many
        omega
      · rw [List.map_append]
        exact s2 _ _ upd_same
      · exact Twos.snoc (p := (i, j)) (tw.same fun r o hne hr => s2 _ _ ((upd_ne hne).trans hr)) htc (s2 _ _ ((upd_ne htc).trans ht))
      · have hpos : 0 < 2 ^ f.many - ps.length := by
          have := rk.2
          omega
        rw [← hst, settle_go eb hpos, List.append_assoc, List.length_append]
        rfl
      · unfold Dr04.after at haf ⊢
        rw [List.foldl_append, haf]
        rfl
    | none =>
      refine if_f (decide_eq_false (by show ¬ (0 : Int) < 0; decide)) ?_
      rw [settle_stop eb, List.append_nil] at hst
      rw [← hst, haf] at q
      have chH := ch.same sH
      refine ⟨_, rfl, c, dx, _, rfl, sH _ _ hc, ch_no _ _ (by decide +kernel) (by decide +kernel), _, rfl, c, f, e, rfl, chH, he, fun H5 r s5 nr hr5 => ?_⟩
      refine ⟨_, rfl, cg, _, rfl, .inl (.inl (.inl (s5 _ _ hcg))), (by show 1 ≤ sizeLine; decide), fun v nv => ?_⟩
      refine ⟨r, v, _, _, rfl, rfl, (upd_ne (ne_of_none hr5 nv)).trans hr5, upd_same, (by show 3 ≤ sizeLine; decide), fun u nu => ?_⟩
      have s6 : Same H5 (upd H5 v (.lst [V.int ((rs.map V.ref).length : Int)])) := same_upd nv (Same.refl _)
      generalize hH6 : upd H5 v (.lst [V.int ((rs.map V.ref).length : Int)]) = H6 at *
      have s56 : Same H' H6 := s5.trans s6
      have hcg6 := s56 _ _ hcg
      have hucg : cg ≠ u := ne_of_none hcg6 nu
      refine ⟨_, rfl, cg, rfl, ⟨_, .inl (.inl ((upd_ne hucg).trans hcg6))⟩, for_list (K := K) (a := cg) (xs := rs.map V.ref)
        (fun i σ H' => Same H6 H' ∧ H' u = some (.lst ((Dr04.shown f e).map V.int ++ [nV ps.length] ++ flatV2 (ps.take i))) ∧ ∃ v4, σ = [some (.ref c), some (nV s), some (nV e), some (.ref cg), v4, some (.ref u)])
        ⟨same_upd nu (Same.refl _), ?_, _, rfl⟩ (fun i σ H' _ h => .inl (.inl (h.1 _ _ hcg6))) ?_ ?_⟩
      · rw [upd_same, List.length_map, tw.1]
        show _ = some (HO.lst (_ ++ []))
        rw [List.append_nil]
      · rintro i x σ H7 hx ⟨s7, hu, v4, rfl⟩
        obtain ⟨rr, hrr, rfl⟩ := get_map hx
        obtain ⟨_, pp, hpp, hrv⟩ := tw.2 i rr hrr
        have hrv7 := s7 _ _ (s56 _ _ hrv)
        refine ⟨_, rfl, .inl ⟨rfl, _, .inl (.inl hu)⟩, _, rfl, u, rr, _, _, rfl, rfl, hu, hrv7, ?_, same_upd nu s7, ?_, _, rfl⟩
        · rw [List.length_append, flatV2_len, List.length_take]
          exact Nat.le_trans (by show 3 + _ + 2 ≤ 100; omega) (by decide)
        · rw [upd_same, flatV2_more hpp, List.append_assoc]
      · rintro σ H7 ⟨s7, hu, v4, rfl⟩
        rw [List.length_map, tw.1, List.take_length] at hu
        have sF : Same H H7 := (sH.trans s56).trans s7
        refine ⟨_, rfl, q H7 u sF ((sH.trans s56).free nu) ?_⟩
        rw [hu, List.map_append]
        unfold Dr04.ints flatV2
        rw [List.map_cons, List.map_cons, List.map_flatMap, List.map_flatMap, List.append_assoc]
        rfl
end
end Cw
set_option Elab.async false
set_option maxRecDepth 100000
set_option maxHeartbeats 2000000
set_option linter.all false
namespace Cw
open PySem PySem.Spec PyProof.Rows L2
open Dr01 (has with_ without val brings)
open C8 (Cal Met Mak cal0 met0 mak0 pe_c pe_mt pe_mt0 pe_gc fnScope_by scC)
theorem setsTo_all (n : Nat) : setsTo n n = List.range (2 ^ n) := by
  unfold setsTo
  exact List.filter_eq_self.mpr fun s _ => decide_eq_true (ins_len n s)
theorem paid_all {f : Dr01.Fun} {p : List Nat} (h : p.length = f.many) (b : Nat) : paid b p (setsTo f.many f.many) = payable f p b := by
  rw [setsTo_all]
  unfold paid payable
  congr 1
  funext s
  rw [price_is, h]
theorem paid_three {f : Dr01.Fun} {p : List Nat} (h : p.length = f.many) (b : Nat) : paid b p (setsTo f.many 3) = starts f p b := by
  unfold paid setsTo starts
  rw [List.filter_filter]
  congr 1
  funext s
  rw [price_is, h]
  exact Bool.and_comm _ _
theorem setsTo_len {n : Nat} (k : Nat) (h : n ≤ 5) : (setsTo n k).length ≤ 32 := by
  unfold setsTo
  refine Nat.le_trans (List.length_filter_le _ _) ?_
  rw [List.length_range]
  exact pow_le h
theorem setsTo_lt {n k s : Nat} (h : s ∈ setsTo n k) : s < 2 ^ n := List.mem_range.mp (List.mem_filter.mp h).1
theorem starts_lt {f : Dr01.Fun} {p : List Nat} {b s : Nat} (h : s ∈ starts f p b) : s < 2 ^ f.many := List.mem_range.mp (List.mem_filter.mp h).1
theorem pricesOk_len {n : Nat} {p : List Nat} (h : pricesOk n p = true) : p.length = n := by
  unfold pricesOk at h
  rw [Bool.and_eq_true, beq_iff_eq] at h
  exact h.1
/-- the best of what is made, by whatever order it rises in -/
theorem best_sorted {f : Dr01.Fun} {p : List Nat} {b : Nat} {L : List Nat} {x : Nat} {r : List Nat} (e : L = x :: r) (hp : L.Pairwise (· ≤ ·)) (hm : ∀ y, y ∈ L ↔ y ∈ (starts f p b).map (Dr04.greedFor f p b f.many)) :
    (x :: r).foldl (better2 f) x = Dr04.threeFor f p b := by
  subst e
  exact IsBest.one (IsBest.perm (best_head hp) hm) (three_is f p b)
theorem int_back {ns : List Int} {M : List Nat} (h : ∀ z ∈ ns, z ∈ M.map fun (x : Nat) => (x : Int)) : ns.map V.int = (ns.map Int.toNat).map nV := by
  rw [List.map_map]
  refine List.map_congr_left fun z m => ?_
  have := h z m
  rw [List.mem_map] at this
  obtain ⟨x, _, rfl⟩ := this
  rfl
section
variable {P : Program} {w : World} {K : PySem.W.Frag} {mg : Str → Option Value} {base : Heap} {C : Addr}
/-! ### spend -/
def spSpend (K : PySem.W.Frag) (C : Addr) : Sp := fun vs H Q _ => ∃ (c a : Addr) (d : Dr04.St) (b : Nat) (p : List Nat), vs = [.ref c, nV b, .ref a] ∧ ChAt C H c d.fun_ ∧ SqL K H a (p.map nV) ∧ GivesL H Q ((Dr04.step d (.spend b p)).2.map V.int)
theorem ok_spend {f : Addr} {fd : FuncData} (cs : Cs K mg) (k : Kl K C) (cPrices : Cal P w K mg base 1 "prices_fit" (spPrices K) []) (cSets : Cal P w K mg base 3 "sets_up_to" spSets []) (cPaid : Cal P w K mg base 4 "paid_with" (spPaid K) []) (cBestOf : Cal P w K mg base 1 "best_of" (spBestOf K) []) (mTold : Met P w K mg base 1 C "told" (spTold C) [])
    (me : Meth K C "spend" f) (F : C8.Fun K "spend" "Chooser.spend" (inClass clChooser 12) f fd) (b : Binds K fd ["self", "b", "prices"] []) : Met P w K mg base 5 C "spend" (spSpend K C) [] := by
  have sc : FnScope ["self", "b", "prices", "paid"] ["self", "b", "prices"] (C8.fnScope (inClass clChooser 12)) := fnScope_by (by decide +kernel)
  refine met0 k.cl me F b sc (fun vs H Q E h => ?_) (fun cdv A outer s0 H vs Q E hr h => ?_)
  · obtain ⟨c, a, d, b, p, rfl, _⟩ := h; rfl
  · obtain ⟨c, a, d, b, pr, rfl, ch, ha, q⟩ := h
    refine ⟨_, pss_cons (ps_if (pt_not (pt_val (pe_c cPrices hr (by decide) (by rfl) (pa_cons (pe_fld (pv 0) rfl) (pa_cons (pv 2) pa_nil))))) (pss_one (ps_ret (pe_lst (pa_cons (pe_gc (by rfl) cs.wrongNumbers) pa_nil)))) pss_nil)
      (pss_cons (ps_set (i := 3) sc.nd rfl (Or.inl rfl) (pe_c cPaid hr (by decide) (by rfl) (pa_cons (pv 1) (pa_cons (pv 2) (pa_cons (pe_c cSets hr (by decide) (by rfl) (pa_cons (pe_fld (pv 0) rfl) (pa_cons (pe_fld (pv 0) rfl) pa_nil))) pa_nil)))))
      (pss_one (ps_ret (pe_mt mTold hr (by decide) (pv 0) (pa_cons (pe_c cBestOf hr (by decide) (by rfl) (pa_cons (pe_fld (pv 0) rfl) (pa_cons (pv 3) pa_nil))) pa_nil))))), ?_⟩
    have ch' := ch
    obtain ⟨dx, p, hc, hp, wf⟩ := ch'
    have h5 := wf.hi
    have e2 : (Dr04.step d (.spend b pr)).2 = if pricesOk d.fun_.many pr = false then [-1] else Dr04.shown d.fun_ (Dr04.bestFor d.fun_ pr b) := rfl
    rw [e2] at q
    generalize d.fun_ = f at *
    refine ⟨_, rfl, c, C, dx, _, _, rfl, hc, k.cl, k.n, ch_n f p, _, rfl, a, f.many, pr, rfl, ha, wf.lo, _, rfl, ?_⟩
    cases hk : pricesOk f.many pr with
    | false =>
      rw [hk, if_pos rfl] at q
      exact iteT ⟨(by show 1 ≤ sizeLine; decide), fun r nr => givesL_new q (Same.refl _) nr⟩
    | true =>
      rw [hk, if_neg (by decide)] at q
      have hpl := pricesOk_len hk
      refine iteF ?_
      refine ⟨_, rfl, _, rfl, _, rfl, c, C, dx, _, _, rfl, hc, k.cl, k.n, ch_n f p, _, rfl, c, C, dx, _, _, rfl, hc, k.cl, k.n, ch_n f p, f.many, f.many, rfl, ⟨wf.lo, h5⟩, fun H1 t1 s1 nt1 ht1 => ?_⟩
      refine ⟨a, t1, b, pr, setsTo f.many f.many, rfl, s1.seq ha, .inl (.inl ht1), by omega, setsTo_len _ h5, fun s m => lt32 h5 (setsTo_lt m), fun H2 t2 s2 nt2 ht2 => ?_⟩
      rw [paid_all hpl] at ht2
      obtain ⟨r, hr0⟩ := payable_head f pr b
      have ht2' : H2 t2 = some (.lst ((0 :: r).map nV)) := by rw [← hr0]; exact ht2
      have sS := s1.trans s2
      refine ⟨_, rfl, c, dx, _, rfl, sS _ _ hc, ch_no _ _ (by decide +kernel) (by decide +kernel), _, rfl, c, C, dx, _, _, rfl, sS _ _ hc, k.cl, k.wo, ch_w f p, _, rfl, p, t2, f, 0, r, rfl, .inl (.inl (sS _ _ hp)), .inl (.inl ht2'), wf, fun s m => mem_payable (by rw [hr0]; exact m), ?_⟩
      rw [← hr0, ← bestFor_is]
      exact ⟨c, f, _, rfl, ch.same sS, bestFor_lt f pr b, givesL_mono q sS⟩
/-! ### greedily -/
def spGreedily (K : PySem.W.Frag) (C : Addr) : Sp := fun vs H Q _ => ∃ (c a : Addr) (d : Dr04.St) (b : Nat) (p : List Nat), vs = [.ref c, nV b, .ref a] ∧ ChAt C H c d.fun_ ∧ SqL K H a (p.map nV) ∧ GivesL H Q ((Dr04.step d (.greedily b p)).2.map V.int)
theorem ok_greedily {f : Addr} {fd : FuncData} (cs : Cs K mg) (k : Kl K C) (cPrices : Cal P w K mg base 1 "prices_fit" (spPrices K) []) (cGreedFor : Cal P w K mg base 5 "greed_for_price" (spGreedFor K) []) (mTold : Met P w K mg base 1 C "told" (spTold C) [])
    (me : Meth K C "greedily" f) (F : C8.Fun K "greedily" "Chooser.greedily" (inClass clChooser 13) f fd) (b : Binds K fd ["self", "b", "prices"] []) : Met P w K mg base 6 C "greedily" (spGreedily K C) [] := by
  have sc : FnScope ["self", "b", "prices"] ["self", "b", "prices"] (C8.fnScope (inClass clChooser 13)) := fnScope_by (by decide +kernel)
  refine met0 k.cl me F b sc (fun vs H Q E h => ?_) (fun cdv A outer s0 H vs Q E hr h => ?_)
  · obtain ⟨c, a, d, b, p, rfl, _⟩ := h; rfl
  · obtain ⟨c, a, d, b, pr, rfl, ch, ha, q⟩ := h
    refine ⟨_, pss_cons (ps_if (pt_not (pt_val (pe_c cPrices hr (by decide) (by rfl) (pa_cons (pe_fld (pv 0) rfl) (pa_cons (pv 2) pa_nil))))) (pss_one (ps_ret (pe_lst (pa_cons (pe_gc (by rfl) cs.wrongNumbers) pa_nil)))) pss_nil)
      (pss_one (ps_ret (pe_mt mTold hr (by decide) (pv 0) (pa_cons (pe_c cGreedFor hr (by decide) (by rfl) (pa_cons (pe_fld (pv 0) rfl) (pa_cons (pv 1) (pa_cons (pv 2) (pa_cons pe_int pa_nil))))) pa_nil)))), ?_⟩
    have ch' := ch
    obtain ⟨dx, p, hc, hp, wf⟩ := ch'
    have e2 : (Dr04.step d (.greedily b pr)).2 = if pricesOk d.fun_.many pr = false then [-1] else Dr04.shown d.fun_ (Dr04.greedFor d.fun_ pr b d.fun_.many 0) := rfl
    rw [e2] at q
    generalize d.fun_ = f at *
    refine ⟨_, rfl, c, C, dx, _, _, rfl, hc, k.cl, k.n, ch_n f p, _, rfl, a, f.many, pr, rfl, ha, wf.lo, _, rfl, ?_⟩
    cases hk : pricesOk f.many pr with
    | false =>
      rw [hk, if_pos rfl] at q
      exact iteT ⟨(by show 1 ≤ sizeLine; decide), fun r nr => givesL_new q (Same.refl _) nr⟩
    | true =>
      rw [hk, if_neg (by decide)] at q
      have hpl := pricesOk_len hk
      refine iteF ?_
      refine ⟨_, rfl, c, dx, _, rfl, hc, ch_no _ _ (by decide +kernel) (by decide +kernel), _, rfl, c, C, dx, _, _, rfl, hc, k.cl, k.wo, ch_w f p, _, rfl, _, rfl, p, a, f, pr, b, 0, rfl, .inl (.inl hp), ha, wf, hpl, Nat.two_pow_pos _, fun H1 s1 => ?_⟩
      exact ⟨c, f, _, rfl, ch.same s1, greedFor_lt wf _ _ (Nat.two_pow_pos _), givesL_mono q s1⟩
/-! ### three -/
def spThree (K : PySem.W.Frag) (C : Addr) : Sp := fun vs H Q _ => ∃ (c a : Addr) (d : Dr04.St) (b : Nat) (p : List Nat), vs = [.ref c, nV b, .ref a] ∧ ChAt C H c d.fun_ ∧ SqL K H a (p.map nV) ∧ GivesL H Q ((Dr04.step d (.three b p)).2.map V.int)
theorem ok_three {f : Addr} {fd : FuncData} (g : Gs mg) (cs : Cs K mg) (k : Kl K C) (cPrices : Cal P w K mg base 1 "prices_fit" (spPrices K) []) (cSets : Cal P w K mg base 3 "sets_up_to" spSets []) (cPaid : Cal P w K mg base 4 "paid_with" (spPaid K) []) (cBestOf : Cal P w K mg base 1 "best_of" (spBestOf K) []) (cGreedFor : Cal P w K mg base 5 "greed_for_price" (spGreedFor K) []) (mTold : Met P w K mg base 1 C "told" (spTold C) [])
    (me : Meth K C "three" f) (F : C8.Fun K "three" "Chooser.three" (inClass clChooser 14) f fd) (b : Binds K fd ["self", "b", "prices"] []) : Met P w K mg base 6 C "three" (spThree K C) [] := by
  have sc : FnScope ["self", "b", "prices", "paid", "made", "begun"] ["self", "b", "prices"] (C8.fnScope (inClass clChooser 14)) := fnScope_by (by decide +kernel)
  refine met0 k.cl me F b sc (fun vs H Q E h => ?_) (fun cdv A outer s0 H vs Q E hr h => ?_)
  · obtain ⟨c, a, d, b, p, rfl, _⟩ := h; rfl
  · obtain ⟨c, a, d, b, pr, rfl, ch, ha, q⟩ := h
    refine ⟨_, pss_cons (ps_if (pt_not (pt_val (pe_c cPrices hr (by decide) (by rfl) (pa_cons (pe_fld (pv 0) rfl) (pa_cons (pv 2) pa_nil))))) (pss_one (ps_ret (pe_lst (pa_cons (pe_gc (by rfl) cs.wrongNumbers) pa_nil)))) pss_nil)
      (pss_cons (ps_set (i := 3) sc.nd rfl (Or.inl rfl) (pe_c cPaid hr (by decide) (by rfl) (pa_cons (pv 1) (pa_cons (pv 2) (pa_cons (pe_c cSets hr (by decide) (by rfl) (pa_cons (pe_fld (pv 0) rfl) (pa_cons (pe_gc (by rfl) cs.mostBegun) pa_nil))) pa_nil)))))
      (pss_cons (ps_setLc (i := 4) (own := [("begun", 5)]) (g := gName 5) rfl sc.nd rfl rfl (sw_true rfl rfl rfl (by decide +kernel)) (pi_list (pv 3))
        (blkOk_by (N := ["self", "b", "prices", "paid", "made", "begun"]) (sc := C8.fnScope (inClass clChooser 14)) (by decide +kernel)) (fun _ _ _ _ _ => pg_name (i := 5) sc.nd rfl (Or.inl rfl)) (fun _ _ _ _ _ => pts_nil)
        (fun _ _ _ _ _ => pe_c cGreedFor hr (by decide) (by rfl) (pa_cons (fldK (K := K) rfl (pv 0) rfl) (pa_cons (pv 1) (pa_cons (pv 2) (pa_cons (pv 5) pa_nil))))))
      (pss_one (ps_ret (pe_mt mTold hr (by decide) (pv 0) (pa_cons (pe_c cBestOf hr (by decide) (by rfl) (pa_cons (pe_fld (pv 0) rfl) (pa_cons (pe_callB cr_sorted (by rfl) g.srt boot_sorted (pa_cons (pv 4) pa_nil)) pa_nil))) pa_nil)))))), ?_⟩
    have ch' := ch
    obtain ⟨dx, p, hc, hp, wf⟩ := ch'
    have h5 := wf.hi
    have e2 : (Dr04.step d (.three b pr)).2 = if pricesOk d.fun_.many pr = false then [-1] else Dr04.shown d.fun_ (Dr04.threeFor d.fun_ pr b) := rfl
    rw [e2] at q
    generalize d.fun_ = f at *
    refine ⟨_, rfl, c, C, dx, _, _, rfl, hc, k.cl, k.n, ch_n f p, _, rfl, a, f.many, pr, rfl, ha, wf.lo, _, rfl, ?_⟩
    cases hk : pricesOk f.many pr with
    | false =>
      rw [hk, if_pos rfl] at q
      exact iteT ⟨(by show 1 ≤ sizeLine; decide), fun r nr => givesL_new q (Same.refl _) nr⟩
    | true =>
      rw [hk, if_neg (by decide)] at q
      have hpl := pricesOk_len hk
      refine iteF ?_
      refine ⟨_, rfl, _, rfl, _, rfl, c, C, dx, _, _, rfl, hc, k.cl, k.n, ch_n f p, f.many, 3, rfl, ⟨wf.lo, h5⟩, fun H1 t1 s1 nt1 ht1 => ?_⟩
      refine ⟨a, t1, b, pr, setsTo f.many 3, rfl, s1.seq ha, .inl (.inl ht1), by omega, setsTo_len _ h5, fun s m => lt32 h5 (setsTo_lt m), fun H2 t2 s2 nt2 ht2 => ?_⟩
      have sS := s1.trans s2
      have hSl : (starts f pr b).length ≤ 32 := by
        rw [← paid_three hpl]
        unfold paid
        exact Nat.le_trans (List.length_filter_le _ _) (setsTo_len _ h5)
      rw [paid_three hpl] at ht2
      generalize hst : starts f pr b = S at *
      have hlt : ∀ s ∈ S, s < 2 ^ f.many := fun s m => starts_lt (by rw [hst]; exact m)
      have el : (S.map nV).length = S.length := List.length_map ..
      refine ⟨_, rfl, t2, rfl, ⟨_, .inl (.inl ht2)⟩, fun D hD => ?_⟩
      refine lc_w (walk_list (xs := S.map nV)) (fun _ => true) (fun i => nV (Dr04.greedFor f pr b f.many (S.getD i 0))) (by rw [el]; exact Nat.lt_of_le_of_lt hSl (by decide)) hD (fun H' s' => .inl (.inl (s' _ _ ht2))) (fun i x H3 H4 hi hS y acc hA Nx hn hy => ?_) (fun H' hS hA => ?_)
      · obtain ⟨rfl, hx⟩ := y
        obtain ⟨z, hz, rfl⟩ := get_map hx
        have mz := hlt z (List.mem_of_getElem? hz)
        have s3 := sS.trans hS
        refine ⟨rfl, _, rfl, c, C, dx, _, _, rfl, s3 _ _ hc, k.cl, k.wo, ch_w f p, _, rfl, _, rfl, _, rfl, p, a, f, pr, b, z, rfl, .inl (.inl (s3 _ _ hp)), s3.seq ha, wf, hpl, mz, fun H5 s5 => ?_⟩
        have := hy rfl _ s5
        rw [getD_of hz] at this
        exact this
      · rw [filt_all, el, range_getD (fun z => nV (Dr04.greedFor f pr b f.many z))] at hA
        have s3 := sS.trans hS
        have hA' : H' D = some (.lst (((S.map (Dr04.greedFor f pr b f.many)).map fun (z : Nat) => (z : Int)).map V.int)) := by
          rw [hA, ← map_nV, List.map_map]; rfl
        refine ⟨_, rfl, c, dx, _, rfl, s3 _ _ hc, ch_no _ _ (by decide +kernel) (by decide +kernel), _, rfl, c, C, dx, _, _, rfl, s3 _ _ hc, k.cl, k.wo, ch_w f p, _, rfl, D, _, rfl, .inl (.inl hA'), by rw [List.length_map, List.length_map]; omega, fun ns' u pm od nu => ?_⟩
        have hmm : ∀ z ∈ ns', z ∈ (S.map (Dr04.greedFor f pr b f.many)).map fun (x : Nat) => (x : Int) := fun z m => pm.mem_iff.mp m
        have eb := int_back hmm
        have hm : ∀ y, y ∈ ns'.map Int.toNat ↔ y ∈ S.map (Dr04.greedFor f pr b f.many) := by
          intro y
          rw [List.mem_map]
          constructor
          · rintro ⟨z, hz, rfl⟩
            have := hmm z hz
            rw [List.mem_map] at this
            obtain ⟨x, hx, rfl⟩ := this
            exact hx
          · intro hy
            exact ⟨(y : Int), pm.mem_iff.mpr (List.mem_map.mpr ⟨y, hy, rfl⟩), rfl⟩
        have hod : (ns'.map Int.toNat).Pairwise (· ≤ ·) := by
          rw [List.pairwise_map]
          exact od.imp fun h => Int.toNat_le_toNat h
        have hne : ns'.map Int.toNat ≠ [] := by
          intro e
          obtain ⟨r, hr0⟩ := starts_head f pr b
          have : Dr04.greedFor f pr b f.many 0 ∈ ns'.map Int.toNat := (hm _).mpr (List.mem_map.mpr ⟨0, by rw [← hst, hr0]; exact List.mem_cons_self .., rfl⟩)
          rw [e] at this
          cases this
        have hltL : ∀ y ∈ ns'.map Int.toNat, y < 2 ^ f.many := by
          intro y my
          obtain ⟨s, ms, e⟩ := List.mem_map.mp ((hm y).mp my)
          rw [← e]
          exact greedFor_lt wf _ _ (hlt s ms)
        rw [eb]
        generalize hL : ns'.map Int.toNat = L at *
        cases L with
        | nil => exact absurd rfl hne
        | cons x r =>
          have ebest := best_sorted (f := f) (p := pr) (b := b) rfl hod (by rw [hst]; exact hm)
          have s4 : Same H (upd H' u (.lst ((x :: r).map nV))) := same_upd (s3.free nu) s3
          refine ⟨p, u, f, x, r, rfl, .inl (.inl (s4 _ _ hp)), .inl (.inl upd_same), wf, hltL, ?_⟩
          rw [ebest]
          exact ⟨c, f, _, rfl, ch.same s4, three_lt wf pr b, givesL_mono q s4⟩
/-! ### curve -/
def spCurve (C : Addr) : Sp := fun vs H Q _ => ∃ (c : Addr) (d : Dr04.St), vs = [.ref c] ∧ ChAt C H c d.fun_ ∧ GivesL H Q ((Dr04.step d .curve).2.map V.int)
def curveV (f : Dr01.Fun) (i : Nat) : List V := (List.range i).flatMap fun k => [V.int (val f (Dr04.best f k)), V.int (val f (Dr04.greedy f k))]
theorem curveV_more (f : Dr01.Fun) (i : Nat) : curveV f (i + 1) = (curveV f i ++ [V.int (val f (Dr04.best f i))]) ++ [V.int (val f (Dr04.greedy f i))] := by
  unfold curveV
  rw [List.range_succ, List.flatMap_append]
  simp
theorem curveV_len (f : Dr01.Fun) (i : Nat) : (curveV f i).length = 2 * i := by
  unfold curveV
  rw [flat2, List.length_range]
theorem ok_curve {f : Addr} {fd : FuncData} (g : Gs mg) (k : Kl K C) (mBest : Met P w K mg base 4 C "best" (spBest C) []) (mGreed : Met P w K mg base 5 C "greed" (spGreedM C) [])
    (me : Meth K C "curve" f) (F : C8.Fun K "curve" "Chooser.curve" (inClass clChooser 15) f fd) (b : Binds K fd ["self"] []) : Met P w K mg base 6 C "curve" (spCurve C) [] := by
  have sc : FnScope ["self", "answer", "k"] ["self"] (C8.fnScope (inClass clChooser 15)) := fnScope_by (by decide +kernel)
  refine met0 k.cl me F b sc (fun vs H Q E h => ?_) (fun cdv A outer s0 H vs Q E hr h => ?_)
  · obtain ⟨c, d, rfl, _⟩ := h; rfl
  · obtain ⟨c, d, rfl, ch, q⟩ := h
    refine ⟨_, pss_cons (ps_set (i := 1) sc.nd rfl (Or.inl rfl) (pe_lst pa_nil))
      (pss_cons (ps_for PassesOwn.never rfl (pi_range1 (by rfl) g.rng (pa_cons (pe_op op_add (pe_fld (pv 0) rfl) pe_int) pa_nil)) (pg_name (i := 2) sc.nd rfl (Or.inl rfl))
        (pss_cons (ps_expr (pe_bm PySem.F.plainAttrs_list PySem.F.slot_list_append PySem.F.type_list_append mt_append (pv 1) (pa_cons (pe_ix ix_list (pe_mt mBest hr (by decide) (pv 0) (pa_cons (pv 2) pa_nil)) pe_int (fun _ _ => rfl)) pa_nil)))
        (pss_one (ps_expr (pe_bm PySem.F.plainAttrs_list PySem.F.slot_list_append PySem.F.type_list_append mt_append (pv 1) (pa_cons (pe_ix ix_list (pe_mt mGreed hr (by decide) (pv 0) (pa_cons (pv 2) pa_nil)) pe_int (fun _ _ => rfl)) pa_nil))))))
      (pss_one (ps_ret (pv 1)))), ?_⟩
    have ch' := ch
    obtain ⟨dx, p, hc, hp, wf⟩ := ch'
    have h5 := wf.hi
    have e2 : (Dr04.step d .curve).2 = (List.range (d.fun_.many + 1)).flatMap fun k => [val d.fun_ (Dr04.best d.fun_ k), val d.fun_ (Dr04.greedy d.fun_ k)] := rfl
    rw [e2] at q
    refine ⟨(by show 0 ≤ sizeLine; decide), fun r nr => ?_⟩
    have sA : Same H (upd H r (.lst [])) := same_upd nr (Same.refl _)
    refine ⟨_, rfl, c, C, dx, _, _, rfl, sA _ _ hc, k.cl, k.n, ch_n d.fun_ p, _, _, rfl, rfl, (d.fun_.many : Int) + 1, rfl, by omega, by omega, ?_⟩
    have en : ((d.fun_.many : Int) + 1).toNat = d.fun_.many + 1 := by omega
    rw [en]
    refine for_it walk_range (fun i σ H' => Same H H' ∧ H' r = some (.lst (curveV d.fun_ i)) ∧ ∃ v, σ = [some (.ref c), some (.ref r), v]) ⟨sA, upd_same, none, rfl⟩ (fun _ _ _ _ _ => trivial) (fun i x σ H1 H2 hi hp' y => ?_) (fun σ H1 hp' => ?_)
    · obtain ⟨sH, hrr, v, rfl⟩ := hp'
      obtain ⟨rfl, hx⟩ := y
      replace hx : x = nV i := hx.trans (congrArg V.int (by omega : (0 : Int) + (i : Int) = (i : Int)))
      subst hx
      have cl := curveV_len d.fun_ i
      refine ⟨_, rfl, .inl ⟨rfl, _, .inl (.inl hrr)⟩, _, rfl, c, dx, _, rfl, sH _ _ hc, ch_no _ _ (by decide +kernel) (by decide +kernel), _, rfl, c, d.fun_, i, rfl, ch.same sH, fun H3 b3 s3 nb3 hb3 => ?_⟩
      have hr3 := s3 _ _ hrr
      refine ⟨b3, _, _, V.int (val d.fun_ (Dr04.best d.fun_ i)), rfl, rfl, .inl (.inl hb3), atI_nat (j := 0) rfl, r, _, _, rfl, rfl, hr3, Nat.lt_of_le_of_lt (by omega : _ ≤ 20) (by decide), ?_⟩
      have sB : Same H (upd H3 r (.lst (curveV d.fun_ i ++ [V.int (val d.fun_ (Dr04.best d.fun_ i))]))) := same_upd nr (sH.trans s3)
      refine ⟨_, rfl, .inl ⟨rfl, _, .inl (.inl upd_same)⟩, _, rfl, c, dx, _, rfl, sB _ _ hc, ch_no _ _ (by decide +kernel) (by decide +kernel), _, rfl, c, d, i, rfl, ch.same sB, fun H5 b5 s5 nb5 hb5 => ?_⟩
      have em : min i 100 = i := by omega
      rw [em] at hb5
      have hr5 := s5 _ _ upd_same
      refine ⟨b5, _, _, V.int (val d.fun_ (Dr04.greedy d.fun_ i)), rfl, rfl, .inl (.inl hb5), atI_nat (j := 0) rfl, r, _, _, rfl, rfl, hr5, Nat.lt_of_le_of_lt (by rw [List.length_append]; show _ + 1 ≤ 20; omega : _ ≤ 20) (by decide), ?_⟩
      refine ⟨same_upd nr (sB.trans s5), ?_, _, rfl⟩
      rw [upd_same, curveV_more]
    · obtain ⟨sH, hrr, v, rfl⟩ := hp'
      refine ⟨_, rfl, q H1 r sH nr ?_⟩
      rw [hrr, List.map_flatMap]
      rfl
end
end Cw
set_option Elab.async false
set_option maxRecDepth 100000
set_option maxHeartbeats 2000000
set_option linter.all false
namespace Cw
open PySem PySem.Spec PyProof.Rows L2
open Dr01 (has with_ without val brings)
open C8 (Cal Met Mak cal0 met0 mak0 pe_c pe_mt pe_mt0 pe_gc fnScope_by scC)
/-! ### the reader -/
def rdF (a : Addr) (i : Nat) : List (Str × V) := [("calls", .ref a), ("at", nV i)]
def RdAt (R : Addr) (H : Hp) (r a : Addr) (i : Nat) : Prop := ∃ dx, H r = some (.ins R dx (rdF a i))
theorem rd_c (a : Addr) (i : Nat) : (rdF a i).lookup ("calls" : Str) = some (.ref a) := lk1
theorem rd_a (a : Addr) (i : Nat) : (rdF a i).lookup ("at" : Str) = some (nV i) := lk2 (by decide +kernel)
theorem rd_no (a : Addr) (i : Nat) {m : Str} (h1 : (m == ("calls" : Str)) = false) (h2 : (m == ("at" : Str)) = false) : (rdF a i).lookup m = none := lk0 h1 h2
theorem rd_put (a : Addr) (i : Nat) (v : V) : putF "at" v (rdF a i) = [(("calls" : Str), .ref a), (("at" : Str), v)] := by
  unfold rdF putF
  rw [if_neg (by decide +kernel)]
  unfold putF
  rw [if_pos rfl]
structure Rl (K : PySem.W.Frag) (R : Addr) : Prop where
  cl : Cls K R
  c : NoAttr K R "calls"
  a : NoAttr K R "at"
abbrev clReader : Stmt := top 48
section
variable {P : Program} {w : World} {K : PySem.W.Frag} {mg : Str → Option Value} {base : Heap} {C R : Addr}
def spRInit (R : Addr) : Sp := fun vs H Q _ => ∃ (r dx a : Addr), vs = [.ref r, .ref a] ∧ H r = some (.ins R dx []) ∧ ∀ H', RdAt R H' r a 0 → Kept H H' r → Q .non H'
theorem ok_rinit {f : Addr} {fd : FuncData} (k : Rl K R) (F : C8.Fun K "__init__" "Reader.__init__" (inClass clReader 0) f fd) (b : Binds K fd ["self", "calls"] []) : FnOk P w K mg base C8.CX0 1 f fd ["self", "calls"] (spRInit R) := by
  have sc : FnScope ["self", "calls"] ["self", "calls"] (C8.fnScope (inClass clReader 0)) := fnScope_by (by decide +kernel)
  refine C8.fn0 F sc (fun vs H Q E h => ?_) (fun cdv A outer s0 H vs Q E hr h => ?_)
  · obtain ⟨c, dx, a, rfl, _⟩ := h; rfl
  · obtain ⟨c, dx, a, rfl, hc, q⟩ := h
    refine ⟨_, pss_cons (ps_fld (pv 0) (pv 1) rfl) (pss_one (ps_fld (pv 0) pe_int rfl)), ?_⟩
    refine ⟨_, rfl, _, rfl, c, R, dx, _, rfl, hc, k.cl, k.c, (by show 0 < 1000; decide), ?_⟩
    refine ⟨_, rfl, c, R, dx, _, rfl, upd_same, k.cl, k.a, (by show 1 < 1000; decide), ?_⟩
    refine q _ ⟨dx, ?_⟩ ?_
    · refine upd_same.trans (congrArg (fun z => some (HO.ins R dx z)) ?_)
      show putF "at" (.int 0) [(("calls" : Str), .ref a)] = _
      unfold putF
      rw [if_neg (by decide +kernel)]
      rfl
    · intro b o hb hne
      rw [upd_ne hne, upd_ne hne]
      exact hb
def spMore (K : PySem.W.Frag) (R : Addr) : Sp := fun vs H Q _ => ∃ (r a : Addr) (zs : List Nat) (i : Nat), vs = [.ref r] ∧ RdAt R H r a i ∧ SqL K H a (zs.map nV) ∧ Q (.bl (decide (i < zs.length))) H
theorem ok_more {f : Addr} {fd : FuncData} (g : Gs mg) (k : Rl K R) (me : Meth K R "has_more" f) (F : C8.Fun K "has_more" "Reader.has_more" (inClass clReader 1) f fd) (b : Binds K fd ["self"] []) : Met P w K mg base 1 R "has_more" (spMore K R) [] := by
  have sc : FnScope ["self"] ["self"] (C8.fnScope (inClass clReader 1)) := fnScope_by (by decide +kernel)
  refine met0 k.cl me F b sc (fun vs H Q E h => ?_) (fun cdv A outer s0 H vs Q E hr h => ?_)
  · obtain ⟨c, a, zs, i, rfl, _⟩ := h; rfl
  · obtain ⟨r, a, zs, i, rfl, ⟨dx, h1⟩, hl, q⟩ := h
    refine ⟨_, pss_one (ps_ret (pe_cmpR op_lt (pe_fld (pv 0) rfl) (pe_callB call_len_seq (by rfl) g.len PySem.boot_len (pa_cons (pe_fld (pv 0) rfl) pa_nil)) (nomark _))), ?_⟩
    refine ⟨_, rfl, r, R, dx, _, _, rfl, h1, k.cl, k.a, rd_a a i, _, rfl, r, R, dx, _, _, rfl, h1, k.cl, k.c, rd_c a i, a, _, rfl, .inl hl, _, _, rfl, rfl, ?_⟩
    have e : decide ((i : Int) < ((zs.map nV).length : Int)) = decide (i < zs.length) := by
      rw [List.length_map]
      congr 1
      rw [eq_iff_iff]
      exact Int.ofNat_lt
    show Q (.bl (decide ((i : Int) < ((zs.map nV).length : Int)))) H
    rw [e]
    exact q
def spNumber (K : PySem.W.Frag) (R : Addr) : Sp := fun vs H Q _ => ∃ (r a : Addr) (zs : List Nat) (i z : Nat), vs = [.ref r] ∧ RdAt R H r a i ∧ SqL K H a (zs.map nV) ∧ zs[i]? = some z ∧ ∀ H', RdAt R H' r a (i + 1) → Kept H H' r → Q (nV z) H'
theorem ok_number {f : Addr} {fd : FuncData} (k : Rl K R) (me : Meth K R "number" f) (F : C8.Fun K "number" "Reader.number" (inClass clReader 2) f fd) (b : Binds K fd ["self"] []) : Met P w K mg base 1 R "number" (spNumber K R) [] := by
  have sc : FnScope ["self", "number"] ["self"] (C8.fnScope (inClass clReader 2)) := fnScope_by (by decide +kernel)
  refine met0 k.cl me F b sc (fun vs H Q E h => ?_) (fun cdv A outer s0 H vs Q E hr h => ?_)
  · obtain ⟨c, a, zs, i, z, rfl, _⟩ := h; rfl
  · obtain ⟨r, a, zs, i, z, rfl, ⟨dx, h1⟩, hl, hz, q⟩ := h
    refine ⟨_, pss_cons (ps_set (i := 1) sc.nd rfl (Or.inl rfl) (pe_ix ix_list (pe_fld (pv 0) rfl) (pe_fld (pv 0) rfl) (fun _ _ => rfl)))
      (pss_cons (ps_fld (pv 0) (pe_op op_add (pe_fld (pv 0) rfl) pe_int) rfl) (pss_one (ps_ret (pv 1)))), ?_⟩
    refine ⟨_, rfl, r, R, dx, _, _, rfl, h1, k.cl, k.c, rd_c a i, _, rfl, r, R, dx, _, _, rfl, h1, k.cl, k.a, rd_a a i, a, _, _, nV z, rfl, rfl, hl, atI_nat (by rw [List.getElem?_map, hz]; rfl), ?_⟩
    refine ⟨_, rfl, r, R, dx, _, _, rfl, h1, k.cl, k.a, rd_a a i, _, _, rfl, rfl, _, rfl, r, R, dx, _, rfl, h1, k.cl, k.a, (by show 2 < 1000; decide), _, rfl, ?_⟩
    refine q _ ⟨dx, ?_⟩ ?_
    · refine upd_same.trans (congrArg (fun z => some (HO.ins R dx z)) ?_)
      rw [rd_put]; rfl
    · intro b o hb hne
      rw [upd_ne hne]
      exact hb
def spRow (K : PySem.W.Frag) (R : Addr) : Sp := fun vs H Q _ => ∃ (r a : Addr) (zs : List Nat) (i m : Nat), vs = [.ref r] ∧ RdAt R H r a i ∧ SqL K H a (zs.map nV) ∧ zs[i]? = some m ∧ i + 1 + m ≤ zs.length ∧
  ∀ H' q, RdAt R H' r a (i + 1 + m) → Kept H H' r → H q = none → H' q = some (.lst (((zs.drop (i + 1)).take m).map nV)) → Q (.ref q) H'
theorem cut_mid (xs : List V) (i m : Nat) (h : i + m ≤ xs.length) : cutV xs (some (i : Int)) (some ((i : Int) + (m : Int))) = (xs.drop i).take m := by
  unfold cutV
  have e : (i : Int) + (m : Int) = ((i + m : Nat) : Int) := by omega
  rw [e, HT.sIx_nat, HT.sIx_nat, Nat.min_eq_left (by omega : i ≤ xs.length), Nat.min_eq_left h]
  congr 1
  omega
theorem kept_seq {H H' : Hp} {r a : Addr} {xs : List V} (hk : Kept H H' r) (h : SqL K H a xs) {o : HO} (hr : H r = some o) (hne : ∀ ys, o ≠ .lst ys) (hnf : ∀ z ys, o ≠ .frz z (.lst ys)) : SqL K H' a xs := by
  rcases h with (h | ⟨z, h⟩) | h
  · exact .inl (.inl (hk _ _ h (fun e => by rw [e, hr] at h; exact hne _ (Option.some.inj h))))
  · exact .inl (.inr ⟨z, hk _ _ h (fun e => by rw [e, hr] at h; exact hnf _ _ (Option.some.inj h))⟩)
  · exact .inr h
theorem ok_row {f : Addr} {fd : FuncData} (k : Rl K R) (mNum : Met P w K mg base 1 R "number" (spNumber K R) []) (me : Meth K R "row" f) (F : C8.Fun K "row" "Reader.row" (inClass clReader 3) f fd) (b : Binds K fd ["self"] []) : Met P w K mg base 2 R "row" (spRow K R) [] := by
  have sc : FnScope ["self", "size", "row"] ["self"] (C8.fnScope (inClass clReader 3)) := fnScope_by (by decide +kernel)
  refine met0 k.cl me F b sc (fun vs H Q E h => ?_) (fun cdv A outer s0 H vs Q E hr h => ?_)
  · obtain ⟨c, a, zs, i, z, rfl, _⟩ := h; rfl
  · obtain ⟨r, a, zs, i, m, rfl, ⟨dx, h1⟩, hl, hz, hm, q⟩ := h
    refine ⟨_, pss_cons (ps_set (i := 1) sc.nd rfl (Or.inl rfl) (pe_mt0 mNum hr (by decide) (pv 0)))
      (pss_cons (ps_set (i := 2) sc.nd rfl (Or.inl rfl) (pe_slice sl_list (pe_fld (pv 0) rfl) (po_some (pe_fld (pv 0) rfl)) (po_some (pe_op op_add (pe_fld (pv 0) rfl) (pv 1)))))
      (pss_cons (ps_fld (pv 0) (pe_op op_add (pe_fld (pv 0) rfl) (pv 1)) rfl) (pss_one (ps_ret (pv 2))))), ?_⟩
    refine ⟨_, rfl, r, dx, _, rfl, h1, rd_no a i (by decide +kernel) (by decide +kernel), r, a, zs, i, m, rfl, ⟨dx, h1⟩, hl, hz, fun H1 rd1 k1 => ?_⟩
    obtain ⟨dx1, h2⟩ := rd1
    have hl1 : SqL K H1 a (zs.map nV) := kept_seq k1 hl h1 (fun _ z => by cases z) (fun _ _ z => by cases z)
    refine ⟨_, rfl, r, R, dx1, _, _, rfl, h2, k.cl, k.c, rd_c a _, _, rfl, r, R, dx1, _, _, rfl, h2, k.cl, k.a, rd_a a _, _, rfl, _, rfl, r, R, dx1, _, _, rfl, h2, k.cl, k.a, rd_a a _, _, rfl, _, _, rfl, rfl, _, rfl, a, _, rfl, hl1, fun p np => ?_⟩
    have hrp : r ≠ p := ne_of_none h2 np
    have np0 : H p = none := by
      cases e : H p with
      | none => rfl
      | some o =>
        have := k1 _ _ e (fun z => hrp z.symm)
        rw [this] at np; cases np
    refine ⟨_, rfl, r, R, dx1, _, _, rfl, (upd_ne hrp).trans h2, k.cl, k.a, rd_a a _, _, rfl, _, _, rfl, rfl, _, rfl, r, R, dx1, _, rfl, (upd_ne hrp).trans h2, k.cl, k.a, (by show 2 < 1000; decide), _, rfl, ?_⟩
    refine q _ p ⟨dx1, ?_⟩ ?_ np0 ?_
    · refine upd_same.trans (congrArg (fun z => some (HO.ins R dx1 z)) ?_)
      rw [rd_put]; rfl
    · intro b o hb hne
      rw [upd_ne hne, upd_ne (ne_of_none hb np0)]
      exact k1 _ _ hb hne
    · rw [upd_ne (fun e => hrp e.symm), upd_same]
      have := cut_mid (zs.map nV) (i + 1) m (by rw [List.length_map]; exact hm)
      rw [this, List.map_take, List.map_drop]
end
end Cw
set_option Elab.async false
set_option maxRecDepth 100000
set_option maxHeartbeats 2000000
set_option linter.all false
namespace Cw
open PySem PySem.Spec PyProof.Rows L2
open Dr01 (has with_ without val brings)
open C8 (Cal Met Mak cal0 met0 mak0 pe_c pe_mt pe_mt0 pe_gc fnScope_by scC)
/-- the calls' numbers -/
structure Ns (mg : Str → Option Value) : Prop where
  c0 : IsC mg "TELL" (.int 0)
  c1 : IsC mg "COVER" (.int 1)
  c2 : IsC mg "BEST" (.int 2)
  c3 : IsC mg "GREED" (.int 3)
  c4 : IsC mg "BOUND" (.int 4)
  c5 : IsC mg "BRINGS" (.int 5)
  c6 : IsC mg "BETTER" (.int 6)
  c7 : IsC mg "SETTLE" (.int 7)
  c8 : IsC mg "SPEND" (.int 8)
  c9 : IsC mg "GREEDILY" (.int 9)
  c10 : IsC mg "THREE" (.int 10)
  c11 : IsC mg "CURVE" (.int 11)
theorem tnil {σ : L2.St} {H : Hp} {Q : List V → Hp → Prop} (h : Q [] H) : tNil σ H Q := h
/-- all but two objects is as it was -/
def Kept2 (H H' : Hp) (c r : Addr) : Prop := ∀ b o, H b = some o → b ≠ c → b ≠ r → H' b = some o
theorem drop_get {zs r : List Nat} {i z : Nat} (h : zs.drop i = z :: r) : zs[i]? = some z ∧ zs.drop (i + 1) = r ∧ i + 1 + r.length = zs.length := by
  have h1 : zs[i]? = some z := by
    have := congrArg (fun l => l[0]?) h
    simpa using this
  have h2 : zs.drop (i + 1) = r := by
    have := congrArg (fun l => l.drop 1) h
    simpa [List.drop_drop] using this
  refine ⟨h1, h2, ?_⟩
  have hi := (List.getElem?_eq_some_iff.mp h1).1
  have := congrArg List.length h2
  rw [List.length_drop] at this
  omega
theorem dec_ne {a b : Int} (h : a ≠ b) : decide (V.int a = V.int b) = false := decide_eq_false fun e => h (by injection e)
theorem dec_eq {a b : Int} (h : a = b) : decide (V.int a = V.int b) = true := decide_eq_true (congrArg V.int h)
section
variable {P : Program} {w : World} {K : PySem.W.Frag} {mg : Str → Option Value} {base : Heap} {C R : Addr}
theorem Kept.ch {C : Addr} {B : Addr → Prop} {H H' : Hp} {c r : Addr} {f : Dr01.Fun} (k : Kept H H' r) (h : ChA C B H c f) {o : HO} (hr : H r = some o) (hcr : c ≠ r) (hne : ∀ ys, o ≠ .lst ys) : ChA C B H' c f := by
  obtain ⟨dx, p, h1, h2, h3, h4⟩ := h
  exact ⟨dx, p, k _ _ h1 hcr, k _ _ h2 (fun e => by rw [e, hr] at h2; exact hne _ (Option.some.inj h2)), h3, h4⟩
theorem ChAt.kept {C : Addr} {H H' : Hp} {c r : Addr} {f : Dr01.Fun} (k : Kept H H' r) (h : ChAt C H c f) {o : HO} (hr : H r = some o) (hcr : c ≠ r) (hne : ∀ ys, o ≠ .lst ys) : ChAt C H' c f := by
  obtain ⟨dx, p, h1, h2, h3⟩ := h
  exact ⟨dx, p, k _ _ h1 hcr, k _ _ h2 (fun e => by rw [e, hr] at h2; exact hne _ (Option.some.inj h2)), h3⟩
/-! ### answer_priced_call -/
abbrev sPriced : Stmt := top 49
def spPriced (K : PySem.W.Frag) (C R : Addr) : Sp := fun vs H Q _ => ∃ (c r a : Addr) (d : Dr04.St) (zs : List Nat) (i z b m : Nat) (x : Dr04.Call), vs = [.ref c, nV z, .ref r] ∧ ChAt C H c d.fun_ ∧ RdAt R H r a i ∧ c ≠ r ∧ SqL K H a (zs.map nV) ∧ zs[i]? = some b ∧ zs[i + 1]? = some m ∧ i + 1 + 1 + m ≤ zs.length ∧
  ((z = 8 ∧ x = .spend b ((zs.drop (i + 1 + 1)).take m)) ∨ (z = 9 ∧ x = .greedily b ((zs.drop (i + 1 + 1)).take m)) ∨ (z = 10 ∧ x = .three b ((zs.drop (i + 1 + 1)).take m))) ∧
  ∀ H1, Kept H H1 r → RdAt R H1 r a (i + 1 + 1 + m) → GivesL H1 Q ((Dr04.step d x).2.map V.int)
theorem ok_priced {f : Addr} {fd : FuncData} (n : Ns mg) (mNum : Met P w K mg base 1 R "number" (spNumber K R) []) (mRow : Met P w K mg base 2 R "row" (spRow K R) [])
    (mSpend : Met P w K mg base 5 C "spend" (spSpend K C) []) (mGreedily : Met P w K mg base 6 C "greedily" (spGreedily K C) []) (mThree : Met P w K mg base 6 C "three" (spThree K C) [])
    (D : C8.Def K mg "answer_priced_call" sPriced f fd) (b : Binds K fd ["chooser", "call", "reader"] []) : Cal P w K mg base 7 "answer_priced_call" (spPriced K C R) [] := by
  have sc : FnScope ["chooser", "call", "reader", "b", "prices"] ["chooser", "call", "reader"] (C8.fnScope sPriced) := fnScope_by (by decide +kernel)
  refine cal0 D b .nil (N := ["chooser", "call", "reader", "b", "prices"]) sc (fun vs H Q E h => ?_) (fun cdv A outer s0 H vs Q E hr h => ?_)
  · obtain ⟨c, r, a, d, zs, i, z, b, m, x, rfl, _⟩ := h; rfl
  · obtain ⟨c, r, a, d, zs, i, z, b, m, x, rfl, ch, rd, hcr, hl, hb, hm, hle, hx, q⟩ := h
    refine ⟨_, pss_cons (ps_set (i := 3) sc.nd rfl (Or.inl rfl) (pe_mt0 mNum hr (by decide) (pv 2)))
      (pss_cons (ps_set (i := 4) sc.nd rfl (Or.inl rfl) (pe_mt0 mRow hr (by decide) (pv 2)))
      (pss_cons (ps_if (pt_cmpR op_eq (pv 1) (pe_gc (by rfl) n.c8) (nomark _)) (pss_one (ps_ret (pe_mt mSpend hr (by decide) (pv 0) (pa_cons (pv 3) (pa_cons (pv 4) pa_nil))))) pss_nil)
      (pss_cons (ps_if (pt_cmpR op_eq (pv 1) (pe_gc (by rfl) n.c9) (nomark _)) (pss_one (ps_ret (pe_mt mGreedily hr (by decide) (pv 0) (pa_cons (pv 3) (pa_cons (pv 4) pa_nil))))) pss_nil)
      (pss_one (ps_ret (pe_mt mThree hr (by decide) (pv 0) (pa_cons (pv 3) (pa_cons (pv 4) pa_nil)))))))), ?_⟩
    have rd' := rd
    obtain ⟨dx, h0⟩ := rd'
    refine ⟨_, rfl, r, dx, _, rfl, h0, rd_no a i (by decide +kernel) (by decide +kernel), tnil ⟨r, a, zs, i, b, rfl, rd, hl, hb, fun H1 rd1 k1 => ?_⟩⟩
    have rd1' := rd1
    obtain ⟨dx1, h1⟩ := rd1'
    have hl1 : SqL K H1 a (zs.map nV) := kept_seq k1 hl h0 (fun _ z => by cases z) (fun _ _ z => by cases z)
    have ch1 : ChAt C H1 c d.fun_ := ch.kept k1 h0 hcr (fun _ z => by cases z)
    refine ⟨_, rfl, r, dx1, _, rfl, h1, rd_no a _ (by decide +kernel) (by decide +kernel), tnil ⟨r, a, zs, i + 1, m, rfl, rd1, hl1, hm, hle, fun H2 p rd2 k2 np hp => ?_⟩⟩
    have ch2 : ChAt C H2 c d.fun_ := ch1.kept k2 h1 hcr (fun _ z => by cases z)
    have k02 : Kept H H2 r := fun b o hb hne => k2 _ _ (k1 _ _ hb hne) hne
    have q2 := q H2 k02 rd2
    have ch2' := ch2
    obtain ⟨dc, pc, hc2, _, _⟩ := ch2'
    rcases hx with ⟨rfl, rfl⟩ | ⟨rfl, rfl⟩ | ⟨rfl, rfl⟩
    · refine ⟨_, rfl, rfl, _, rfl, if_t (dec_eq rfl) ?_⟩
      exact ⟨_, rfl, c, dc, _, rfl, hc2, ch_no _ _ (by decide +kernel) (by decide +kernel), _, rfl, _, rfl, c, p, d, b, _, rfl, ch2, .inl (.inl hp), q2⟩
    · refine ⟨_, rfl, rfl, _, rfl, if_f (dec_ne (by decide)) ?_⟩
      refine ⟨_, rfl, rfl, _, rfl, if_t (dec_eq rfl) ?_⟩
      exact ⟨_, rfl, c, dc, _, rfl, hc2, ch_no _ _ (by decide +kernel) (by decide +kernel), _, rfl, _, rfl, c, p, d, b, _, rfl, ch2, .inl (.inl hp), q2⟩
    · refine ⟨_, rfl, rfl, _, rfl, if_f (dec_ne (by decide)) ?_⟩
      refine ⟨_, rfl, rfl, _, rfl, if_f (dec_ne (by decide)) ?_⟩
      exact ⟨_, rfl, c, dc, _, rfl, hc2, ch_no _ _ (by decide +kernel) (by decide +kernel), _, rfl, _, rfl, c, p, d, b, _, rfl, ch2, .inl (.inl hp), q2⟩
/-! ### answer_call -/
abbrev sAnswer : Stmt := top 50
def spAnswer (K : PySem.W.Frag) (C R : Addr) : Sp := fun vs H Q _ => ∃ (c r a : Addr) (d : Dr04.St) (zs : List Nat) (i : Nat) (x : Dr04.Call) (t : List Nat) (B : Addr → Prop), vs = [.ref c, .ref r] ∧ ChA C B H c d.fun_ ∧ (∀ p, H p = none → B p) ∧ RdAt R H r a i ∧ c ≠ r ∧ SqL K H a (zs.map nV) ∧ One (zs.drop i) x t ∧
  ∀ H' q j, Kept2 H H' c r → ChA C B H' c (Dr04.step d x).1.fun_ → RdAt R H' r a j → zs.drop j = t → j ≤ zs.length → H q = none → H' q = some (.lst ((Dr04.step d x).2.map V.int)) → Q (.ref q) H'
theorem ok_answer {f : Addr} {fd : FuncData} (n : Ns mg) (rl : Rl K R) (mNum : Met P w K mg base 1 R "number" (spNumber K R) []) (mRow : Met P w K mg base 2 R "row" (spRow K R) [])
    (mTell : Met P w K mg base 6 C "tell" (spTell K C) []) (mCover : Met P w K mg base 6 C "cover" (spCover K C) []) (mBest : Met P w K mg base 4 C "best" (spBest C) []) (mGreed : Met P w K mg base 5 C "greed" (spGreedM C) [])
    (mBound : Met P w K mg base 3 C "bound" (spBound C) []) (mBrings : Met P w K mg base 3 C "brings" (spBrings C) [])
    (mBetter : Met P w K mg base 4 C "better" (spBetter C) []) (mSettle : Met P w K mg base 4 C "settle" (spSettle C) []) (mCurve : Met P w K mg base 6 C "curve" (spCurve C) []) (cPriced : Cal P w K mg base 7 "answer_priced_call" (spPriced K C R) [])
    (D : C8.Def K mg "answer_call" sAnswer f fd) (b : Binds K fd ["chooser", "reader"] []) : Cal P w K mg base 8 "answer_call" (spAnswer K C R) [] := by
  have sc : FnScope ["chooser", "reader", "call", "n", "k"] ["chooser", "reader"] (C8.fnScope sAnswer) := fnScope_by (by decide +kernel)
  refine cal0 D b .nil (N := ["chooser", "reader", "call", "n", "k"]) sc (fun vs H Q E h => ?_) (fun cdv A outer s0 H vs Q E hr h => ?_)
  · obtain ⟨c, r, a, d, zs, i, x, t, B, rfl, _⟩ := h; rfl
  · obtain ⟨c, r, a, d, zs, i, x, t, B, rfl, ch, hfr, rd, hcr, hl, one, q⟩ := h
    refine ⟨_, pss_cons (ps_set (i := 2) sc.nd rfl (Or.inl rfl) (pe_mt0 mNum hr (by decide) (pv 1)))
      (pss_cons (ps_if (pt_cmpR op_eq (pv 2) (pe_gc (by rfl) n.c0) (nomark _)) (pss_one (ps_ret (pe_mt mTell hr (by decide) (pv 0) (pa_cons (pe_mt0 mRow hr (by decide) (pv 1)) pa_nil)))) pss_nil)
      (pss_cons (ps_if (pt_cmpR op_eq (pv 2) (pe_gc (by rfl) n.c1) (nomark _)) (pss_cons (ps_set (i := 3) sc.nd rfl (Or.inl rfl) (pe_mt0 mNum hr (by decide) (pv 1))) (pss_one (ps_ret (pe_mt mCover hr (by decide) (pv 0) (pa_cons (pv 3) (pa_cons (pe_mt0 mRow hr (by decide) (pv 1)) pa_nil)))))) pss_nil)
      (pss_cons (ps_if (pt_cmpR op_eq (pv 2) (pe_gc (by rfl) n.c2) (nomark _)) (pss_one (ps_ret (pe_mt mBest hr (by decide) (pv 0) (pa_cons (pe_mt0 mNum hr (by decide) (pv 1)) pa_nil)))) pss_nil)
      (pss_cons (ps_if (pt_cmpR op_eq (pv 2) (pe_gc (by rfl) n.c3) (nomark _)) (pss_one (ps_ret (pe_mt mGreed hr (by decide) (pv 0) (pa_cons (pe_mt0 mNum hr (by decide) (pv 1)) pa_nil)))) pss_nil)
      (pss_cons (ps_if (pt_cmpR op_eq (pv 2) (pe_gc (by rfl) n.c4) (nomark _)) (pss_cons (ps_set (i := 4) sc.nd rfl (Or.inl rfl) (pe_mt0 mNum hr (by decide) (pv 1))) (pss_one (ps_ret (pe_mt mBound hr (by decide) (pv 0) (pa_cons (pv 4) (pa_cons (pe_mt0 mNum hr (by decide) (pv 1)) pa_nil)))))) pss_nil)
      (pss_cons (ps_if (pt_cmpR op_eq (pv 2) (pe_gc (by rfl) n.c5) (nomark _)) (pss_one (ps_ret (pe_mt mBrings hr (by decide) (pv 0) (pa_cons (pe_mt0 mNum hr (by decide) (pv 1)) pa_nil)))) pss_nil)
      (pss_cons (ps_if (pt_cmpR op_eq (pv 2) (pe_gc (by rfl) n.c6) (nomark _)) (pss_one (ps_ret (pe_mt mBetter hr (by decide) (pv 0) (pa_cons (pe_mt0 mNum hr (by decide) (pv 1)) pa_nil)))) pss_nil)
      (pss_cons (ps_if (pt_cmpR op_eq (pv 2) (pe_gc (by rfl) n.c7) (nomark _)) (pss_one (ps_ret (pe_mt mSettle hr (by decide) (pv 0) (pa_cons (pe_mt0 mNum hr (by decide) (pv 1)) pa_nil)))) pss_nil)
      (pss_cons (ps_if (pt_cmpR op_eq (pv 2) (pe_gc (by rfl) n.c11) (nomark _)) (pss_one (ps_ret (pe_mt0 mCurve hr (by decide) (pv 0)))) pss_nil)
      (pss_cons (ps_if (pt_cmpR op_in_seq (pv 2) (pe_tup (pa_cons (pe_gc (by rfl) n.c8) (pa_cons (pe_gc (by rfl) n.c9) (pa_cons (pe_gc (by rfl) n.c10) pa_nil)))) (by rfl)) (pss_one (ps_ret (pe_c cPriced hr (by decide) (by rfl) (pa_cons (pv 0) (pa_cons (pv 2) (pa_cons (pv 1) pa_nil)))))) pss_nil)
      (pss_one ps_never))))))))))), ?_⟩
    -- one step of reading, told once
    have read : ∀ (H0 : Hp) (j z : Nat), RdAt R H0 r a j → ChA C B H0 c d.fun_ → SqL K H0 a (zs.map nV) → Kept H H0 r → zs[j]? = some z → ∀ Q1 : VK,
        (∀ H1, RdAt R H1 r a (j + 1) → ChA C B H1 c d.fun_ → SqL K H1 a (zs.map nV) → Kept H H1 r → Q1 (nV z) H1) → spNumber K R [.ref r] H0 Q1 C8.E0 := by
      intro H0 j z rd0 ch0 hl0 k0 hz Q1 q1
      have rd0' := rd0
      obtain ⟨dx0, h0⟩ := rd0'
      refine ⟨r, a, zs, j, z, rfl, rd0, hl0, hz, fun H1 rd1 k1 => q1 H1 rd1 (k1.ch ch0 h0 hcr (fun _ z => by cases z)) (kept_seq k1 hl0 h0 (fun _ z => by cases z) (fun _ _ z => by cases z)) (fun b o hb hne => k1 _ _ (k0 _ _ hb hne) hne)⟩
    have readRow : ∀ (H0 : Hp) (j m : Nat), RdAt R H0 r a j → ChA C B H0 c d.fun_ → SqL K H0 a (zs.map nV) → Kept H H0 r → zs[j]? = some m → j + 1 + m ≤ zs.length → ∀ Q1 : VK,
        (∀ H1 p, RdAt R H1 r a (j + 1 + m) → ChA C B H1 c d.fun_ → Kept H H1 r → H1 p = some (.lst (((zs.drop (j + 1)).take m).map nV)) → Q1 (.ref p) H1) → spRow K R [.ref r] H0 Q1 C8.E0 := by
      intro H0 j z rd0 ch0 hl0 k0 hz hm Q1 q1
      have rd0' := rd0
      obtain ⟨dx0, h0⟩ := rd0'
      exact ⟨r, a, zs, j, z, rfl, rd0, hl0, hz, hm, fun H1 p rd1 k1 _ hp => q1 H1 p rd1 (k1.ch ch0 h0 hcr (fun _ z => by cases z)) (fun b o hb hne => k1 _ _ (k0 _ _ hb hne) hne) hp⟩
    have free : ∀ {H1 : Hp} {p : Addr}, Kept H H1 r → RdAt R H1 r a 0 ∨ True → H1 p = none → p ≠ r → H p = none := by
      intro H1 p k1 _ np hne
      cases e : H p with
      | none => rfl
      | some o => rw [k1 _ _ e hne] at np; cases np
    have fresh : ∀ {H1 : Hp} {j : Nat}, RdAt R H1 r a j → Kept H H1 r → ∀ p, H1 p = none → B p := by
      intro H1 j rd1 k1 p np
      obtain ⟨dx1, h1⟩ := rd1
      exact hfr p (free k1 (.inr trivial) np (fun e => by rw [e, h1] at np; cases np))
    -- the end of a call that reads only
    have doneL : ∀ (H1 : Hp) (j : Nat) (l : List Int), Dr04.step d x = (d, l) → zs.drop j = t → j ≤ zs.length → RdAt R H1 r a j → ChA C B H1 c d.fun_ → Kept H H1 r → GivesL H1 Q (l.map V.int) := by
      intro H1 j l es et hj rd1 ch1 k1 H2 p s2 np hp
      rw [es] at q
      have rd1' := rd1
      obtain ⟨dx1, h1⟩ := rd1'
      refine q H2 p j (fun b o hb _ hne => s2 _ _ (k1 _ _ hb hne)) (ch1.same s2) ⟨dx1, s2 _ _ h1⟩ et hj (free k1 (.inr trivial) np (fun e => by rw [e, h1] at np; cases np)) hp
    -- the end of a call that may change the function
    have doneA : ∀ (H1 : Hp) (j : Nat), zs.drop j = t → j ≤ zs.length → RdAt R H1 r a j → ChA C B H1 c d.fun_ → Kept H H1 r → Ans C B H1 Q c (Dr04.step d x) := by
      intro H1 j et hj rd1 ch1 k1 H2 p k2 ch2 np hp
      have rd1' := rd1
      obtain ⟨dx1, h1⟩ := rd1'
      refine q H2 p j (fun b o hb hbc hbr => k2 _ _ (k1 _ _ hb hbr) hbc) ch2 ⟨dx1, k2 _ _ h1 (fun e => hcr e.symm)⟩ et hj (free k1 (.inr trivial) np (fun e => by rw [e, h1] at np; cases np)) hp
    have rd' := rd
    obtain ⟨dx, h0⟩ := rd'
    have ch' := ch
    obtain ⟨dxc, pc, hc0, hp0, wf, _⟩ := ch'
    have k00 : Kept H H r := fun b o h _ => h
    generalize hzi : zs.drop i = zi at one
    cases one with
    | @tell m rr hm hm40 =>
      obtain ⟨z0, e1, l1⟩ := drop_get hzi
      obtain ⟨z1, e2, l2⟩ := drop_get e1
      refine ⟨_, rfl, r, dx, _, rfl, h0, rd_no a i (by decide +kernel) (by decide +kernel), tnil (read H i 0 rd ch hl k00 z0 _ fun H1 rd1 ch1 hl1 k1 => ?_)⟩
      have ch1' := ch1
      obtain ⟨dc1, p1, hc1, _, _, _⟩ := ch1'
      have rd1' := rd1
      obtain ⟨dr1, hr1⟩ := rd1'
      refine ⟨_, rfl, rfl, _, rfl, if_t (dec_eq rfl) ?_⟩
      refine ⟨_, rfl, c, dc1, _, rfl, hc1, ch_no _ _ (by decide +kernel) (by decide +kernel), _, rfl, r, dr1, _, rfl, hr1, rd_no a _ (by decide +kernel) (by decide +kernel), tnil (readRow H1 (i + 1) m rd1 ch1 hl1 k1 z1 (by omega) _ fun H2 p2 rd2 ch2 k2 hp2 => ?_)⟩
      refine ⟨c, p2, d, rr.take m, B, rfl, ch2, fresh rd2 k2, .inl (.inl ?_), by rw [List.length_take]; omega, doneA H2 (i + 1 + 1 + m) ?_ (by omega) rd2 ch2 k2⟩
      · rw [e2] at hp2; exact hp2
      · rw [← e2, List.drop_drop]
    | @cover nn m rr hm hm50 =>
      obtain ⟨z0, e1, l1⟩ := drop_get hzi
      obtain ⟨z1, e2, l2⟩ := drop_get e1
      obtain ⟨z2, e3, l3⟩ := drop_get e2
      refine ⟨_, rfl, r, dx, _, rfl, h0, rd_no a i (by decide +kernel) (by decide +kernel), tnil (read H i 1 rd ch hl k00 z0 _ fun H1 rd1 ch1 hl1 k1 => ?_)⟩
      have rd1' := rd1
      obtain ⟨dr1, hr1⟩ := rd1'
      refine ⟨_, rfl, rfl, _, rfl, if_f (dec_ne (by decide)) ?_⟩
      refine ⟨_, rfl, rfl, _, rfl, if_t (dec_eq rfl) ?_⟩
      refine ⟨_, rfl, r, dr1, _, rfl, hr1, rd_no a _ (by decide +kernel) (by decide +kernel), tnil (read H1 (i + 1) nn rd1 ch1 hl1 k1 z1 _ fun H2 rd2 ch2 hl2 k2 => ?_)⟩
      have ch2' := ch2
      obtain ⟨dc2, p2, hc2, _, _, _⟩ := ch2'
      have rd2' := rd2
      obtain ⟨dr2, hr2⟩ := rd2'
      refine ⟨_, rfl, c, dc2, _, rfl, hc2, ch_no _ _ (by decide +kernel) (by decide +kernel), _, rfl, _, rfl, r, dr2, _, rfl, hr2, rd_no a _ (by decide +kernel) (by decide +kernel), tnil (readRow H2 (i + 1 + 1) m rd2 ch2 hl2 k2 z2 (by omega) _ fun H3 p3 rd3 ch3 k3 hp3 => ?_)⟩
      refine ⟨c, p3, d, nn, rr.take m, B, rfl, ch3, fresh rd3 k3, .inl (.inl ?_), by rw [List.length_take]; omega, doneA H3 (i + 1 + 1 + 1 + m) ?_ (by omega) rd3 ch3 k3⟩
      · rw [e3] at hp3; exact hp3
      · rw [← e3, List.drop_drop]
    | @best kk rr =>
      obtain ⟨z0, e1, l1⟩ := drop_get hzi
      obtain ⟨z1, e2, l2⟩ := drop_get e1
      refine ⟨_, rfl, r, dx, _, rfl, h0, rd_no a i (by decide +kernel) (by decide +kernel), tnil (read H i 2 rd ch hl k00 z0 _ fun H1 rd1 ch1 hl1 k1 => ?_)⟩
      have ch1' := ch1
      obtain ⟨dc1, p1, hc1, _, _, _⟩ := ch1'
      have rd1' := rd1
      obtain ⟨dr1, hr1⟩ := rd1'
      refine ⟨_, rfl, rfl, _, rfl, if_f (dec_ne (by decide)) ?_⟩
      refine ⟨_, rfl, rfl, _, rfl, if_f (dec_ne (by decide)) ?_⟩
      refine ⟨_, rfl, rfl, _, rfl, if_t (dec_eq rfl) ?_⟩
      refine ⟨_, rfl, c, dc1, _, rfl, hc1, ch_no _ _ (by decide +kernel) (by decide +kernel), _, rfl, r, dr1, _, rfl, hr1, rd_no a _ (by decide +kernel) (by decide +kernel), tnil (read H1 (i + 1) kk rd1 ch1 hl1 k1 z1 _ fun H2 rd2 ch2 hl2 k2 => ?_)⟩
      exact ⟨c, d.fun_, kk, rfl, ch2.at, doneL H2 (i + 1 + 1) _ rfl e2 (by omega) rd2 ch2 k2⟩
    | @greed kk rr =>
      obtain ⟨z0, e1, l1⟩ := drop_get hzi
      obtain ⟨z1, e2, l2⟩ := drop_get e1
      refine ⟨_, rfl, r, dx, _, rfl, h0, rd_no a i (by decide +kernel) (by decide +kernel), tnil (read H i 3 rd ch hl k00 z0 _ fun H1 rd1 ch1 hl1 k1 => ?_)⟩
      have ch1' := ch1
      obtain ⟨dc1, p1, hc1, _, _, _⟩ := ch1'
      have rd1' := rd1
      obtain ⟨dr1, hr1⟩ := rd1'
      refine ⟨_, rfl, rfl, _, rfl, if_f (dec_ne (by decide)) ?_⟩
      refine ⟨_, rfl, rfl, _, rfl, if_f (dec_ne (by decide)) ?_⟩
      refine ⟨_, rfl, rfl, _, rfl, if_f (dec_ne (by decide)) ?_⟩
      refine ⟨_, rfl, rfl, _, rfl, if_t (dec_eq rfl) ?_⟩
      refine ⟨_, rfl, c, dc1, _, rfl, hc1, ch_no _ _ (by decide +kernel) (by decide +kernel), _, rfl, r, dr1, _, rfl, hr1, rd_no a _ (by decide +kernel) (by decide +kernel), tnil (read H1 (i + 1) kk rd1 ch1 hl1 k1 z1 _ fun H2 rd2 ch2 hl2 k2 => ?_)⟩
      exact ⟨c, d, kk, rfl, ch2.at, doneL H2 (i + 1 + 1) _ rfl e2 (by omega) rd2 ch2 k2⟩
    | @bound kk ss rr =>
      obtain ⟨z0, e1, l1⟩ := drop_get hzi
      obtain ⟨z1, e2, l2⟩ := drop_get e1
      obtain ⟨z2, e3, l3⟩ := drop_get e2
      refine ⟨_, rfl, r, dx, _, rfl, h0, rd_no a i (by decide +kernel) (by decide +kernel), tnil (read H i 4 rd ch hl k00 z0 _ fun H1 rd1 ch1 hl1 k1 => ?_)⟩
      have rd1' := rd1
      obtain ⟨dr1, hr1⟩ := rd1'
      refine ⟨_, rfl, rfl, _, rfl, if_f (dec_ne (by decide)) ?_⟩
      refine ⟨_, rfl, rfl, _, rfl, if_f (dec_ne (by decide)) ?_⟩
      refine ⟨_, rfl, rfl, _, rfl, if_f (dec_ne (by decide)) ?_⟩
      refine ⟨_, rfl, rfl, _, rfl, if_f (dec_ne (by decide)) ?_⟩
      refine ⟨_, rfl, rfl, _, rfl, if_t (dec_eq rfl) ?_⟩
      refine ⟨_, rfl, r, dr1, _, rfl, hr1, rd_no a _ (by decide +kernel) (by decide +kernel), tnil (read H1 (i + 1) kk rd1 ch1 hl1 k1 z1 _ fun H2 rd2 ch2 hl2 k2 => ?_)⟩
      have ch2' := ch2
      obtain ⟨dc2, p2, hc2, _, _, _⟩ := ch2'
      have rd2' := rd2
      obtain ⟨dr2, hr2⟩ := rd2'
      refine ⟨_, rfl, c, dc2, _, rfl, hc2, ch_no _ _ (by decide +kernel) (by decide +kernel), _, rfl, _, rfl, r, dr2, _, rfl, hr2, rd_no a _ (by decide +kernel) (by decide +kernel), tnil (read H2 (i + 1 + 1) ss rd2 ch2 hl2 k2 z2 _ fun H3 rd3 ch3 hl3 k3 => ?_)⟩
      exact ⟨c, d, kk, ss, rfl, ch3.at, doneL H3 (i + 1 + 1 + 1) _ rfl e3 (by omega) rd3 ch3 k3⟩
    | @brings ss rr =>
      obtain ⟨z0, e1, l1⟩ := drop_get hzi
      obtain ⟨z1, e2, l2⟩ := drop_get e1
      refine ⟨_, rfl, r, dx, _, rfl, h0, rd_no a i (by decide +kernel) (by decide +kernel), tnil (read H i 5 rd ch hl k00 z0 _ fun H1 rd1 ch1 hl1 k1 => ?_)⟩
      have ch1' := ch1
      obtain ⟨dc1, p1, hc1, _, _, _⟩ := ch1'
      have rd1' := rd1
      obtain ⟨dr1, hr1⟩ := rd1'
      refine ⟨_, rfl, rfl, _, rfl, if_f (dec_ne (by decide)) ?_⟩
      refine ⟨_, rfl, rfl, _, rfl, if_f (dec_ne (by decide)) ?_⟩
      refine ⟨_, rfl, rfl, _, rfl, if_f (dec_ne (by decide)) ?_⟩
      refine ⟨_, rfl, rfl, _, rfl, if_f (dec_ne (by decide)) ?_⟩
      refine ⟨_, rfl, rfl, _, rfl, if_f (dec_ne (by decide)) ?_⟩
      refine ⟨_, rfl, rfl, _, rfl, if_t (dec_eq rfl) ?_⟩
      refine ⟨_, rfl, c, dc1, _, rfl, hc1, ch_no _ _ (by decide +kernel) (by decide +kernel), _, rfl, r, dr1, _, rfl, hr1, rd_no a _ (by decide +kernel) (by decide +kernel), tnil (read H1 (i + 1) ss rd1 ch1 hl1 k1 z1 _ fun H2 rd2 ch2 hl2 k2 => ?_)⟩
      exact ⟨c, d, ss, rfl, ch2.at, doneL H2 (i + 1 + 1) _ rfl e2 (by omega) rd2 ch2 k2⟩
    | @better ss rr =>
      obtain ⟨z0, e1, l1⟩ := drop_get hzi
      obtain ⟨z1, e2, l2⟩ := drop_get e1
      refine ⟨_, rfl, r, dx, _, rfl, h0, rd_no a i (by decide +kernel) (by decide +kernel), tnil (read H i 6 rd ch hl k00 z0 _ fun H1 rd1 ch1 hl1 k1 => ?_)⟩
      have ch1' := ch1
      obtain ⟨dc1, p1, hc1, _, _, _⟩ := ch1'
      have rd1' := rd1
      obtain ⟨dr1, hr1⟩ := rd1'
      refine ⟨_, rfl, rfl, _, rfl, if_f (dec_ne (by decide)) ?_⟩
      refine ⟨_, rfl, rfl, _, rfl, if_f (dec_ne (by decide)) ?_⟩
      refine ⟨_, rfl, rfl, _, rfl, if_f (dec_ne (by decide)) ?_⟩
      refine ⟨_, rfl, rfl, _, rfl, if_f (dec_ne (by decide)) ?_⟩
      refine ⟨_, rfl, rfl, _, rfl, if_f (dec_ne (by decide)) ?_⟩
      refine ⟨_, rfl, rfl, _, rfl, if_f (dec_ne (by decide)) ?_⟩
      refine ⟨_, rfl, rfl, _, rfl, if_t (dec_eq rfl) ?_⟩
      refine ⟨_, rfl, c, dc1, _, rfl, hc1, ch_no _ _ (by decide +kernel) (by decide +kernel), _, rfl, r, dr1, _, rfl, hr1, rd_no a _ (by decide +kernel) (by decide +kernel), tnil (read H1 (i + 1) ss rd1 ch1 hl1 k1 z1 _ fun H2 rd2 ch2 hl2 k2 => ?_)⟩
      exact ⟨c, d, ss, rfl, ch2.at, doneL H2 (i + 1 + 1) _ rfl e2 (by omega) rd2 ch2 k2⟩
    | @settle ss rr =>
      obtain ⟨z0, e1, l1⟩ := drop_get hzi
      obtain ⟨z1, e2, l2⟩ := drop_get e1
      refine ⟨_, rfl, r, dx, _, rfl, h0, rd_no a i (by decide +kernel) (by decide +kernel), tnil (read H i 7 rd ch hl k00 z0 _ fun H1 rd1 ch1 hl1 k1 => ?_)⟩
      have ch1' := ch1
      obtain ⟨dc1, p1, hc1, _, _, _⟩ := ch1'
      have rd1' := rd1
      obtain ⟨dr1, hr1⟩ := rd1'
      refine ⟨_, rfl, rfl, _, rfl, if_f (dec_ne (by decide)) ?_⟩
      refine ⟨_, rfl, rfl, _, rfl, if_f (dec_ne (by decide)) ?_⟩
      refine ⟨_, rfl, rfl, _, rfl, if_f (dec_ne (by decide)) ?_⟩
      refine ⟨_, rfl, rfl, _, rfl, if_f (dec_ne (by decide)) ?_⟩
      refine ⟨_, rfl, rfl, _, rfl, if_f (dec_ne (by decide)) ?_⟩
      refine ⟨_, rfl, rfl, _, rfl, if_f (dec_ne (by decide)) ?_⟩
      refine ⟨_, rfl, rfl, _, rfl, if_f (dec_ne (by decide)) ?_⟩
      refine ⟨_, rfl, rfl, _, rfl, if_t (dec_eq rfl) ?_⟩
      refine ⟨_, rfl, c, dc1, _, rfl, hc1, ch_no _ _ (by decide +kernel) (by decide +kernel), _, rfl, r, dr1, _, rfl, hr1, rd_no a _ (by decide +kernel) (by decide +kernel), tnil (read H1 (i + 1) ss rd1 ch1 hl1 k1 z1 _ fun H2 rd2 ch2 hl2 k2 => ?_)⟩
      exact ⟨c, d, ss, rfl, ch2.at, doneL H2 (i + 1 + 1) _ rfl e2 (by omega) rd2 ch2 k2⟩
    | @spend bb m rr hm hm10 =>
      obtain ⟨z0, e1, l1⟩ := drop_get hzi
      obtain ⟨z1, e2, l2⟩ := drop_get e1
      obtain ⟨z2, e3, l3⟩ := drop_get e2
      refine ⟨_, rfl, r, dx, _, rfl, h0, rd_no a i (by decide +kernel) (by decide +kernel), tnil (read H i 8 rd ch hl k00 z0 _ fun H1 rd1 ch1 hl1 k1 => ?_)⟩
      have ch1' := ch1
      obtain ⟨dc1, p1, hc1, _, _, _⟩ := ch1'
      have rd1' := rd1
      obtain ⟨dr1, hr1⟩ := rd1'
      refine ⟨_, rfl, rfl, _, rfl, if_f (dec_ne (by decide)) ?_⟩
      refine ⟨_, rfl, rfl, _, rfl, if_f (dec_ne (by decide)) ?_⟩
      refine ⟨_, rfl, rfl, _, rfl, if_f (dec_ne (by decide)) ?_⟩
      refine ⟨_, rfl, rfl, _, rfl, if_f (dec_ne (by decide)) ?_⟩
      refine ⟨_, rfl, rfl, _, rfl, if_f (dec_ne (by decide)) ?_⟩
      refine ⟨_, rfl, rfl, _, rfl, if_f (dec_ne (by decide)) ?_⟩
      refine ⟨_, rfl, rfl, _, rfl, if_f (dec_ne (by decide)) ?_⟩
      refine ⟨_, rfl, rfl, _, rfl, if_f (dec_ne (by decide)) ?_⟩
      refine ⟨_, rfl, rfl, _, rfl, if_f (dec_ne (by decide)) ?_⟩
      refine ⟨_, rfl, (by show 3 ≤ sizeLine; decide), fun tp ntp => ⟨tp, _, rfl, .inr (SqT.of upd_same), rfl, rfl, _, rfl, if_t (by decide) ?_⟩⟩
      have sT : Same H1 (upd H1 tp (.tup [V.int 8, V.int 9, V.int 10])) := same_upd ntp (Same.refl _)
      have rdT : RdAt R (upd H1 tp (.tup [V.int 8, V.int 9, V.int 10])) r a (i + 1) := ⟨dr1, sT _ _ hr1⟩
      refine ⟨_, rfl, _, rfl, _, rfl, c, r, a, d, zs, i + 1, 8, bb, m, .spend bb (rr.take m), rfl, (ch1.same sT).at, rdT, hcr, sT.seq hl1, z1, z2, by omega, ?_, fun H2 k2 rd2 => ?_⟩
      · rw [e3]
        exact .inl ⟨rfl, rfl⟩
      · refine doneL H2 (i + 1 + 1 + 1 + m) _ rfl ?_ (by omega) rd2 (k2.ch (ch1.same sT) (sT _ _ hr1) hcr (fun _ z => by cases z)) (fun b o hb hne => k2 _ _ (sT _ _ (k1 _ _ hb hne)) hne)
        rw [← e3, List.drop_drop]
    | @greedily bb m rr hm hm10 =>
      obtain ⟨z0, e1, l1⟩ := drop_get hzi
      obtain ⟨z1, e2, l2⟩ := drop_get e1
      obtain ⟨z2, e3, l3⟩ := drop_get e2
      refine ⟨_, rfl, r, dx, _, rfl, h0, rd_no a i (by decide +kernel) (by decide +kernel), tnil (read H i 9 rd ch hl k00 z0 _ fun H1 rd1 ch1 hl1 k1 => ?_)⟩
      have ch1' := ch1
      obtain ⟨dc1, p1, hc1, _, _, _⟩ := ch1'
      have rd1' := rd1
      obtain ⟨dr1, hr1⟩ := rd1'
      refine ⟨_, rfl, rfl, _, rfl, if_f (dec_ne (by decide)) ?_⟩
      refine ⟨_, rfl, rfl, _, rfl, if_f (dec_ne (by decide)) ?_⟩
      refine ⟨_, rfl, rfl, _, rfl, if_f (dec_ne (by decide)) ?_⟩
      refine ⟨_, rfl, rfl, _, rfl, if_f (dec_ne (by decide)) ?_⟩
      refine ⟨_, rfl, rfl, _, rfl, if_f (dec_ne (by decide)) ?_⟩
      refine ⟨_, rfl, rfl, _, rfl, if_f (dec_ne (by decide)) ?_⟩
      refine ⟨_, rfl, rfl, _, rfl, if_f (dec_ne (by decide)) ?_⟩
      refine ⟨_, rfl, rfl, _, rfl, if_f (dec_ne (by decide)) ?_⟩
      refine ⟨_, rfl, rfl, _, rfl, if_f (dec_ne (by decide)) ?_⟩
      refine ⟨_, rfl, (by show 3 ≤ sizeLine; decide), fun tp ntp => ⟨tp, _, rfl, .inr (SqT.of upd_same), rfl, rfl, _, rfl, if_t (by decide) ?_⟩⟩
      have sT : Same H1 (upd H1 tp (.tup [V.int 8, V.int 9, V.int 10])) := same_upd ntp (Same.refl _)
      have rdT : RdAt R (upd H1 tp (.tup [V.int 8, V.int 9, V.int 10])) r a (i + 1) := ⟨dr1, sT _ _ hr1⟩
      refine ⟨_, rfl, _, rfl, _, rfl, c, r, a, d, zs, i + 1, 9, bb, m, .greedily bb (rr.take m), rfl, (ch1.same sT).at, rdT, hcr, sT.seq hl1, z1, z2, by omega, ?_, fun H2 k2 rd2 => ?_⟩
      · rw [e3]
        exact .inr (.inl ⟨rfl, rfl⟩)
      · refine doneL H2 (i + 1 + 1 + 1 + m) _ rfl ?_ (by omega) rd2 (k2.ch (ch1.same sT) (sT _ _ hr1) hcr (fun _ z => by cases z)) (fun b o hb hne => k2 _ _ (sT _ _ (k1 _ _ hb hne)) hne)
        rw [← e3, List.drop_drop]
    | @three bb m rr hm hm10 =>
      obtain ⟨z0, e1, l1⟩ := drop_get hzi
      obtain ⟨z1, e2, l2⟩ := drop_get e1
      obtain ⟨z2, e3, l3⟩ := drop_get e2
      refine ⟨_, rfl, r, dx, _, rfl, h0, rd_no a i (by decide +kernel) (by decide +kernel), tnil (read H i 10 rd ch hl k00 z0 _ fun H1 rd1 ch1 hl1 k1 => ?_)⟩
      have ch1' := ch1
      obtain ⟨dc1, p1, hc1, _, _, _⟩ := ch1'
      have rd1' := rd1
      obtain ⟨dr1, hr1⟩ := rd1'
      refine ⟨_, rfl, rfl, _, rfl, if_f (dec_ne (by decide)) ?_⟩
      refine ⟨_, rfl, rfl, _, rfl, if_f (dec_ne (by decide)) ?_⟩
      refine ⟨_, rfl, rfl, _, rfl, if_f (dec_ne (by decide)) ?_⟩
      refine ⟨_, rfl, rfl, _, rfl, if_f (dec_ne (by decide)) ?_⟩
      refine ⟨_, rfl, rfl, _, rfl, if_f (dec_ne (by decide)) ?_⟩
      refine ⟨_, rfl, rfl, _, rfl, if_f (dec_ne (by decide)) ?_⟩
      refine ⟨_, rfl, rfl, _, rfl, if_f (dec_ne (by decide)) ?_⟩
      refine ⟨_, rfl, rfl, _, rfl, if_f (dec_ne (by decide)) ?_⟩
      refine ⟨_, rfl, rfl, _, rfl, if_f (dec_ne (by decide)) ?_⟩
      refine ⟨_, rfl, (by show 3 ≤ sizeLine; decide), fun tp ntp => ⟨tp, _, rfl, .inr (SqT.of upd_same), rfl, rfl, _, rfl, if_t (by decide) ?_⟩⟩
      have sT : Same H1 (upd H1 tp (.tup [V.int 8, V.int 9, V.int 10])) := same_upd ntp (Same.refl _)
      have rdT : RdAt R (upd H1 tp (.tup [V.int 8, V.int 9, V.int 10])) r a (i + 1) := ⟨dr1, sT _ _ hr1⟩
      refine ⟨_, rfl, _, rfl, _, rfl, c, r, a, d, zs, i + 1, 10, bb, m, .three bb (rr.take m), rfl, (ch1.same sT).at, rdT, hcr, sT.seq hl1, z1, z2, by omega, ?_, fun H2 k2 rd2 => ?_⟩
      · rw [e3]
        exact .inr (.inr ⟨rfl, rfl⟩)
      · refine doneL H2 (i + 1 + 1 + 1 + m) _ rfl ?_ (by omega) rd2 (k2.ch (ch1.same sT) (sT _ _ hr1) hcr (fun _ z => by cases z)) (fun b o hb hne => k2 _ _ (sT _ _ (k1 _ _ hb hne)) hne)
        rw [← e3, List.drop_drop]
    | @curve rr =>
      obtain ⟨z0, e1, l1⟩ := drop_get hzi
      refine ⟨_, rfl, r, dx, _, rfl, h0, rd_no a i (by decide +kernel) (by decide +kernel), tnil (read H i 11 rd ch hl k00 z0 _ fun H1 rd1 ch1 hl1 k1 => ?_)⟩
      have ch1' := ch1
      obtain ⟨dc1, p1, hc1, _, _, _⟩ := ch1'
      have rd1' := rd1
      obtain ⟨dr1, hr1⟩ := rd1'
      refine ⟨_, rfl, rfl, _, rfl, if_f (dec_ne (by decide)) ?_⟩
      refine ⟨_, rfl, rfl, _, rfl, if_f (dec_ne (by decide)) ?_⟩
      refine ⟨_, rfl, rfl, _, rfl, if_f (dec_ne (by decide)) ?_⟩
      refine ⟨_, rfl, rfl, _, rfl, if_f (dec_ne (by decide)) ?_⟩
      refine ⟨_, rfl, rfl, _, rfl, if_f (dec_ne (by decide)) ?_⟩
      refine ⟨_, rfl, rfl, _, rfl, if_f (dec_ne (by decide)) ?_⟩
      refine ⟨_, rfl, rfl, _, rfl, if_f (dec_ne (by decide)) ?_⟩
      refine ⟨_, rfl, rfl, _, rfl, if_f (dec_ne (by decide)) ?_⟩
      refine ⟨_, rfl, rfl, _, rfl, if_t (dec_eq rfl) ?_⟩
      exact ⟨_, rfl, c, dc1, _, rfl, hc1, ch_no _ _ (by decide +kernel) (by decide +kernel), tnil ⟨c, d, rfl, ch1.at, doneL H1 (i + 1) _ rfl e1 (by omega) rd1 ch1 k1⟩⟩
end
end Cw
set_option Elab.async false
set_option maxRecDepth 100000
set_option maxHeartbeats 2000000
set_option linter.all false
namespace Cw
open PySem PySem.Spec PyProof.Rows L2
open Dr01 (has with_ without val brings)
open C8 (Cal Met Mak cal0 met0 mak0 pe_c pe_mt pe_mt0 pe_mk pe_gc fnScope_by scC)
theorem nat_back {ns : List Int} (h : In32 ns) : ns.map V.int = (ns.map Int.toNat).map nV := by
  rw [List.map_map]
  refine List.map_congr_left fun x m => ?_
  have := h x m
  show V.int x = V.int ((x.toNat : Nat) : Int)
  rw [Int.toNat_of_nonneg this.1]
theorem One.ne {zs t : List Nat} {x : Dr04.Call} (h : One zs x t) : zs ≠ [] := by
  cases h <;> exact fun e => nomatch e
section
variable {P : Program} {w : World} {K : PySem.W.Frag} {mg : Str → Option Value} {base : Heap} {C R : Addr}
abbrev sAnswers : Stmt := top 51
def spAnswers (K : PySem.W.Frag) : Sp := fun vs H Q _ => ∃ (a : Addr) (ns : List Int), vs = [.ref a] ∧ SqL K H a (ns.map V.int) ∧ In32 ns ∧ PyDr04.answers_asked ns = true ∧ ∀ (H' : Hp) (p : Addr), H' p = some (.lst ((PyDr04.answers ns).map V.int)) → Q (.ref p) H'
theorem ok_answers {f fC : Addr} {fd fdC : FuncData} (g : Gs mg) (M : Mk K C fC) (mgC : mg "Chooser" = some (.ref C)) (GI : FnOk P w K mg base C8.CX0 1 fC fdC ["self"] (spCInit C)) (bC : Binds K fdC ["self"] [])
    (mkR : Mak P w K mg base 1 "Reader" R (spRInit R) []) (mMore : Met P w K mg base 1 R "has_more" (spMore K R) []) (cAns : Cal P w K mg base 8 "answer_call" (spAnswer K C R) [])
    (F : C8.Fun K "answers" "answers" sAnswers f fd) : FnOk P w K mg base C8.CX0 9 f fd ["calls"] (spAnswers K) := by
  have sc : FnScope ["calls", "chooser", "reader", "given", "answer"] ["calls"] (C8.fnScope sAnswers) := fnScope_by (by decide +kernel)
  refine C8.fn0 F sc (fun vs H Q E h => ?_) (fun cdv A outer s0 H vs Q E hr h => ?_)
  · obtain ⟨a, ns, rfl, _⟩ := h; rfl
  · obtain ⟨a, ns, rfl, hl, h32, hask, q⟩ := h
    refine ⟨_, pss_cons (ps_set (i := 1) sc.nd rfl (Or.inl rfl) (pe_make0 M GI (hr.mono (by decide)) (by rfl) mgC bC .nil (C8.pass0 (E := C8.E0))))
      (pss_cons (ps_set (i := 2) sc.nd rfl (Or.inl rfl) (pe_mk mkR hr (by decide) (by rfl) (pa_cons (pv 0) pa_nil)))
      (pss_cons (ps_set (i := 3) sc.nd rfl (Or.inl rfl) (pe_lst pa_nil))
      (pss_cons (ps_while PassesOwn.never (pt_val (pe_mt0 mMore hr (by decide) (pv 2)))
        (pss_cons (ps_set (i := 4) sc.nd rfl (Or.inl rfl) (pe_c cAns hr (by decide) (by rfl) (pa_cons (pv 1) (pa_cons (pv 2) pa_nil))))
        (pss_cons (ps_expr (pe_bm PySem.F.plainAttrs_list PySem.F.slot_list_append PySem.F.type_list_append mt_append (pv 3) (pa_cons (pe_callB call_len_seq (by rfl) g.len PySem.boot_len (pa_cons (pv 4) pa_nil)) pa_nil)))
        (pss_one (ps_expr (pe_bm PySem.F.plainAttrs_list PySem.F.slot_list_extend PySem.F.type_list_extend mt_extend (pv 3) (pa_cons (pv 4) pa_nil)))))))
      (pss_one (ps_ret (pv 3)))))), ?_⟩
    obtain ⟨m0, hm0, line0⟩ := line_start h32 hask
    rw [nat_back h32] at hl
    generalize hzs : ns.map Int.toNat = zs at hl line0
    generalize PyDr04.answers ns = out at q line0
    -- chooser = Chooser()
    intro c dc nc ndc nec
    refine ⟨c, dc, rfl, upd_same, fun H1 ch1 kp1 => ⟨rfl, ?_⟩⟩
    have s1 : Same H H1 := Same.made nc ndc kp1
    -- reader = Reader(calls)
    refine ⟨_, rfl, fun r dr nr ndr ner => ?_⟩
    refine ⟨r, dr, a, rfl, upd_same, fun H2 rd2 kp2 => ⟨rfl, ?_⟩⟩
    have s2 : Same H1 H2 := Same.made nr ndr kp2
    have ch1' := ch1
    obtain ⟨dxc, pc, hc1, hpc1, wf1⟩ := ch1'
    have hcr : c ≠ r := ne_of_none hc1 nr
    have ch2 := ch1.same s2
    -- given = []
    refine ⟨(by show 0 ≤ sizeLine; decide), fun gv ngv => ?_⟩
    have s3 : Same H2 (upd H2 gv (.lst [])) := same_upd ngv (Same.refl _)
    have ng0 : H gv = none := (s1.trans s2).free ngv
    have nr0 : H r = none := s1.free nr
    refine ⟨fun m σ H' => ∃ (d : Dr04.St) (i : Nat) (G o : List Int), Line d (zs.drop i) o m ∧ i ≤ zs.length ∧ G ++ o = out ∧ G.length + 101 * m ≤ 3030 ∧ Same H H' ∧ ChA C (fun p => p ≠ gv) H' c d.fun_ ∧ RdAt R H' r a i ∧ H' gv = some (.lst (G.map V.int)) ∧
      ∃ v, σ = [some (.ref a), some (.ref c), some (.ref r), some (.ref gv), v], ⟨m0, Dr04.init, 0, [], out, line0, Nat.zero_le _, rfl, by show 0 + 101 * m0 ≤ 3030; omega, (s1.trans s2).trans s3, (ChA.same ⟨dxc, pc, s2 _ _ hc1, s2 _ _ hpc1, wf1, ne_of_none (s2 _ _ hpc1) ngv⟩ s3), ?_, upd_same, none, rfl⟩, ?_⟩
    · obtain ⟨dx, h⟩ := rd2
      exact ⟨dx, s3 _ _ h⟩
    rintro m σ H' ⟨d, i, G, o, line, hi, hG, hGl, sH, ch, rd, hg, v, rfl⟩
    have hl' : SqL K H' a (zs.map nV) := sH.seq hl
    have rd' := rd
    obtain ⟨dx, hrd⟩ := rd'
    have wf : Wf d.fun_ := by obtain ⟨_, _, _, _, w, _⟩ := ch; exact w
    refine ⟨_, rfl, r, dx, _, rfl, hrd, rd_no a i (by decide +kernel) (by decide +kernel), tnil ⟨r, a, zs, i, rfl, rd, hl', _, rfl, ?_⟩⟩
    by_cases hlt : i < zs.length
    · refine if_t (decide_eq_true hlt) ?_
      generalize hzi : zs.drop i = zi at line
      cases line with
      | nil =>
        have := congrArg List.length hzi
        rw [List.length_drop, List.length_nil] at this
        omega
      | @cons _ _ t x o' m' one rest =>
        have fine := one.fine
        refine ⟨fun σ' H' => ∃ m1, m1 < m' + 1 ∧ _, fun σ' H' h => h, ?_⟩
        refine ⟨_, rfl, _, rfl, c, r, a, d, zs, i, x, t, fun p => p ≠ gv, rfl, ch, fun p np => (fun e => by rw [e, hg] at np; cases np), rd, hcr, hl', by rw [hzi]; exact one, fun H5 qq j k5 ch5 rd5 hj hjl nq hq => ?_⟩
        have hgc : gv ≠ c := by
          obtain ⟨_, _, hc, _, _, _⟩ := ch
          exact ne_of hg hc (by intro z; cases z)
        have hgr : gv ≠ r := ne_of hg hrd (by intro z; cases z)
        have hg5 : H5 gv = some (.lst (G.map V.int)) := k5 _ _ hg hgc hgr
        have hqg : qq ≠ gv := fun e => by rw [e, hg] at nq; cases nq
        have s5 : Same H H5 := fun b u hb => k5 _ _ (sH _ _ hb) (ne_of_none hb nc) (ne_of_none hb nr0)
        have hlen := step_len wf fine
        refine ⟨_, rfl, .inl ⟨rfl, _, .inl (.inl hg5)⟩, _, rfl, qq, _, rfl, .inl (.inl (.inl hq)), gv, _, _, rfl, rfl, hg5, ?_, ?_⟩
        · rw [List.length_map]
          exact Nat.lt_of_le_of_lt (by omega : G.length ≤ 3030) (by decide)
        refine ⟨_, rfl, .inl ⟨rfl, _, .inl (.inl upd_same)⟩, _, rfl, gv, qq, _, _, rfl, rfl, upd_same, (upd_ne hqg).trans hq, ?_, ?_⟩
        · rw [List.length_append, List.length_map, List.length_map]
          exact Nat.le_trans (by show G.length + 1 + _ ≤ 4000; omega) (by decide)
        rw [upd_upd]
        have ngr : Same H5 H5 := Same.refl _
        refine ⟨m', Nat.lt_succ_self _, (Dr04.step d x).1, j, G ++ (((Dr04.step d x).2.length : Int) :: (Dr04.step d x).2), o', by rw [hj]; exact rest, hjl, by rw [List.append_assoc]; exact hG, ?_, same_upd ng0 s5, ?_, ?_, ?_, _, rfl⟩
        · rw [List.length_append, List.length_cons]
          omega
        · obtain ⟨dx5, p5, h5a, h5b, w5, hpg⟩ := ch5
          have hcg : c ≠ gv := fun e => hgc e.symm
          exact ⟨dx5, p5, (upd_ne hcg).trans h5a, (upd_ne hpg).trans h5b, w5, hpg⟩
        · obtain ⟨dx5, h5⟩ := rd5
          exact ⟨dx5, (upd_ne (fun e => hgr e.symm)).trans h5⟩
        · rw [upd_same, List.map_append, List.length_map]
          simp
    · refine if_f (decide_eq_false hlt) ?_
      have hi2 : zs.drop i = [] := List.drop_eq_nil_of_le (by omega)
      rw [hi2] at line
      cases line with
      | nil =>
        rw [List.append_nil] at hG
        refine ⟨_, rfl, q H' gv ?_⟩
        rw [hg, hG]
      | cons one _ => exact absurd rfl one.ne
end
end Cw
set_option Elab.async false
set_option maxRecDepth 100000
set_option maxHeartbeats 4000000
set_option linter.all false
namespace Cw
open PySem PySem.Spec PyProof.Rows L2
open C8 (Cal Met Mak cal0 met0 mak0 pe_c pe_mt pe_mt0 pe_gc fnScope_by scC)
/-! ### what the top has written: a def, a method, a class, a number, each in one word -/
structure DefOk (K : PySem.W.Frag) (mg : Str → Option Value) (x : Str) (st : Stmt) (ps : List Str) : Prop where
  ex : ∃ (f : Addr) (fd : FuncData), C8.Def K mg x st f fd ∧ Binds K fd ps []
structure MethOk (K : PySem.W.Frag) (C : Addr) (m qual : Str) (st : Stmt) (ps : List Str) : Prop where
  ex : ∃ (f : Addr) (fd : FuncData), Meth K C m f ∧ C8.Fun K m qual st f fd ∧ Binds K fd ps []
structure ClsOk (K : PySem.W.Frag) (mg : Str → Option Value) (x : Str) (C : Addr) : Prop where
  at_ : mg x = some (.ref C)
  cl : Cls K C
  makes : PySem.W.makesIn K C = true
  kp : PySem.W.keepIn K (.ref C) = true
def Fits (x qual : Str) (st : Stmt) (ps : List Str) : Prop := ∀ (kV doc pm : Value) (an : Option Addr) (cdv ct : Value) (us : List Value), us.length = ps.length →
  bindArgs (PySem.W.fnOf x qual (C8.fnArgs st) (C8.fnBody st) (C8.fnScope st) .none kV doc pm an cdv ct) ⟨us, []⟩ = pure (ps.zip us)
section
variable {K : PySem.W.Frag} {h : Heap} {mg : Str → Option Value} {C f a : Addr} {od an : Option Addr} {sl : Array (Option Value)} {oc kV dc pm cd ct : Value} {x m qual : Str} {st : Stmt} {ps : List Str}
theorem defOk_mk (X : K.In h) (G : h.Ns mainGlobals mg) (p : PySem.W.nsIn K mainGlobals x = some (some (.ref f))) (l : K.lookup f = some ⟨oc, od, .func (PySem.W.fnOf x x (C8.fnArgs st) (C8.fnBody st) (C8.fnScope st) .none kV dc pm an cd ct), sl⟩)
    (c : PySem.W.codeIn K cd x = true) (k : PySem.W.keepIn K (.ref f) = true) (b : Fits x x st ps) : DefOk K mg x st ps := by
  have F : C8.Fun K x x st f _ := ⟨⟨oc, od, .none, kV, dc, pm, an, cd, ct, sl, rfl, l, c⟩⟩
  exact ⟨f, _, ⟨F, PySem.W.mg_of X G p, k⟩, F.binds rfl b⟩
theorem methOk_mk (p : PySem.W.findIn K (.ref C) m = some (some (.ref f))) (i : PySem.W.isFn K (.ref f) = true) (l : K.lookup f = some ⟨oc, od, .func (PySem.W.fnOf m qual (C8.fnArgs st) (C8.fnBody st) (C8.fnScope st) .none kV dc pm an cd ct), sl⟩)
    (c : PySem.W.codeIn K cd qual = true) (k : PySem.W.keepIn K (.ref f) = true) (b : Fits m qual st ps) : MethOk K C m qual st ps := by
  have F : C8.Fun K m qual st f _ := ⟨⟨oc, od, .none, kV, dc, pm, an, cd, ct, sl, rfl, l, c⟩⟩
  exact ⟨f, _, ⟨p, i, k⟩, F, F.binds rfl b⟩
theorem clsOk_mk (X : K.In h) (G : h.Ns mainGlobals mg) (p : PySem.W.nsIn K mainGlobals x = some (some (.ref C))) (pg : PySem.W.plainGet K C Str.empty = true) (hd : PySem.W.hasDictIn K C = true) (po : PySem.W.plainOver K C = true)
    (sa : PySem.W.findIn K (.ref C) "__setattr__" = some (some (.builtin "object.__setattr__"))) (mk : PySem.W.makesIn K C = true) (kc : PySem.W.keepIn K (.ref C) = true) : ClsOk K mg x C := ⟨PySem.W.mg_of X G p, ⟨pg, hd, po, sa⟩, mk, kc⟩
theorem int_mk {i : Int} {t : Tok} (X : K.In h) (G : h.Ns mainGlobals mg) (p : PySem.W.nsIn K mainGlobals x = some (some (.int i t))) : IsC mg x (.int i) := ⟨_, PySem.W.mg_of X G p, ⟨_, rfl⟩⟩
theorem counts_mk {its : Array Value} {n : Nat} (X : K.In h) (G : h.Ns mainGlobals mg) (p : PySem.W.nsIn K mainGlobals "SET_COUNTS" = some (some (.ref a))) (l : K.lookup a = some ⟨.type "tuple", none, .seq its n, sl⟩) (v : Vals [.int 2, .int 4, .int 8, .int 16, .int 32] its.toList) :
    ∃ a, IsC mg "SET_COUNTS" (.ref a) ∧ (∀ H, SqT K H a [.int 2, .int 4, .int 8, .int 16, .int 32]) ∧ ∃ o, K.lookup a = some o ∧ o.cls = .type "tuple" ∧ o.dict = none := by
  have hs : its.size ≤ sizeLine := by
    have e : its.toList.length = 5 := by rw [← v.length]; rfl
    have e2 : its.size = 5 := by rw [← Array.length_toList]; exact e
    rw [e2]
    decide
  exact ⟨a, ⟨_, PySem.W.mg_of X G p, rfl⟩, fun H => .inr ⟨_, its, n, l, rfl, rfl, hs, v⟩, _, l, rfl, rfl⟩
end
theorem fits_only : Fits "only" "only" sOnly ["thing"] := fun _ _ _ _ _ _ us hl => match us, hl with | [_], _ => rfl
theorem fits_things_within : Fits "things_within" "things_within" sWithin ["n", "s"] := fun _ _ _ _ _ _ us hl => match us, hl with | [_, _], _ => rfl
theorem fits_things_outside : Fits "things_outside" "things_outside" sOutside ["n", "s"] := fun _ _ _ _ _ _ us hl => match us, hl with | [_, _], _ => rfl
theorem fits_what_it_brings : Fits "what_it_brings" "what_it_brings" sWhat ["worth", "s", "thing"] := fun _ _ _ _ _ _ us hl => match us, hl with | [_, _, _], _ => rfl
theorem fits_handed_number : Fits "handed_number" "handed_number" sHanded ["handed"] := fun _ _ _ _ _ _ us hl => match us, hl with | [_], _ => rfl
theorem fits_values_fit : Fits "values_fit" "values_fit" sVals ["handed"] := fun _ _ _ _ _ _ us hl => match us, hl with | [_], _ => rfl
theorem fits_points_fit : Fits "points_fit" "points_fit" sPts ["n", "points"] := fun _ _ _ _ _ _ us hl => match us, hl with | [_, _], _ => rfl
theorem fits_weight_met : Fits "weight_met" "weight_met" sMet ["points", "s"] := fun _ _ _ _ _ _ us hl => match us, hl with | [_, _], _ => rfl
theorem fits_prices_fit : Fits "prices_fit" "prices_fit" sPrices ["n", "prices"] := fun _ _ _ _ _ _ us hl => match us, hl with | [_, _], _ => rfl
theorem fits_brings_rightly : Fits "brings_rightly" "brings_rightly" sRight ["n", "worth", "s"] := fun _ _ _ _ _ _ us hl => match us, hl with | [_, _, _], _ => rfl
theorem fits_function_fits : Fits "function_fits" "function_fits" sFits ["n", "worth"] := fun _ _ _ _ _ _ us hl => match us, hl with | [_, _], _ => rfl
theorem fits_sets_up_to : Fits "sets_up_to" "sets_up_to" sSets ["n", "k"] := fun _ _ _ _ _ _ us hl => match us, hl with | [_, _], _ => rfl
theorem fits_best_of : Fits "best_of" "best_of" sBestOf ["worth", "sets"] := fun _ _ _ _ _ _ us hl => match us, hl with | [_, _], _ => rfl
theorem fits_thing_bringing_most : Fits "thing_bringing_most" "thing_bringing_most" sMost ["n", "worth", "s"] := fun _ _ _ _ _ _ us hl => match us, hl with | [_, _, _], _ => rfl
theorem fits_things_by_greed : Fits "things_by_greed" "things_by_greed" sGreed ["n", "worth", "k"] := fun _ _ _ _ _ _ us hl => match us, hl with | [_, _, _], _ => rfl
theorem fits_changed : Fits "changed" "changed" sChanged ["s", "change"] := fun _ _ _ _ _ _ us hl => match us, hl with | [_, _], _ => rfl
theorem fits_first_better_change : Fits "first_better_change" "first_better_change" sFirst ["n", "worth", "s"] := fun _ _ _ _ _ _ us hl => match us, hl with | [_, _, _], _ => rfl
theorem fits_price_of : Fits "price_of" "price_of" sPriceOf ["prices", "s"] := fun _ _ _ _ _ _ us hl => match us, hl with | [_, _], _ => rfl
theorem fits_paid_with : Fits "paid_with" "paid_with" sPaid ["b", "prices", "sets"] := fun _ _ _ _ _ _ us hl => match us, hl with | [_, _, _], _ => rfl
theorem fits_things_still_paid : Fits "things_still_paid" "things_still_paid" sStill ["b", "prices", "s"] := fun _ _ _ _ _ _ us hl => match us, hl with | [_, _, _], _ => rfl
theorem fits_brings_more_for_price : Fits "brings_more_for_price" "brings_more_for_price" sMoreFor ["worth", "prices", "s", "thing", "other"] := fun _ _ _ _ _ _ us hl => match us, hl with | [_, _, _, _, _], _ => rfl
theorem fits_most_for_price : Fits "most_for_price" "most_for_price" sMostFor ["worth", "prices", "s", "things"] := fun _ _ _ _ _ _ us hl => match us, hl with | [_, _, _, _], _ => rfl
theorem fits_greed_for_price : Fits "greed_for_price" "greed_for_price" sGreedFor ["worth", "b", "prices", "begun"] := fun _ _ _ _ _ _ us hl => match us, hl with | [_, _, _, _], _ => rfl
theorem fits_answer_priced_call : Fits "answer_priced_call" "answer_priced_call" sPriced ["chooser", "call", "reader"] := fun _ _ _ _ _ _ us hl => match us, hl with | [_, _, _], _ => rfl
theorem fits_answer_call : Fits "answer_call" "answer_call" sAnswer ["chooser", "reader"] := fun _ _ _ _ _ _ us hl => match us, hl with | [_, _], _ => rfl
theorem fits_Chooser_init : Fits "__init__" "Chooser.__init__" (inClass clChooser 0) ["self"] := fun _ _ _ _ _ _ us hl => match us, hl with | [_], _ => rfl
theorem fits_Chooser_has_set : Fits "has_set" "Chooser.has_set" (inClass clChooser 1) ["self", "s"] := fun _ _ _ _ _ _ us hl => match us, hl with | [_, _], _ => rfl
theorem fits_Chooser_told : Fits "told" "Chooser.told" (inClass clChooser 2) ["self", "s"] := fun _ _ _ _ _ _ us hl => match us, hl with | [_, _], _ => rfl
theorem fits_Chooser_take : Fits "take" "Chooser.take" (inClass clChooser 3) ["self", "n", "worth"] := fun _ _ _ _ _ _ us hl => match us, hl with | [_, _, _], _ => rfl
theorem fits_Chooser_tell : Fits "tell" "Chooser.tell" (inClass clChooser 4) ["self", "handed"] := fun _ _ _ _ _ _ us hl => match us, hl with | [_, _], _ => rfl
theorem fits_Chooser_cover : Fits "cover" "Chooser.cover" (inClass clChooser 5) ["self", "n", "points"] := fun _ _ _ _ _ _ us hl => match us, hl with | [_, _, _], _ => rfl
theorem fits_Chooser_best : Fits "best" "Chooser.best" (inClass clChooser 6) ["self", "k"] := fun _ _ _ _ _ _ us hl => match us, hl with | [_, _], _ => rfl
theorem fits_Chooser_greed : Fits "greed" "Chooser.greed" (inClass clChooser 7) ["self", "k"] := fun _ _ _ _ _ _ us hl => match us, hl with | [_, _], _ => rfl
theorem fits_Chooser_bound : Fits "bound" "Chooser.bound" (inClass clChooser 8) ["self", "k", "s"] := fun _ _ _ _ _ _ us hl => match us, hl with | [_, _, _], _ => rfl
theorem fits_Chooser_brings : Fits "brings" "Chooser.brings" (inClass clChooser 9) ["self", "s"] := fun _ _ _ _ _ _ us hl => match us, hl with | [_, _], _ => rfl
theorem fits_Chooser_better : Fits "better" "Chooser.better" (inClass clChooser 10) ["self", "s"] := fun _ _ _ _ _ _ us hl => match us, hl with | [_, _], _ => rfl
theorem fits_Chooser_settle : Fits "settle" "Chooser.settle" (inClass clChooser 11) ["self", "s"] := fun _ _ _ _ _ _ us hl => match us, hl with | [_, _], _ => rfl
theorem fits_Chooser_spend : Fits "spend" "Chooser.spend" (inClass clChooser 12) ["self", "b", "prices"] := fun _ _ _ _ _ _ us hl => match us, hl with | [_, _, _], _ => rfl
theorem fits_Chooser_greedily : Fits "greedily" "Chooser.greedily" (inClass clChooser 13) ["self", "b", "prices"] := fun _ _ _ _ _ _ us hl => match us, hl with | [_, _, _], _ => rfl
theorem fits_Chooser_three : Fits "three" "Chooser.three" (inClass clChooser 14) ["self", "b", "prices"] := fun _ _ _ _ _ _ us hl => match us, hl with | [_, _, _], _ => rfl
theorem fits_Chooser_curve : Fits "curve" "Chooser.curve" (inClass clChooser 15) ["self"] := fun _ _ _ _ _ _ us hl => match us, hl with | [_], _ => rfl
theorem fits_Reader_init : Fits "__init__" "Reader.__init__" (inClass clReader 0) ["self", "calls"] := fun _ _ _ _ _ _ us hl => match us, hl with | [_, _], _ => rfl
theorem fits_Reader_has_more : Fits "has_more" "Reader.has_more" (inClass clReader 1) ["self"] := fun _ _ _ _ _ _ us hl => match us, hl with | [_], _ => rfl
theorem fits_Reader_number : Fits "number" "Reader.number" (inClass clReader 2) ["self"] := fun _ _ _ _ _ _ us hl => match us, hl with | [_], _ => rfl
theorem fits_Reader_row : Fits "row" "Reader.row" (inClass clReader 3) ["self"] := fun _ _ _ _ _ _ us hl => match us, hl with | [_], _ => rfl
theorem fits_answers : ∀ (kV doc pm : Value) (an : Option Addr) (cdv ct : Value) (s : Shared) (us : List Value), us.length = (["calls"] : List Str).length → BindsTo s (PySem.W.fnOf "answers" "answers" (C8.fnArgs sAnswers) (C8.fnBody sAnswers) (C8.fnScope sAnswers) .none kV doc pm an cdv ct) ⟨us, []⟩ ((["calls"] : List Str).zip us) := fun _ _ _ _ _ _ s us hu => match us, hu with | [_], _ => .of_eq rfl
theorem all_mk {P : Program} {w : World} {K : PySem.W.Frag} {h : Heap} {mg : Str → Option Value} {fa fm C R : Addr} {od an : Option Addr} {sl : Array (Option Value)} {oc kV dc pm cd ct : Value} (X : K.In h) (G : h.Ns mainGlobals mg) (hfa : mg "answers" = some (.ref fa))
    (pm_ : PySem.W.nsIn K mainGlobals "answers" = some (some (.ref fm))) (lm : K.lookup fm = some ⟨oc, od, .func (PySem.W.fnOf "answers" "answers" (C8.fnArgs sAnswers) (C8.fnBody sAnswers) (C8.fnScope sAnswers) .none kV dc pm an cd ct), sl⟩) (cm : PySem.W.codeIn K cd "answers" = true)
    (d_only : DefOk K mg "only" sOnly ["thing"])
    (d_things_within : DefOk K mg "things_within" sWithin ["n", "s"])
    (d_things_outside : DefOk K mg "things_outside" sOutside ["n", "s"])
    (d_what_it_brings : DefOk K mg "what_it_brings" sWhat ["worth", "s", "thing"])
    (d_handed_number : DefOk K mg "handed_number" sHanded ["handed"])
    (d_values_fit : DefOk K mg "values_fit" sVals ["handed"])
    (d_points_fit : DefOk K mg "points_fit" sPts ["n", "points"])
    (d_weight_met : DefOk K mg "weight_met" sMet ["points", "s"])
    (d_prices_fit : DefOk K mg "prices_fit" sPrices ["n", "prices"])
    (d_brings_rightly : DefOk K mg "brings_rightly" sRight ["n", "worth", "s"])
    (d_function_fits : DefOk K mg "function_fits" sFits ["n", "worth"])
    (d_sets_up_to : DefOk K mg "sets_up_to" sSets ["n", "k"])
    (d_best_of : DefOk K mg "best_of" sBestOf ["worth", "sets"])
    (d_thing_bringing_most : DefOk K mg "thing_bringing_most" sMost ["n", "worth", "s"])
    (d_things_by_greed : DefOk K mg "things_by_greed" sGreed ["n", "worth", "k"])
    (d_changed : DefOk K mg "changed" sChanged ["s", "change"])
    (d_first_better_change : DefOk K mg "first_better_change" sFirst ["n", "worth", "s"])
    (d_price_of : DefOk K mg "price_of" sPriceOf ["prices", "s"])
    (d_paid_with : DefOk K mg "paid_with" sPaid ["b", "prices", "sets"])
    (d_things_still_paid : DefOk K mg "things_still_paid" sStill ["b", "prices", "s"])
    (d_brings_more_for_price : DefOk K mg "brings_more_for_price" sMoreFor ["worth", "prices", "s", "thing", "other"])
    (d_most_for_price : DefOk K mg "most_for_price" sMostFor ["worth", "prices", "s", "things"])
    (d_greed_for_price : DefOk K mg "greed_for_price" sGreedFor ["worth", "b", "prices", "begun"])
    (d_answer_priced_call : DefOk K mg "answer_priced_call" sPriced ["chooser", "call", "reader"])
    (d_answer_call : DefOk K mg "answer_call" sAnswer ["chooser", "reader"])
    (k_Chooser : ClsOk K mg "Chooser" C)
    (n_Chooser_n : NoAttr K C "n")
    (n_Chooser_worth : NoAttr K C "worth")
    (m_Chooser_init : MethOk K C "__init__" "Chooser.__init__" (inClass clChooser 0) ["self"])
    (m_Chooser_has_set : MethOk K C "has_set" "Chooser.has_set" (inClass clChooser 1) ["self", "s"])
    (m_Chooser_told : MethOk K C "told" "Chooser.told" (inClass clChooser 2) ["self", "s"])
    (m_Chooser_take : MethOk K C "take" "Chooser.take" (inClass clChooser 3) ["self", "n", "worth"])
    (m_Chooser_tell : MethOk K C "tell" "Chooser.tell" (inClass clChooser 4) ["self", "handed"])
    (m_Chooser_cover : MethOk K C "cover" "Chooser.cover" (inClass clChooser 5) ["self", "n", "points"])
    (m_Chooser_best : MethOk K C "best" "Chooser.best" (inClass clChooser 6) ["self", "k"])
    (m_Chooser_greed : MethOk K C "greed" "Chooser.greed" (inClass clChooser 7) ["self", "k"])
    (m_Chooser_bound : MethOk K C "bound" "Chooser.bound" (inClass clChooser 8) ["self", "k", "s"])
    (m_Chooser_brings : MethOk K C "brings" "Chooser.brings" (inClass clChooser 9) ["self", "s"])
    (m_Chooser_better : MethOk K C "better" "Chooser.better" (inClass clChooser 10) ["self", "s"])
    (m_Chooser_settle : MethOk K C "settle" "Chooser.settle" (inClass clChooser 11) ["self", "s"])
    (m_Chooser_spend : MethOk K C "spend" "Chooser.spend" (inClass clChooser 12) ["self", "b", "prices"])
    (m_Chooser_greedily : MethOk K C "greedily" "Chooser.greedily" (inClass clChooser 13) ["self", "b", "prices"])
    (m_Chooser_three : MethOk K C "three" "Chooser.three" (inClass clChooser 14) ["self", "b", "prices"])
    (m_Chooser_curve : MethOk K C "curve" "Chooser.curve" (inClass clChooser 15) ["self"])
    (k_Reader : ClsOk K mg "Reader" R)
    (n_Reader_calls : NoAttr K R "calls")
    (n_Reader_at : NoAttr K R "at")
    (m_Reader_init : MethOk K R "__init__" "Reader.__init__" (inClass clReader 0) ["self", "calls"])
    (m_Reader_has_more : MethOk K R "has_more" "Reader.has_more" (inClass clReader 1) ["self"])
    (m_Reader_number : MethOk K R "number" "Reader.number" (inClass clReader 2) ["self"])
    (m_Reader_row : MethOk K R "row" "Reader.row" (inClass clReader 3) ["self"])
    (i_MOST_THINGS : IsC mg "MOST_THINGS" (.int (5)))
    (i_MOST_HANDED : IsC mg "MOST_HANDED" (.int (20000)))
    (i_MOST_POINTS : IsC mg "MOST_POINTS" (.int (20)))
    (i_MOST_WEIGHT : IsC mg "MOST_WEIGHT" (.int (1000)))
    (i_WRONG_NUMBERS : IsC mg "WRONG_NUMBERS" (.int (-1)))
    (i_WRONG_FUNCTION : IsC mg "WRONG_FUNCTION" (.int (-6)))
    (i_MOST_PRICE : IsC mg "MOST_PRICE" (.int (1000)))
    (i_MOST_BEGUN : IsC mg "MOST_BEGUN" (.int (3)))
    (i_NO_BETTER_CHANGE : IsC mg "NO_BETTER_CHANGE" (.int (-3)))
    (i_TELL : IsC mg "TELL" (.int (0)))
    (i_COVER : IsC mg "COVER" (.int (1)))
    (i_BEST : IsC mg "BEST" (.int (2)))
    (i_GREED : IsC mg "GREED" (.int (3)))
    (i_BOUND : IsC mg "BOUND" (.int (4)))
    (i_BRINGS : IsC mg "BRINGS" (.int (5)))
    (i_BETTER : IsC mg "BETTER" (.int (6)))
    (i_SETTLE : IsC mg "SETTLE" (.int (7)))
    (i_SPEND : IsC mg "SPEND" (.int (8)))
    (i_GREEDILY : IsC mg "GREEDILY" (.int (9)))
    (i_THREE : IsC mg "THREE" (.int (10)))
    (i_CURVE : IsC mg "CURVE" (.int (11)))
    (counts : ∃ a, IsC mg "SET_COUNTS" (.ref a) ∧ (∀ H, SqT K H a [.int 2, .int 4, .int 8, .int 16, .int 32]) ∧ ∃ o, K.lookup a = some o ∧ o.cls = .type "tuple" ∧ o.dict = none)
    (z_rng : PySem.W.nsIn K mainGlobals "range" = some none)
    (z_len : PySem.W.nsIn K mainGlobals "len" = some none)
    (z_max : PySem.W.nsIn K mainGlobals "max" = some none)
    (z_min : PySem.W.nsIn K mainGlobals "min" = some none)
    (z_sum : PySem.W.nsIn K mainGlobals "sum" = some none)
    (z_srt : PySem.W.nsIn K mainGlobals "sorted" = some none)
    (z_all : PySem.W.nsIn K mainGlobals "all" = some none) :
    ∃ fd : FuncData, (∀ (s : Shared) (us : List Value), us.length = (["calls"] : List Str).length → BindsTo s fd ⟨us, []⟩ ((["calls"] : List Str).zip us)) ∧ ∀ base : Heap, K.In base → base.Ns mainGlobals mg → FnOk P w K mg base C8.CX0 9 fa fd ["calls"] (spAnswers K) := by
  have e := hfa.symm.trans (PySem.W.mg_of X G pm_)
  cases e
  have g : Gs mg := ⟨PySem.W.mg_none_of X G z_rng, PySem.W.mg_none_of X G z_len, PySem.W.mg_none_of X G z_max, PySem.W.mg_none_of X G z_min, PySem.W.mg_none_of X G z_sum, PySem.W.mg_none_of X G z_srt, PySem.W.mg_none_of X G z_all⟩
  have cs : Cs K mg := ⟨counts, i_MOST_THINGS, i_MOST_HANDED, i_MOST_POINTS, i_MOST_WEIGHT, i_WRONG_NUMBERS, i_WRONG_FUNCTION, i_MOST_PRICE, i_MOST_BEGUN, i_NO_BETTER_CHANGE⟩
  have ns : Ns mg := ⟨i_TELL, i_COVER, i_BEST, i_GREED, i_BOUND, i_BRINGS, i_BETTER, i_SETTLE, i_SPEND, i_GREEDILY, i_THREE, i_CURVE⟩
  have k : Kl K C := ⟨k_Chooser.cl, n_Chooser_n, n_Chooser_worth⟩
  have rl : Rl K R := ⟨k_Reader.cl, n_Reader_calls, n_Reader_at⟩
  obtain ⟨f_only, fd_only, D_only, b_only⟩ := d_only.ex
  obtain ⟨f_things_within, fd_things_within, D_things_within, b_things_within⟩ := d_things_within.ex
  obtain ⟨f_things_outside, fd_things_outside, D_things_outside, b_things_outside⟩ := d_things_outside.ex
  obtain ⟨f_what_it_brings, fd_what_it_brings, D_what_it_brings, b_what_it_brings⟩ := d_what_it_brings.ex
  obtain ⟨f_handed_number, fd_handed_number, D_handed_number, b_handed_number⟩ := d_handed_number.ex
  obtain ⟨f_values_fit, fd_values_fit, D_values_fit, b_values_fit⟩ := d_values_fit.ex
  obtain ⟨f_points_fit, fd_points_fit, D_points_fit, b_points_fit⟩ := d_points_fit.ex
  obtain ⟨f_weight_met, fd_weight_met, D_weight_met, b_weight_met⟩ := d_weight_met.ex
  obtain ⟨f_prices_fit, fd_prices_fit, D_prices_fit, b_prices_fit⟩ := d_prices_fit.ex
  obtain ⟨f_brings_rightly, fd_brings_rightly, D_brings_rightly, b_brings_rightly⟩ := d_brings_rightly.ex
  obtain ⟨f_function_fits, fd_function_fits, D_function_fits, b_function_fits⟩ := d_function_fits.ex
  obtain ⟨f_sets_up_to, fd_sets_up_to, D_sets_up_to, b_sets_up_to⟩ := d_sets_up_to.ex
  obtain ⟨f_best_of, fd_best_of, D_best_of, b_best_of⟩ := d_best_of.ex
  obtain ⟨f_thing_bringing_most, fd_thing_bringing_most, D_thing_bringing_most, b_thing_bringing_most⟩ := d_thing_bringing_most.ex
  obtain ⟨f_things_by_greed, fd_things_by_greed, D_things_by_greed, b_things_by_greed⟩ := d_things_by_greed.ex
  obtain ⟨f_changed, fd_changed, D_changed, b_changed⟩ := d_changed.ex
  obtain ⟨f_first_better_change, fd_first_better_change, D_first_better_change, b_first_better_change⟩ := d_first_better_change.ex
  obtain ⟨f_price_of, fd_price_of, D_price_of, b_price_of⟩ := d_price_of.ex
  obtain ⟨f_paid_with, fd_paid_with, D_paid_with, b_paid_with⟩ := d_paid_with.ex
  obtain ⟨f_things_still_paid, fd_things_still_paid, D_things_still_paid, b_things_still_paid⟩ := d_things_still_paid.ex
  obtain ⟨f_brings_more_for_price, fd_brings_more_for_price, D_brings_more_for_price, b_brings_more_for_price⟩ := d_brings_more_for_price.ex
  obtain ⟨f_most_for_price, fd_most_for_price, D_most_for_price, b_most_for_price⟩ := d_most_for_price.ex
  obtain ⟨f_greed_for_price, fd_greed_for_price, D_greed_for_price, b_greed_for_price⟩ := d_greed_for_price.ex
  obtain ⟨f_answer_priced_call, fd_answer_priced_call, D_answer_priced_call, b_answer_priced_call⟩ := d_answer_priced_call.ex
  obtain ⟨f_answer_call, fd_answer_call, D_answer_call, b_answer_call⟩ := d_answer_call.ex
  obtain ⟨f_Chooser_init, fd_Chooser_init, me_Chooser_init, F_Chooser_init, b_Chooser_init⟩ := m_Chooser_init.ex
  obtain ⟨f_Chooser_has_set, fd_Chooser_has_set, me_Chooser_has_set, F_Chooser_has_set, b_Chooser_has_set⟩ := m_Chooser_has_set.ex
  obtain ⟨f_Chooser_told, fd_Chooser_told, me_Chooser_told, F_Chooser_told, b_Chooser_told⟩ := m_Chooser_told.ex
  obtain ⟨f_Chooser_take, fd_Chooser_take, me_Chooser_take, F_Chooser_take, b_Chooser_take⟩ := m_Chooser_take.ex
  obtain ⟨f_Chooser_tell, fd_Chooser_tell, me_Chooser_tell, F_Chooser_tell, b_Chooser_tell⟩ := m_Chooser_tell.ex
  obtain ⟨f_Chooser_cover, fd_Chooser_cover, me_Chooser_cover, F_Chooser_cover, b_Chooser_cover⟩ := m_Chooser_cover.ex
  obtain ⟨f_Chooser_best, fd_Chooser_best, me_Chooser_best, F_Chooser_best, b_Chooser_best⟩ := m_Chooser_best.ex
  obtain ⟨f_Chooser_greed, fd_Chooser_greed, me_Chooser_greed, F_Chooser_greed, b_Chooser_greed⟩ := m_Chooser_greed.ex
  obtain ⟨f_Chooser_bound, fd_Chooser_bound, me_Chooser_bound, F_Chooser_bound, b_Chooser_bound⟩ := m_Chooser_bound.ex
  obtain ⟨f_Chooser_brings, fd_Chooser_brings, me_Chooser_brings, F_Chooser_brings, b_Chooser_brings⟩ := m_Chooser_brings.ex
  obtain ⟨f_Chooser_better, fd_Chooser_better, me_Chooser_better, F_Chooser_better, b_Chooser_better⟩ := m_Chooser_better.ex
  obtain ⟨f_Chooser_settle, fd_Chooser_settle, me_Chooser_settle, F_Chooser_settle, b_Chooser_settle⟩ := m_Chooser_settle.ex
  obtain ⟨f_Chooser_spend, fd_Chooser_spend, me_Chooser_spend, F_Chooser_spend, b_Chooser_spend⟩ := m_Chooser_spend.ex
  obtain ⟨f_Chooser_greedily, fd_Chooser_greedily, me_Chooser_greedily, F_Chooser_greedily, b_Chooser_greedily⟩ := m_Chooser_greedily.ex
  obtain ⟨f_Chooser_three, fd_Chooser_three, me_Chooser_three, F_Chooser_three, b_Chooser_three⟩ := m_Chooser_three.ex
  obtain ⟨f_Chooser_curve, fd_Chooser_curve, me_Chooser_curve, F_Chooser_curve, b_Chooser_curve⟩ := m_Chooser_curve.ex
  obtain ⟨f_Reader_init, fd_Reader_init, me_Reader_init, F_Reader_init, b_Reader_init⟩ := m_Reader_init.ex
  obtain ⟨f_Reader_has_more, fd_Reader_has_more, me_Reader_has_more, F_Reader_has_more, b_Reader_has_more⟩ := m_Reader_has_more.ex
  obtain ⟨f_Reader_number, fd_Reader_number, me_Reader_number, F_Reader_number, b_Reader_number⟩ := m_Reader_number.ex
  obtain ⟨f_Reader_row, fd_Reader_row, me_Reader_row, F_Reader_row, b_Reader_row⟩ := m_Reader_row.ex
  refine ⟨PySem.W.fnOf "answers" "answers" (C8.fnArgs sAnswers) (C8.fnBody sAnswers) (C8.fnScope sAnswers) .none kV dc pm an cd ct, fits_answers kV dc pm an cd ct, fun base _ _ => ?_⟩
  have Fm : C8.Fun K "answers" "answers" sAnswers fa _ := ⟨⟨oc, od, .none, kV, dc, pm, an, cd, ct, sl, rfl, lm, cm⟩⟩
  have cOnly := ok_only (P := P) (w := w) (base := base) D_only b_only
  have cWithin := ok_within g cOnly D_things_within b_things_within
  have cOut := ok_outside g cOnly D_things_outside b_things_outside
  have cWhat := ok_what cOnly D_what_it_brings b_what_it_brings
  have cHanded := ok_handed (P := P) (w := w) (base := base) D_handed_number b_handed_number
  have cVals := ok_vals (P := P) (w := w) (base := base) g cs D_values_fit b_values_fit
  have cPts := ok_pts (P := P) (w := w) (base := base) g cs D_points_fit b_points_fit
  have cMet := ok_met (P := P) (w := w) (base := base) g D_weight_met b_weight_met
  have cRight := ok_right cOnly cOut cWhat D_brings_rightly b_brings_rightly
  have cFits := ok_fits g cRight D_function_fits b_function_fits
  have cBestOf := ok_bestOf (P := P) (w := w) (base := base) D_best_of b_best_of
  have cMost := ok_most cOut cWhat D_thing_bringing_most b_thing_bringing_most
  have cGreed := ok_greed g cOnly cMost D_things_by_greed b_things_by_greed
  have cPrices := ok_prices (P := P) (w := w) (base := base) g cs D_prices_fit b_prices_fit
  have cSets := ok_sets g cs cWithin D_sets_up_to b_sets_up_to
  have cChanged := ok_changed cOnly D_changed b_changed
  have cFirst := ok_first cWithin cOut cChanged D_first_better_change b_first_better_change
  have cPriceOf := ok_priceOf g cWithin D_price_of b_price_of
  have cPaid := ok_paid cPriceOf D_paid_with b_paid_with
  have cStill := ok_still g cOut cPriceOf D_things_still_paid b_things_still_paid
  have cMoreFor := ok_moreFor cWhat D_brings_more_for_price b_brings_more_for_price
  have cMostFor := ok_mostFor cMoreFor D_most_for_price b_most_for_price
  have cGreedFor := ok_greedFor g cOnly cStill cMostFor D_greed_for_price b_greed_for_price
  have GI := ok_cinit (P := P) (w := w) (mg := mg) (base := base) k F_Chooser_init b_Chooser_init
  have mHas := ok_has (P := P) (w := w) (base := base) g k me_Chooser_has_set F_Chooser_has_set b_Chooser_has_set
  have mTold := ok_told (P := P) (w := w) (mg := mg) (base := base) k me_Chooser_told F_Chooser_told b_Chooser_told
  have mTake := ok_take cs k cFits me_Chooser_take F_Chooser_take b_Chooser_take
  have mTell := ok_tell g cs k cVals cHanded mTake me_Chooser_tell F_Chooser_tell b_Chooser_tell
  have mCover := ok_cover g cs k cPts cMet mTake me_Chooser_cover F_Chooser_cover b_Chooser_cover
  have mBest := ok_best k cSets cBestOf mTold me_Chooser_best F_Chooser_best b_Chooser_best
  have mGreed := ok_greedM g k cOnly cGreed mTold me_Chooser_greed F_Chooser_greed b_Chooser_greed
  have mBound := ok_bound g cs k cWhat cOut mHas me_Chooser_bound F_Chooser_bound b_Chooser_bound
  have mBrings := ok_brings g cs k cWhat cOut mHas me_Chooser_brings F_Chooser_brings b_Chooser_brings
  have mBetter := ok_better g cs k cFirst cChanged mHas me_Chooser_better F_Chooser_better b_Chooser_better
  have mSettle := ok_settle g cs k cFirst cChanged mHas mTold me_Chooser_settle F_Chooser_settle b_Chooser_settle
  have mSpend := ok_spend cs k cPrices cSets cPaid cBestOf mTold me_Chooser_spend F_Chooser_spend b_Chooser_spend
  have mGreedily := ok_greedily cs k cPrices cGreedFor mTold me_Chooser_greedily F_Chooser_greedily b_Chooser_greedily
  have mThree := ok_three g cs k cPrices cSets cPaid cBestOf cGreedFor mTold me_Chooser_three F_Chooser_three b_Chooser_three
  have mCurve := ok_curve g k mBest mGreed me_Chooser_curve F_Chooser_curve b_Chooser_curve
  have RI := ok_rinit (P := P) (w := w) (mg := mg) (base := base) rl F_Reader_init b_Reader_init
  have mMore := ok_more (P := P) (w := w) (base := base) g rl me_Reader_has_more F_Reader_has_more b_Reader_has_more
  have mNum := ok_number (P := P) (w := w) (mg := mg) (base := base) rl me_Reader_number F_Reader_number b_Reader_number
  have mRow := ok_row rl mNum me_Reader_row F_Reader_row b_Reader_row
  have cPriced := ok_priced ns mNum mRow mSpend mGreedily mThree D_answer_priced_call b_answer_priced_call
  have cAns := ok_answer ns rl mNum mRow mTell mCover mBest mGreed mBound mBrings mBetter mSettle mCurve cPriced D_answer_call b_answer_call
  exact ok_answers g ⟨k_Chooser.makes, me_Chooser_init.at_, me_Chooser_init.fn, k_Chooser.kp⟩ k_Chooser.at_ GI b_Chooser_init
    ⟨⟨_, _, _, _, ⟨k_Reader.makes, me_Reader_init.at_, me_Reader_init.fn, k_Reader.kp⟩, RI, k_Reader.at_, b_Reader_init, .nil⟩⟩ mMore cAns Fm
end Cw
open PySem PySem.W PyProof.Rows
set_option maxRecDepth 100000 in
set_option maxHeartbeats 0 in
theorem PySem.Challenge.cw_chosenwell_s01_answers_holds : PySem.Challenge.rw_chosenwell_s01_answers.Holds := by
  w_on; k_headS; (case hw => exact ⟨[.list [.int 11]], by decide +kernel, by decide +kernel⟩)
  k_fillS
  refine L2.walk_specK (r := PySem.Challenge.rw_chosenwell_s01_answers) (k := 9) (CX := C8.CX0) (ps := ["calls"]) (sp := Cw.spAnswers) (by decide +kernel) rfl rfl ⟨rfl, by decide, by decide⟩ (fun w h Y => PySem.W.kIn_of Y) ?F ?S (fun _ _ _ _ z => z)
  case F =>
    intro w mg fa h Y KX G hmg
    refine' Cw.all_mk KX G hmg ?pm_ ?lm ?cm ?d_only ?d_things_within ?d_things_outside ?d_what_it_brings ?d_handed_number ?d_values_fit ?d_points_fit ?d_weight_met ?d_prices_fit ?d_brings_rightly ?d_function_fits ?d_sets_up_to ?d_best_of ?d_thing_bringing_most ?d_things_by_greed ?d_changed ?d_first_better_change ?d_price_of ?d_paid_with ?d_things_still_paid ?d_brings_more_for_price ?d_most_for_price ?d_greed_for_price ?d_answer_priced_call ?d_answer_call ?k_Chooser ?n_Chooser_n ?n_Chooser_worth ?m_Chooser_init ?m_Chooser_has_set ?m_Chooser_told ?m_Chooser_take ?m_Chooser_tell ?m_Chooser_cover ?m_Chooser_best ?m_Chooser_greed ?m_Chooser_bound ?m_Chooser_brings ?m_Chooser_better ?m_Chooser_settle ?m_Chooser_spend ?m_Chooser_greedily ?m_Chooser_three ?m_Chooser_curve ?k_Reader ?n_Reader_calls ?n_Reader_at ?m_Reader_init ?m_Reader_has_more ?m_Reader_number ?m_Reader_row ?i_MOST_THINGS ?i_MOST_HANDED ?i_MOST_POINTS ?i_MOST_WEIGHT ?i_WRONG_NUMBERS ?i_WRONG_FUNCTION ?i_MOST_PRICE ?i_MOST_BEGUN ?i_NO_BETTER_CHANGE ?i_TELL ?i_COVER ?i_BEST ?i_GREED ?i_BOUND ?i_BRINGS ?i_BETTER ?i_SETTLE ?i_SPEND ?i_GREEDILY ?i_THREE ?i_CURVE ?counts ?z_rng ?z_len ?z_max ?z_min ?z_sum ?z_srt ?z_all
    (case pm_ => k_is); (case lm => k_is); (case cm => k_is)
    (case k_Reader => refine' Cw.clsOk_mk KX G ?xp ?xpg ?xhd ?xpo ?xsa ?xmk ?xkc; (case xp => k_is); (case xpg => k_is); (case xhd => k_is); (case xpo => k_is); (case xsa => k_is); (case xmk => k_is); (case xkc => k_is))
    (case k_Chooser => refine' Cw.clsOk_mk KX G ?xp ?xpg ?xhd ?xpo ?xsa ?xmk ?xkc; (case xp => k_is); (case xpg => k_is); (case xhd => k_is); (case xpo => k_is); (case xsa => k_is); (case xmk => k_is); (case xkc => k_is))
    (case d_only => refine' Cw.defOk_mk KX G ?xa ?xl ?xc ?xk Cw.fits_only; (case xa => k_is); (case xl => k_is); (case xc => k_is); (case xk => k_is))
    (case d_things_within => refine' Cw.defOk_mk KX G ?xa ?xl ?xc ?xk Cw.fits_things_within; (case xa => k_is); (case xl => k_is); (case xc => k_is); (case xk => k_is))
    (case d_things_outside => refine' Cw.defOk_mk KX G ?xa ?xl ?xc ?xk Cw.fits_things_outside; (case xa => k_is); (case xl => k_is); (case xc => k_is); (case xk => k_is))
    (case d_what_it_brings => refine' Cw.defOk_mk KX G ?xa ?xl ?xc ?xk Cw.fits_what_it_brings; (case xa => k_is); (case xl => k_is); (case xc => k_is); (case xk => k_is))
    (case d_handed_number => refine' Cw.defOk_mk KX G ?xa ?xl ?xc ?xk Cw.fits_handed_number; (case xa => k_is); (case xl => k_is); (case xc => k_is); (case xk => k_is))
    (case d_values_fit => refine' Cw.defOk_mk KX G ?xa ?xl ?xc ?xk Cw.fits_values_fit; (case xa => k_is); (case xl => k_is); (case xc => k_is); (case xk => k_is))
    (case d_points_fit => refine' Cw.defOk_mk KX G ?xa ?xl ?xc ?xk Cw.fits_points_fit; (case xa => k_is); (case xl => k_is); (case xc => k_is); (case xk => k_is))
    (case d_weight_met => refine' Cw.defOk_mk KX G ?xa ?xl ?xc ?xk Cw.fits_weight_met; (case xa => k_is); (case xl => k_is); (case xc => k_is); (case xk => k_is))
    (case d_prices_fit => refine' Cw.defOk_mk KX G ?xa ?xl ?xc ?xk Cw.fits_prices_fit; (case xa => k_is); (case xl => k_is); (case xc => k_is); (case xk => k_is))
    (case d_brings_rightly => refine' Cw.defOk_mk KX G ?xa ?xl ?xc ?xk Cw.fits_brings_rightly; (case xa => k_is); (case xl => k_is); (case xc => k_is); (case xk => k_is))
    (case d_function_fits => refine' Cw.defOk_mk KX G ?xa ?xl ?xc ?xk Cw.fits_function_fits; (case xa => k_is); (case xl => k_is); (case xc => k_is); (case xk => k_is))
    (case d_sets_up_to => refine' Cw.defOk_mk KX G ?xa ?xl ?xc ?xk Cw.fits_sets_up_to; (case xa => k_is); (case xl => k_is); (case xc => k_is); (case xk => k_is))
    (case d_best_of => refine' Cw.defOk_mk KX G ?xa ?xl ?xc ?xk Cw.fits_best_of; (case xa => k_is); (case xl => k_is); (case xc => k_is); (case xk => k_is))
    (case d_thing_bringing_most => refine' Cw.defOk_mk KX G ?xa ?xl ?xc ?xk Cw.fits_thing_bringing_most; (case xa => k_is); (case xl => k_is); (case xc => k_is); (case xk => k_is))
    (case d_things_by_greed => refine' Cw.defOk_mk KX G ?xa ?xl ?xc ?xk Cw.fits_things_by_greed; (case xa => k_is); (case xl => k_is); (case xc => k_is); (case xk => k_is))
    (case d_changed => refine' Cw.defOk_mk KX G ?xa ?xl ?xc ?xk Cw.fits_changed; (case xa => k_is); (case xl => k_is); (case xc => k_is); (case xk => k_is))
    (case d_first_better_change => refine' Cw.defOk_mk KX G ?xa ?xl ?xc ?xk Cw.fits_first_better_change; (case xa => k_is); (case xl => k_is); (case xc => k_is); (case xk => k_is))
    (case d_price_of => refine' Cw.defOk_mk KX G ?xa ?xl ?xc ?xk Cw.fits_price_of; (case xa => k_is); (case xl => k_is); (case xc => k_is); (case xk => k_is))
    (case d_paid_with => refine' Cw.defOk_mk KX G ?xa ?xl ?xc ?xk Cw.fits_paid_with; (case xa => k_is); (case xl => k_is); (case xc => k_is); (case xk => k_is))
    (case d_things_still_paid => refine' Cw.defOk_mk KX G ?xa ?xl ?xc ?xk Cw.fits_things_still_paid; (case xa => k_is); (case xl => k_is); (case xc => k_is); (case xk => k_is))
    (case d_brings_more_for_price => refine' Cw.defOk_mk KX G ?xa ?xl ?xc ?xk Cw.fits_brings_more_for_price; (case xa => k_is); (case xl => k_is); (case xc => k_is); (case xk => k_is))
    (case d_most_for_price => refine' Cw.defOk_mk KX G ?xa ?xl ?xc ?xk Cw.fits_most_for_price; (case xa => k_is); (case xl => k_is); (case xc => k_is); (case xk => k_is))
    (case d_greed_for_price => refine' Cw.defOk_mk KX G ?xa ?xl ?xc ?xk Cw.fits_greed_for_price; (case xa => k_is); (case xl => k_is); (case xc => k_is); (case xk => k_is))
    (case d_answer_priced_call => refine' Cw.defOk_mk KX G ?xa ?xl ?xc ?xk Cw.fits_answer_priced_call; (case xa => k_is); (case xl => k_is); (case xc => k_is); (case xk => k_is))
    (case d_answer_call => refine' Cw.defOk_mk KX G ?xa ?xl ?xc ?xk Cw.fits_answer_call; (case xa => k_is); (case xl => k_is); (case xc => k_is); (case xk => k_is))
    (case n_Chooser_n => (show PySem.W.findIn _ _ _ = _); k_is)
    (case n_Chooser_worth => (show PySem.W.findIn _ _ _ = _); k_is)
    (case m_Chooser_init => refine' Cw.methOk_mk ?xp ?xi ?xl ?xc ?xk Cw.fits_Chooser_init; (case xp => k_is); (case xi => k_is); (case xl => k_is); (case xc => k_is); (case xk => k_is))
    (case m_Chooser_has_set => refine' Cw.methOk_mk ?xp ?xi ?xl ?xc ?xk Cw.fits_Chooser_has_set; (case xp => k_is); (case xi => k_is); (case xl => k_is); (case xc => k_is); (case xk => k_is))
    (case m_Chooser_told => refine' Cw.methOk_mk ?xp ?xi ?xl ?xc ?xk Cw.fits_Chooser_told; (case xp => k_is); (case xi => k_is); (case xl => k_is); (case xc => k_is); (case xk => k_is))
    (case m_Chooser_take => refine' Cw.methOk_mk ?xp ?xi ?xl ?xc ?xk Cw.fits_Chooser_take; (case xp => k_is); (case xi => k_is); (case xl => k_is); (case xc => k_is); (case xk => k_is))
    (case m_Chooser_tell => refine' Cw.methOk_mk ?xp ?xi ?xl ?xc ?xk Cw.fits_Chooser_tell; (case xp => k_is); (case xi => k_is); (case xl => k_is); (case xc => k_is); (case xk => k_is))
    (case m_Chooser_cover => refine' Cw.methOk_mk ?xp ?xi ?xl ?xc ?xk Cw.fits_Chooser_cover; (case xp => k_is); (case xi => k_is); (case xl => k_is); (case xc => k_is); (case xk => k_is))
    (case m_Chooser_best => refine' Cw.methOk_mk ?xp ?xi ?xl ?xc ?xk Cw.fits_Chooser_best; (case xp => k_is); (case xi => k_is); (case xl => k_is); (case xc => k_is); (case xk => k_is))
    (case m_Chooser_greed => refine' Cw.methOk_mk ?xp ?xi ?xl ?xc ?xk Cw.fits_Chooser_greed; (case xp => k_is); (case xi => k_is); (case xl => k_is); (case xc => k_is); (case xk => k_is))
    (case m_Chooser_bound => refine' Cw.methOk_mk ?xp ?xi ?xl ?xc ?xk Cw.fits_Chooser_bound; (case xp => k_is); (case xi => k_is); (case xl => k_is); (case xc => k_is); (case xk => k_is))
    (case m_Chooser_brings => refine' Cw.methOk_mk ?xp ?xi ?xl ?xc ?xk Cw.fits_Chooser_brings; (case xp => k_is); (case xi => k_is); (case xl => k_is); (case xc => k_is); (case xk => k_is))
    (case m_Chooser_better => refine' Cw.methOk_mk ?xp ?xi ?xl ?xc ?xk Cw.fits_Chooser_better; (case xp => k_is); (case xi => k_is); (case xl => k_is); (case xc => k_is); (case xk => k_is))
    (case m_Chooser_settle => refine' Cw.methOk_mk ?xp ?xi ?xl ?xc ?xk Cw.fits_Chooser_settle; (case xp => k_is); (case xi => k_is); (case xl => k_is); (case xc => k_is); (case xk => k_is))
    (case m_Chooser_spend => refine' Cw.methOk_mk ?xp ?xi ?xl ?xc ?xk Cw.fits_Chooser_spend; (case xp => k_is); (case xi => k_is); (case xl => k_is); (case xc => k_is); (case xk => k_is))
    (case m_Chooser_greedily => refine' Cw.methOk_mk ?xp ?xi ?xl ?xc ?xk Cw.fits_Chooser_greedily; (case xp => k_is); (case xi => k_is); (case xl => k_is); (case xc => k_is); (case xk => k_is))
    (case m_Chooser_three => refine' Cw.methOk_mk ?xp ?xi ?xl ?xc ?xk Cw.fits_Chooser_three; (case xp => k_is); (case xi => k_is); (case xl => k_is); (case xc => k_is); (case xk => k_is))
    (case m_Chooser_curve => refine' Cw.methOk_mk ?xp ?xi ?xl ?xc ?xk Cw.fits_Chooser_curve; (case xp => k_is); (case xi => k_is); (case xl => k_is); (case xc => k_is); (case xk => k_is))
    (case n_Reader_calls => (show PySem.W.findIn _ _ _ = _); k_is)
    (case n_Reader_at => (show PySem.W.findIn _ _ _ = _); k_is)
    (case m_Reader_init => refine' Cw.methOk_mk ?xp ?xi ?xl ?xc ?xk Cw.fits_Reader_init; (case xp => k_is); (case xi => k_is); (case xl => k_is); (case xc => k_is); (case xk => k_is))
    (case m_Reader_has_more => refine' Cw.methOk_mk ?xp ?xi ?xl ?xc ?xk Cw.fits_Reader_has_more; (case xp => k_is); (case xi => k_is); (case xl => k_is); (case xc => k_is); (case xk => k_is))
    (case m_Reader_number => refine' Cw.methOk_mk ?xp ?xi ?xl ?xc ?xk Cw.fits_Reader_number; (case xp => k_is); (case xi => k_is); (case xl => k_is); (case xc => k_is); (case xk => k_is))
    (case m_Reader_row => refine' Cw.methOk_mk ?xp ?xi ?xl ?xc ?xk Cw.fits_Reader_row; (case xp => k_is); (case xi => k_is); (case xl => k_is); (case xc => k_is); (case xk => k_is))
    (case i_MOST_THINGS => refine' Cw.int_mk KX G ?xp; (case xp => k_is))
    (case i_MOST_HANDED => refine' Cw.int_mk KX G ?xp; (case xp => k_is))
    (case i_MOST_POINTS => refine' Cw.int_mk KX G ?xp; (case xp => k_is))
    (case i_MOST_WEIGHT => refine' Cw.int_mk KX G ?xp; (case xp => k_is))
    (case i_WRONG_NUMBERS => refine' Cw.int_mk KX G ?xp; (case xp => k_is))
    (case i_WRONG_FUNCTION => refine' Cw.int_mk KX G ?xp; (case xp => k_is))
    (case i_MOST_PRICE => refine' Cw.int_mk KX G ?xp; (case xp => k_is))
    (case i_MOST_BEGUN => refine' Cw.int_mk KX G ?xp; (case xp => k_is))
    (case i_NO_BETTER_CHANGE => refine' Cw.int_mk KX G ?xp; (case xp => k_is))
    (case i_TELL => refine' Cw.int_mk KX G ?xp; (case xp => k_is))
    (case i_COVER => refine' Cw.int_mk KX G ?xp; (case xp => k_is))
    (case i_BEST => refine' Cw.int_mk KX G ?xp; (case xp => k_is))
    (case i_GREED => refine' Cw.int_mk KX G ?xp; (case xp => k_is))
    (case i_BOUND => refine' Cw.int_mk KX G ?xp; (case xp => k_is))
    (case i_BRINGS => refine' Cw.int_mk KX G ?xp; (case xp => k_is))
    (case i_BETTER => refine' Cw.int_mk KX G ?xp; (case xp => k_is))
    (case i_SETTLE => refine' Cw.int_mk KX G ?xp; (case xp => k_is))
    (case i_SPEND => refine' Cw.int_mk KX G ?xp; (case xp => k_is))
    (case i_GREEDILY => refine' Cw.int_mk KX G ?xp; (case xp => k_is))
    (case i_THREE => refine' Cw.int_mk KX G ?xp; (case xp => k_is))
    (case i_CURVE => refine' Cw.int_mk KX G ?xp; (case xp => k_is))
    (case counts => refine' Cw.counts_mk KX G ?xp ?xl ?xv; (case xp => k_is); (case xl => k_is); (case xv => exact .cons ⟨_, rfl⟩ (.cons ⟨_, rfl⟩ (.cons ⟨_, rfl⟩ (.cons ⟨_, rfl⟩ (.cons ⟨_, rfl⟩ .nil))))))
    (case z_rng => k_is)
    (case z_len => k_is)
    (case z_max => k_is)
    (case z_min => k_is)
    (case z_sum => k_is)
    (case z_srt => k_is)
    (case z_all => k_is)
  case S =>
    intro K H xs a hO hwi hask hx
    cases hx with
    | cons h1 h2 =>
      cases h2
      cases h1 with
      | lst hs ha =>
        have e := L2.ints_dw a.1 _ ha
        subst e
        have q : ((Codec.inLen 0 1600 a.1 && a.1.all (Codec.inInt 0 4294967295)) && true) = true := hwi
        rw [Bool.and_eq_true, Bool.and_eq_true] at q
        refine ⟨_, a.1, rfl, hs, fun x m => ?_, hask, fun H' p hp => .lst (L2.SqL.of hp) (L2.dw_ints _)⟩
        exact Codec.inInt_iff.mp (List.all_eq_true.mp q.1.2 x m)
