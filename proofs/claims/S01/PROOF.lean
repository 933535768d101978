import PyProof.Rows.All
import Wide.All
import OpenK.AllK
import Wide.FinOn
import Open.SpecLaws
import KE.OsGo
import HandS.ForSpec
import HandS.Comp
import HandS.Dict
import HandS.Iter
import HandS.Text
import HandS.WordsDict
import HandS.CallLocal
import HandS.Zip
import HandS.SortKw
import HandS.Walk
import PySem.Challenge.RW_stackedsheets_s01_answers
set_option Elab.async false
set_option linter.all false
set_option maxRecDepth 100000
set_option maxHeartbeats 4000000
namespace My
section
/-! ### could and need, by lists in order -/
abbrev nints (l : List Nat) : List Int := l.map fun n : Nat => (n : Int)
theorem insertDown_perm (x : Nat) : ∀ l : List Nat, (Kqb2.insertDown x l).Perm (x :: l)
  | [] => .refl _
  | y :: l => by
    unfold Kqb2.insertDown
    by_cases h : y ≤ x
    · rw [if_pos h]
    · rw [if_neg h]
      exact ((insertDown_perm x l).cons y).trans (.swap x y l)
theorem down_perm : ∀ l : List Nat, (Kqb2.down l).Perm l
  | [] => .refl _
  | x :: l => (insertDown_perm x _).trans ((down_perm l).cons x)
theorem insertDown_sorted (x : Nat) : ∀ l : List Nat, l.Pairwise (fun a b => b ≤ a) → (Kqb2.insertDown x l).Pairwise (fun a b => b ≤ a)
  | [], _ => List.pairwise_singleton _ _
  | y :: l, h => by
    unfold Kqb2.insertDown
    have h' := List.pairwise_cons.mp h
    by_cases c : y ≤ x
    · rw [if_pos c]
      refine List.pairwise_cons.mpr ⟨fun z hz => ?_, h⟩
      rcases List.mem_cons.mp hz with rfl | hz
      · exact c
      · exact Nat.le_trans (h'.1 z hz) c
    · rw [if_neg c]
      refine List.pairwise_cons.mpr ⟨fun z hz => ?_, insertDown_sorted x l h'.2⟩
      rcases List.mem_cons.mp ((insertDown_perm x l).mem_iff.mp hz) with rfl | hz
      · omega
      · exact h'.1 z hz
theorem down_sorted : ∀ l : List Nat, (Kqb2.down l).Pairwise (fun a b => b ≤ a)
  | [] => List.Pairwise.nil
  | x :: l => insertDown_sorted x _ (down_sorted l)
theorem down_length (l : List Nat) : (Kqb2.down l).length = l.length := (down_perm l).length_eq
/-- a list in order, of these -/
structure Srt (s : List Int) (l : List Nat) : Prop where
  perm : s.Perm (nints l)
  ord : s.Pairwise (· ≤ ·)
theorem Srt.length {s : List Int} {l : List Nat} (h : Srt s l) : s.length = l.length := by
  rw [h.perm.length_eq, List.length_map]
theorem Srt.down {s : List Int} {l : List Nat} (h : Srt s l) : nints (Kqb2.down l) = s.reverse := by
  refine List.Perm.eq_of_pairwise (le := fun a b : Int => b ≤ a) (fun a b _ _ h1 h2 => Int.le_antisymm h2 h1) ?_ ?_ ?_
  · exact List.pairwise_map.mpr ((down_sorted l).imp fun {a b} q => Int.ofNat_le.mpr q)
  · exact List.pairwise_reverse.mpr h.ord
  · exact ((down_perm l).map _).trans (h.perm.symm.trans (List.reverse_perm s).symm)
theorem down_at {s : List Int} {l : List Nat} (h : Srt s l) {j : Nat} (hj : j < (Kqb2.down l).length) (hk : s.length - 1 - j < s.length) : ((Kqb2.down l)[j] : Int) = s[s.length - 1 - j] := by
  have e := h.down
  have e2 : (nints (Kqb2.down l))[j]? = s.reverse[j]? := by rw [e]
  rw [List.getElem?_map, List.getElem?_eq_getElem hj] at e2
  have l1 := h.length
  have l2 := down_length l
  have hl : j < s.reverse.length := by rw [List.length_reverse]; omega
  rw [List.getElem?_eq_getElem hl, List.getElem_reverse] at e2
  exact Option.some.inj e2
theorem could_iff {p m : List Nat} {r : Nat} {sp sm : List Int} (hp : Srt sp p) (hm : Srt sm m) :
    Kqb2.could r p m = true ↔ (1 ≤ p.length ∧ m.length = p.length + 1) ∧ ∀ i (h1 : i < sp.length) (h2 : i < sm.length), i < p.length → sp[i] + 2 * (r : Int) ≤ sm[i] := by
  have lp := hp.length
  have lm := hm.length
  have dp := down_length p
  have dm := down_length m
  unfold Kqb2.could
  rw [Bool.and_eq_true, Bool.and_eq_true, beq_iff_eq, decide_eq_true_eq, List.all_eq_true]
  constructor
  · rintro ⟨⟨h1, h2⟩, h3⟩
    refine ⟨⟨h2, h1⟩, fun i q1 q2 hi => ?_⟩
    have hz : p.length - 1 - i < ((Kqb2.down p).zip ((Kqb2.down m).drop 1)).length := by
      rw [List.length_zip, List.length_drop]
      omega
    have h4 := h3 _ (List.getElem_mem hz)
    rw [decide_eq_true_eq, List.getElem_zip] at h4
    simp only [List.getElem_drop] at h4
    have e1 := down_at hp (j := p.length - 1 - i) (by omega) (by omega)
    have e2 := down_at hm (j := 1 + (p.length - 1 - i)) (by omega) (by omega)
    have i1 : sp.length - 1 - (p.length - 1 - i) = i := by omega
    have i2 : sm.length - 1 - (1 + (p.length - 1 - i)) = i := by omega
    simp only [i1] at e1
    simp only [i2] at e2
    omega
  · rintro ⟨⟨h2, h1⟩, h3⟩
    refine ⟨⟨h1, h2⟩, fun x hx => ?_⟩
    obtain ⟨j, hj, rfl⟩ := List.mem_iff_getElem.mp hx
    rw [List.length_zip, List.length_drop] at hj
    have h4 := h3 (p.length - 1 - j) (by omega) (by omega) (by omega)
    rw [decide_eq_true_eq, List.getElem_zip]
    simp only [List.getElem_drop]
    have e1 := down_at hp (j := j) (by omega) (by omega)
    have e2 := down_at hm (j := 1 + j) (by omega) (by omega)
    have i1 : sp.length - 1 - j = p.length - 1 - j := by omega
    have i2 : sm.length - 1 - (1 + j) = p.length - 1 - j := by omega
    simp only [i1] at e1
    simp only [i2] at e2
    omega
/-! ### need: counting -/
theorem cnt_sorted (t : Int) : ∀ (s : List Int), s.Pairwise (· ≤ ·) → ∀ (i : Nat) (h : i < s.length), t ≤ s[i] ↔ s.length - i ≤ s.countP fun y => decide (t ≤ y)
  | [], _, i, h => absurd h (Nat.not_lt_zero i)
  | x :: s, hs, i, h => by
    have h' := List.pairwise_cons.mp hs
    have hle : (s.countP fun y => decide (t ≤ y)) ≤ s.length := List.countP_le_length
    by_cases c : t ≤ x
    · have all : (s.countP fun y => decide (t ≤ y)) = s.length := by
        rw [List.countP_eq_length]
        intro y hy
        have := h'.1 y hy
        exact decide_eq_true (by omega)
      rw [List.countP_cons_of_pos (by exact decide_eq_true c), all, List.length_cons]
      constructor
      · intro _; omega
      · intro _
        cases i with
        | zero => exact c
        | succ i =>
          have hi : i < s.length := by rw [List.length_cons] at h; omega
          have := h'.1 _ (List.getElem_mem hi)
          rw [List.getElem_cons_succ]
          omega
    · rw [List.countP_cons_of_neg (by simpa using c), List.length_cons]
      cases i with
      | zero =>
        rw [List.getElem_cons_zero]
        constructor
        · intro q; exact absurd q c
        · intro q; omega
      | succ i =>
        rw [List.getElem_cons_succ]
        have ih := cnt_sorted t s h'.2 i (by rw [List.length_cons] at h; omega)
        rw [ih]
        omega
def cntN (t : Int) (l : List Nat) : Nat := l.countP fun y : Nat => decide (t ≤ (y : Int))
theorem cnt_ints {s : List Int} {l : List Nat} (h : Srt s l) (t : Int) : (s.countP fun y => decide (t ≤ y)) = cntN t l := by
  rw [h.perm.countP_eq, List.countP_map]
  rfl
theorem exists_srt (l : List Nat) : ∃ s, Srt s l := by
  refine ⟨(nints (Kqb2.down l)).reverse, ?_, ?_⟩
  · exact (List.reverse_perm _).trans ((down_perm l).map _)
  · exact List.pairwise_reverse.mpr (List.pairwise_map.mpr ((down_sorted l).imp fun {a b} q => Int.ofNat_le.mpr q))
theorem could_cnt {p m : List Nat} {r : Nat} {sp : List Int} (hp : Srt sp p) :
    Kqb2.could r p m = true ↔ (1 ≤ p.length ∧ m.length = p.length + 1) ∧ ∀ i (h1 : i < sp.length), p.length + 1 - i ≤ cntN (sp[i] + 2 * (r : Int)) m := by
  obtain ⟨sm, hm⟩ := exists_srt m
  have lp := hp.length
  have lm := hm.length
  rw [could_iff hp hm]
  constructor
  · rintro ⟨⟨h1, h2⟩, h3⟩
    refine ⟨⟨h1, h2⟩, fun i q => ?_⟩
    have := (cnt_sorted _ sm hm.ord i (by omega)).mp (h3 i q (by omega) (by omega))
    rw [cnt_ints hm] at this
    omega
  · rintro ⟨⟨h1, h2⟩, h3⟩
    refine ⟨⟨h1, h2⟩, fun i q q2 _ => ?_⟩
    refine (cnt_sorted _ sm hm.ord i q2).mpr ?_
    rw [cnt_ints hm]
    have := h3 i q
    omega
theorem cntN_cons (t : Int) (x : Nat) (m : List Nat) : cntN t (x :: m) = cntN t m + if t ≤ (x : Int) then 1 else 0 := by
  unfold cntN
  rw [List.countP_cons]
  by_cases c : t ≤ (x : Int)
  · rw [if_pos c, if_pos (decide_eq_true c)]
  · rw [if_neg c, if_neg (by simpa using c)]
theorem cntN_le (t : Int) (m : List Nat) : cntN t m ≤ m.length := List.countP_le_length
theorem could_perm {p m m' : List Nat} {r : Nat} (h : m.Perm m') : Kqb2.could r p m = Kqb2.could r p m' := by
  obtain ⟨sp, hp⟩ := exists_srt p
  rw [Bool.eq_iff_iff, could_cnt hp, could_cnt hp, h.length_eq]
  have e : ∀ t, cntN t m = cntN t m' := fun t => h.countP_eq _
  simp only [e]
theorem exists_top (x : Int) : ∀ l : List Int, (∃ a ∈ l, a ≤ x) → ∃ t ∈ l, t ≤ x ∧ ∀ u ∈ l, u ≤ x → u ≤ t
  | [], ⟨a, h, _⟩ => absurd h (by simp)
  | b :: l, ⟨a, ha, hx⟩ => by
    by_cases c : ∃ a ∈ l, a ≤ x
    · obtain ⟨t, ht, h1, h2⟩ := exists_top x l c
      by_cases d : b ≤ x ∧ t ≤ b
      · refine ⟨b, List.mem_cons_self, d.1, fun u hu q => ?_⟩
        rcases List.mem_cons.mp hu with rfl | hu
        · exact Int.le_refl _
        · exact Int.le_trans (h2 u hu q) d.2
      · refine ⟨t, List.mem_cons_of_mem _ ht, h1, fun u hu q => ?_⟩
        rcases List.mem_cons.mp hu with rfl | hu
        · by_cases e : t ≤ u
          · exact absurd ⟨q, e⟩ d
          · omega
        · exact h2 u hu q
    · have hb : a = b := by
        rcases List.mem_cons.mp ha with h | h
        · exact h
        · exact absurd ⟨a, h, hx⟩ c
      subst hb
      refine ⟨a, List.mem_cons_self, hx, fun u hu q => ?_⟩
      rcases List.mem_cons.mp hu with rfl | hu
      · exact Int.le_refl _
      · exact absurd ⟨u, hu, q⟩ c
theorem could_less {p m : List Nat} {r x : Nat} {sp : List Int} (hp : Srt sp p) (h : Kqb2.could r p (x :: m) = true) :
    ∃ t : Nat, (t : Int) ∈ sp ∧ t + 2 * r ≤ x ∧ Kqb2.could r p ((t + 2 * r) :: m) = true := by
  have lp := hp.length
  have h0 := (could_cnt hp).mp h
  obtain ⟨⟨h1, h2⟩, h3⟩ := h0
  rw [List.length_cons] at h2
  have z : 0 < sp.length := by omega
  have first : sp[0] ≤ (x : Int) - 2 * r := by
    have := h3 0 z
    rw [cntN_cons] at this
    have l := cntN_le (sp[0] + 2 * (r : Int)) m
    by_cases c : sp[0] + 2 * (r : Int) ≤ (x : Int)
    · omega
    · rw [if_neg c] at this
      omega
  obtain ⟨t, ht, htx, hmax⟩ := exists_top ((x : Int) - 2 * r) sp ⟨_, List.getElem_mem z, first⟩
  obtain ⟨n, hn, rfl⟩ : ∃ n : Nat, n ∈ p ∧ (n : Int) = t := by
    have := hp.perm.mem_iff.mp ht
    obtain ⟨n, hn, e⟩ := List.mem_map.mp this
    exact ⟨n, hn, e⟩
  refine ⟨n, ht, by omega, (could_cnt hp).mpr ⟨⟨h1, by rw [List.length_cons]; omega⟩, fun i hi => ?_⟩⟩
  have q := h3 i hi
  rw [cntN_cons] at q ⊢
  have mx := hmax _ (List.getElem_mem hi)
  by_cases c : sp[i] + 2 * (r : Int) ≤ (x : Int)
  · rw [if_pos c] at q
    rw [if_pos (by have := mx (by omega); omega)]
    omega
  · rw [if_neg c] at q
    omega
theorem could_mono {p m : List Nat} {r x y : Nat} (hxy : x ≤ y) (h : Kqb2.could r p (x :: m) = true) : Kqb2.could r p (y :: m) = true := by
  obtain ⟨sp, hp⟩ := exists_srt p
  obtain ⟨⟨h1, h2⟩, h3⟩ := (could_cnt hp).mp h
  refine (could_cnt hp).mpr ⟨⟨h1, h2⟩, fun i hi => ?_⟩
  have q := h3 i hi
  rw [cntN_cons] at q ⊢
  by_cases c : sp[i] + 2 * (r : Int) ≤ (x : Int)
  · rw [if_pos c] at q
    rw [if_pos (by omega)]
    omega
  · rw [if_neg c] at q
    omega
theorem le_foldl_max : ∀ (l : List Nat) (a : Nat), a ≤ l.foldl max a ∧ ∀ x ∈ l, x ≤ l.foldl max a
  | [], a => ⟨Nat.le_refl _, fun x h => absurd h (by simp)⟩
  | b :: l, a => by
    obtain ⟨h1, h2⟩ := le_foldl_max l (max a b)
    rw [List.foldl_cons]
    refine ⟨by omega, fun x hx => ?_⟩
    rcases List.mem_cons.mp hx with rfl | hx
    · omega
    · exact h2 x hx
/-- the first width in order that is enough is the least -/
theorem need_some {p m : List Nat} {r : Nat} {sp : List Int} (hp : Srt sp p) (hl : m.length = p.length) {i t : Nat} (hi : i < sp.length) (ht : sp[i] = (t : Int))
    (h : Kqb2.could r p ((t + 2 * r) :: m) = true) (hn : ∀ j (_ : j < i) (h2 : j < sp.length) (u : Nat), sp[j] = (u : Int) → ¬ Kqb2.could r p ((u + 2 * r) :: m) = true) : Kqb2.need r p m = some (t + 2 * r) := by
  have lp := hp.length
  unfold Kqb2.need
  rw [if_pos ⟨hl, by omega⟩, List.find?_range_eq_some]
  have tp : t ∈ p := by
    have : (t : Int) ∈ sp := ht ▸ List.getElem_mem hi
    obtain ⟨n, hn, e⟩ := List.mem_map.mp (hp.perm.mem_iff.mp this)
    have : n = t := by omega
    exact this ▸ hn
  have := (le_foldl_max p 0).2 t tp
  refine ⟨h, List.mem_range.mpr (by omega), fun y hy => ?_⟩
  cases c : Kqb2.could r p (y :: m) with
  | false => rfl
  | true =>
    exfalso
    obtain ⟨u, hu, h1, h2⟩ := could_less hp c
    obtain ⟨j, hj, e⟩ := List.mem_iff_getElem.mp hu
    by_cases q : j < i
    · exact hn j q hj u e h2
    · have ord := List.pairwise_iff_getElem.mp hp.ord
      by_cases q2 : i = j
      · subst q2
        omega
      · have := ord i j hi hj (by omega)
        omega
theorem need_none {p m : List Nat} {r : Nat} {sp : List Int} (hp : Srt sp p) (hn : ∀ j (h2 : j < sp.length) (u : Nat), sp[j] = (u : Int) → ¬ Kqb2.could r p ((u + 2 * r) :: m) = true) : Kqb2.need r p m = none := by
  unfold Kqb2.need
  by_cases c : m.length = p.length ∧ 1 ≤ p.length
  · rw [if_pos c, List.find?_eq_none]
    intro x _ h
    obtain ⟨u, hu, h1, h2⟩ := could_less hp h
    obtain ⟨j, hj, e⟩ := List.mem_iff_getElem.mp hu
    exact hn j hj u e h2
  · rw [if_neg c]
theorem could_lens {p m : List Nat} {r : Nat} (h : Kqb2.could r p m = true) : 1 ≤ p.length ∧ m.length = p.length + 1 := by
  obtain ⟨sp, hp⟩ := exists_srt p
  exact ((could_cnt hp).mp h).1
end
section
/-! ### the flat line, call by call -/
theorem rows_zero {r : List Int} {rs : List (List Int)} {t : List Int} (h : PyFlat.rows 0 r = some (rs, t)) : rs = [] ∧ t = r := by
  unfold PyFlat.rows at h
  cases h
  exact ⟨rfl, rfl⟩
theorem rows_succ {k : Nat} {r : List Int} {rs : List (List Int)} {t : List Int} (h : PyFlat.rows (k + 1) r = some (rs, t)) :
    ∃ (n : Nat) (r' : List Int) (rs' : List (List Int)), r = (n : Int) :: r' ∧ n ≤ r'.length ∧ rs = r'.take n :: rs' ∧ PyFlat.rows k (r'.drop n) = some (rs', t) := by
  unfold PyFlat.rows PyFlat.row at h
  cases r with
  | nil => cases h
  | cons z r' =>
    by_cases c : 0 ≤ z ∧ z.toNat ≤ r'.length
    · simp only [if_pos c] at h
      cases e : PyFlat.rows k (r'.drop z.toNat) with
      | none =>
        rw [e] at h
        cases h
      | some q =>
        obtain ⟨xs, u⟩ := q
        rw [e] at h
        cases h
        refine ⟨z.toNat, r', xs, ?_, c.2, rfl, e⟩
        rw [show ((z.toNat : Nat) : Int) = z by omega]
    · simp only [if_neg c] at h
      cases h
theorem rows_length {k : Nat} : ∀ {r : List Int} {rs : List (List Int)} {t : List Int}, PyFlat.rows k r = some (rs, t) → rs.length = k ∧ t.length ≤ r.length := by
  induction k with
  | zero =>
    intro r rs t h
    obtain ⟨rfl, rfl⟩ := rows_zero h
    exact ⟨rfl, Nat.le_refl _⟩
  | succ k ih =>
    intro r rs t h
    obtain ⟨n, r', rs', rfl, hn, rfl, h'⟩ := rows_succ h
    obtain ⟨h1, h2⟩ := ih h'
    rw [List.length_drop] at h2
    refine ⟨by rw [List.length_cons, h1], ?_⟩
    rw [List.length_cons]
    omega
/-- what a suffix of ns is, its length tells -/
theorem drop_eq {α : Type} {ns t : List α} {p : Nat} (h : t <:+ ns) (hp : p = ns.length - t.length) : ns.drop p = t := by
  obtain ⟨u, rfl⟩ := h
  subst hp
  rw [List.length_append, Nat.add_sub_cancel]
  exact List.drop_left
theorem rows_suffix {k : Nat} : ∀ {r : List Int} {rs : List (List Int)} {t : List Int}, PyFlat.rows k r = some (rs, t) → t <:+ r := by
  induction k with
  | zero =>
    intro r rs t h
    obtain ⟨rfl, rfl⟩ := rows_zero h
    exact List.suffix_refl _
  | succ k ih =>
    intro r rs t h
    obtain ⟨n, r', rs', rfl, hn, rfl, h'⟩ := rows_succ h
    exact (ih h').trans ((List.drop_suffix n r').trans (List.suffix_cons _ _))
theorem calls_nil {shape : Int → Option (Nat × Nat)} {f : Nat} {cs : List (List (List Int))} (h : PyFlat.calls shape f [] = some cs) : cs = [] := by
  unfold PyFlat.calls at h
  cases h
  rfl
theorem calls_cons {shape : Int → Option (Nat × Nat)} {f : Nat} {z : Int} {r : List Int} {cs : List (List (List Int))} (h : PyFlat.calls shape f (z :: r) = some cs) :
    ∃ (f' s l : Nat) (rs : List (List Int)) (t : List Int) (cs' : List (List (List Int))), shape z = some (s, l) ∧ s ≤ r.length ∧ PyFlat.rows l (r.drop s) = some (rs, t) ∧ PyFlat.calls shape f' t = some cs' ∧ cs = ((z :: r.take s) :: rs) :: cs' := by
  cases f with
  | zero =>
    unfold PyFlat.calls at h
    cases h
  | succ f =>
    unfold PyFlat.calls at h
    cases e : PyFlat.call shape (z :: r) with
    | none =>
      rw [e] at h
      cases h
    | some q =>
      obtain ⟨c, t⟩ := q
      rw [e] at h
      cases e2 : PyFlat.calls shape f t with
      | none =>
        simp only [e2] at h
        cases h
      | some cs' =>
        simp only [e2] at h
        cases h
        unfold PyFlat.call at e
        cases e3 : shape z with
        | none =>
          simp only [e3] at e
          cases e
        | some nk =>
          obtain ⟨s, l⟩ := nk
          simp only [e3] at e
          by_cases c1 : r.length < s
          · rw [if_pos c1] at e
            cases e
          · rw [if_neg c1] at e
            cases e4 : PyFlat.rows l (r.drop s) with
            | none =>
              simp only [e4] at e
              cases e
            | some q =>
              obtain ⟨rs, u⟩ := q
              simp only [e4] at e
              cases e
              exact ⟨f, s, l, rs, t, cs', rfl, by omega, e4, e2, rfl⟩
end
section
open Kqb2
/-! ### what each call does, said once -/
theorem step_start (s : Option Bench) (r : Nat) : step s (.start r) = if 100 < r then (s, .num (-22)) else (some ⟨r, [], []⟩, .num 0) := by
  cases s <;> rfl
theorem step_lay (m : Bool) (n : Nat) (b : Bench) : step (some b) (if m then .minus n else .plus n) = if okWide n = false then (some b, .num (-22)) else if 14 ≤ b.sheets.length then (some b, .num (-28)) else (some { b with sheets := b.sheets ++ [⟨m, n, 0⟩] }, .num b.sheets.length) := by
  cases m <;> rfl
theorem step_trim (b : Bench) (i n : Nat) : step (some b) (.trim i n) = match b.sheets[i]? with
    | none => (some b, .num (-2))
    | some x => if x.stack ≠ 0 then (some b, .num (-16)) else if n = 0 ∨ x.wide ≤ n then (some b, .num (-22)) else (some { b with sheets := b.sheets.set i { x with wide := n } }, .num x.wide) := rfl
theorem step_fit (b : Bench) (i j : Nat) : step (some b) (.fit i j) = (some b, if b.sheets.length ≤ i ∨ b.sheets.length ≤ j then .num (-2) else .num (if fit b i j then 1 else 0)) := rfl
theorem step_over (b : Bench) (i : Nat) : step (some b) (.over i) = (some b, if b.sheets.length ≤ i then .num (-2) else if isMinus b i = false then .num (-13) else row ((List.range b.sheets.length).filter (over b i))) := rfl
theorem step_under (b : Bench) (j : Nat) : step (some b) (.under j) = (some b, if b.sheets.length ≤ j then .num (-2) else if isMinus b j then .num (-13) else row ((List.range b.sheets.length).filter fun i => over b i j)) := rfl
theorem step_order (b : Bench) (l : List Nat) : step (some b) (.order l) = (some b, if okList b l = false then .num (-22) else match order b l with
    | none => .num (-33)
    | some r => row r) := rfl
theorem step_could (b : Bench) (p m : List Nat) : step (some b) (.could p m) = (some b, if p.all okWide = false ∨ m.all okWide = false ∨ 7 < p.length ∨ 8 < m.length then .num (-22) else .num (if could b.reach p m then 1 else 0)) := rfl
theorem step_need (b : Bench) (p m : List Nat) : step (some b) (.need p m) = (some b, if p.all okWide = false ∨ m.all okWide = false ∨ 7 < p.length ∨ 8 < m.length then .num (-22) else match need b.reach p m with
    | none => .num (-33)
    | some n => .num n) := rfl
theorem step_press (b : Bench) (l : List Nat) : step (some b) (.press l) = if okList b l = false then (some b, .num (-22)) else if l.all (loose b) = false then (some b, .num (-17)) else if stack b l = false then (some b, .num (-16)) else (some { b with sheets := mark b l (slot b.stacks + 1), stacks := putIn b.stacks l }, .num (slot b.stacks)) := rfl
theorem step_take (b : Bench) (i : Nat) : step (some b) (.take i) = match b.stacks.getD i none with
    | none => (some b, .num (-2))
    | some l => (some { b with sheets := mark b l 0, stacks := b.stacks.set i none }, .num l.length) := rfl
theorem step_swap (b : Bench) (i j : Nat) : step (some b) (.swap i j) = match b.sheets[i]?, b.sheets[j]? with
    | some x, some z => if x.stack = 0 ∧ z.stack = 0 then (some b, .num (-6)) else
      let ks := b.stacks.map fun k => k.map (exchanged i j)
      if ks.all (fun k => match k with
        | some l => stack b l
        | none => true) = false ∨ i = j then (some b, .num (-16)) else (some { b with sheets := (b.sheets.set i { x with stack := z.stack }).set j { z with stack := x.stack }, stacks := ks }, .num 0)
    | _, _ => (some b, .num (-2)) := rfl
theorem step_most (b : Bench) (k : Nat) : step (some b) (.most k) = (some b, if k = 0 ∨ 3 < k then .num (-22) else .num (most b k)) := rfl
theorem step_loose (b : Bench) : step (some b) .loose = (some b, .some_ (free b fun _ => true).length [(free b (isPlus b)).length, (free b (isMinus b)).length]) := rfl
theorem step_stack (b : Bench) (i : Nat) : step (some b) (.stack i) = (some b, match b.stacks.getD i none with
    | none => .num (-2)
    | some l => row l) := rfl
theorem step_height (b : Bench) (i : Nat) : step (some b) (.height i) = (some b, match b.stacks.getD i none with
    | none => .num (-2)
    | some l => .some_ (l.length / 2) [(l.filter (isMinus b)).foldl (fun m i => max m (wide b i)) 0, l.foldl (fun m i => min m (wide b i)) 1000]) := rfl
theorem step_sheet (b : Bench) (i : Nat) : step (some b) (.sheet i) = (some b, match b.sheets[i]? with
    | none => .num (-2)
    | some x => .some_ x.wide [if x.minus then 1 else 0, x.stack]) := rfl
theorem step_check (b : Bench) (l : List Nat) : step (some b) (.check l) = (some b, if okList b l = false then .num (-22) else .num (if stack b l then 1 else 0)) := rfl
theorem step_state (b : Bench) : step (some b) .state = (some b, .some_ b.sheets.length [(b.stacks.filterMap id).length, b.reach]) := rfl
/-! ### what is kept of a bench -/
/-- minus or plus, how wide -/
def face (b : Bench) (i : Nat) : Option (Bool × Nat) := (b.sheets[i]?).map fun y => (y.minus, y.wide)
theorem isMinus_face (b : Bench) (i : Nat) : isMinus b i = ((face b i).map (·.1)).getD false := by
  unfold isMinus face
  rw [Option.map_map]
  rfl
theorem isPlus_face (b : Bench) (i : Nat) : isPlus b i = ((face b i).map fun p => !p.1).getD false := by
  unfold isPlus face
  rw [Option.map_map]
  rfl
theorem wide_face (b : Bench) (i : Nat) : wide b i = ((face b i).map (·.2)).getD 0 := by
  unfold wide face
  rw [Option.map_map]
  rfl
theorem fit_congr {b b' : Bench} (hr : b'.reach = b.reach) {i j : Nat} (hi : face b' i = face b i) (hj : face b' j = face b j) : fit b' i j = fit b i j := by
  unfold fit over
  rw [isMinus_face, isMinus_face, isPlus_face, isPlus_face, wide_face, wide_face, hi, hj, hr, ← isMinus_face, ← isMinus_face, ← isPlus_face, ← isPlus_face, ← wide_face, ← wide_face]
theorem all_eq {α : Type} {f g : α → Bool} : ∀ l : List α, (∀ x ∈ l, f x = g x) → l.all f = l.all g
  | [], _ => rfl
  | x :: l, h => by rw [List.all_cons, List.all_cons, h x List.mem_cons_self, all_eq l fun y hy => h y (List.mem_cons_of_mem _ hy)]
theorem stack_congr {b b' : Bench} (hr : b'.reach = b.reach) {l : List Nat} (h : ∀ i ∈ l, face b' i = face b i) : stack b' l = stack b l := by
  unfold stack
  cases l with
  | nil => rfl
  | cons i l =>
    have e1 : isMinus b' ((i :: l).headD 0) = isMinus b ((i :: l).headD 0) := by
      show isMinus b' i = isMinus b i
      rw [isMinus_face, isMinus_face, h i List.mem_cons_self]
    rw [e1]
    congr 1
    refine all_eq _ fun p hp => ?_
    obtain ⟨h1, h2⟩ := List.of_mem_zip hp
    exact fit_congr hr (h _ h1) (h _ (List.mem_of_mem_drop h2))
structure WF (b : Bench) : Prop where
  few : b.sheets.length ≤ 14
  wide : ∀ y ∈ b.sheets, 1 ≤ y.wide ∧ y.wide ≤ 1000
  isst : ∀ (n : Nat) (l : List Nat), b.stacks[n]? = some (some l) → stack b l = true
  ok : ∀ (n : Nat) (l : List Nat), b.stacks[n]? = some (some l) → l.Nodup ∧ ∀ i ∈ l, i < b.sheets.length
  mark : ∀ (i : Nat) (y : Sheet), b.sheets[i]? = some y → ∀ n, (y.stack = n + 1 ↔ ∃ l, b.stacks[n]? = some (some l) ∧ i ∈ l)
  room : b.stacks.length ≤ 14
def WFo (s : Option Bench) : Prop := ∀ b, s = some b → WF b
theorem stack_long {b : Bench} {l : List Nat} (h : stack b l = true) : 3 ≤ l.length := by
  unfold stack at h
  simp only [Bool.and_eq_true, decide_eq_true_eq] at h
  exact h.1.1.2
theorem stack_ne {b : Bench} {l : List Nat} (h : stack b l = true) : l ≠ [] := fun e => by
  have := stack_long h
  rw [e] at this
  exact absurd this (by decide)
/-! #### marks -/
theorem filterMap_get {α β : Type} (f : α → Option β) : ∀ (l : List α) (i : Nat), (∀ a ∈ l, (f a).isSome = true) → (l.filterMap f)[i]? = (l[i]?).bind f
  | [], i, _ => rfl
  | a :: l, i, h => by
    obtain ⟨y, e⟩ := Option.isSome_iff_exists.mp (h a List.mem_cons_self)
    rw [List.filterMap_cons, e]
    cases i with
    | zero => exact e.symm
    | succ i => exact filterMap_get f l i fun x hx => h x (List.mem_cons_of_mem _ hx)
theorem mark_get (b : Bench) (l : List Nat) (s i : Nat) : (mark b l s)[i]? = (b.sheets[i]?).map fun x => if l.contains i = true then { x with stack := s } else x := by
  unfold mark
  rw [filterMap_get _ _ _ (fun i hi => by rw [List.getElem?_eq_getElem (List.mem_range.mp hi)]; rfl)]
  by_cases c : i < b.sheets.length
  · rw [List.getElem?_range c]
    rfl
  · rw [List.getElem?_eq_none (by rw [List.length_range]; omega), List.getElem?_eq_none (by omega)]
    rfl
theorem mark_length (b : Bench) (l : List Nat) (s : Nat) : (mark b l s).length = b.sheets.length := by
  have h : ∀ i, (mark b l s)[i]? = none ↔ b.sheets[i]? = none := fun i => by
    rw [mark_get]
    cases b.sheets[i]? <;> simp
  have h1 := (h b.sheets.length).mpr (List.getElem?_eq_none (Nat.le_refl _))
  have h2 := (h (mark b l s).length).mp (List.getElem?_eq_none (Nat.le_refl _))
  rw [List.getElem?_eq_none_iff] at h1 h2
  omega
theorem mark_at {b : Bench} {l : List Nat} {s i : Nat} {y : Sheet} (h : (mark b l s)[i]? = some y) : ∃ x, b.sheets[i]? = some x ∧ y.minus = x.minus ∧ y.wide = x.wide ∧ ((i ∈ l ∧ y.stack = s) ∨ (i ∉ l ∧ y.stack = x.stack)) := by
  rw [mark_get] at h
  cases e : b.sheets[i]? with
  | none =>
    rw [e] at h
    cases h
  | some x =>
    rw [e] at h
    have h := Option.some.inj h
    dsimp only at h
    by_cases c : i ∈ l
    · rw [if_pos (List.contains_iff_mem.mpr c)] at h
      subst h
      exact ⟨x, rfl, rfl, rfl, .inl ⟨c, rfl⟩⟩
    · rw [if_neg (fun q => c (List.contains_iff_mem.mp q))] at h
      subst h
      exact ⟨x, rfl, rfl, rfl, .inr ⟨c, rfl⟩⟩
theorem mark_face (b : Bench) (l : List Nat) (s : Nat) (ss : List (Option (List Nat))) (i : Nat) : face { b with sheets := mark b l s, stacks := ss } i = face b i := by
  unfold face
  show ((mark b l s)[i]?).map _ = _
  rw [mark_get, Option.map_map]
  cases b.sheets[i]? with
  | none => rfl
  | some x =>
    show some _ = some _
    by_cases c : l.contains i = true
    · simp only [Function.comp, if_pos c]
    · simp only [Function.comp, if_neg c]
/-! #### the least number that is free -/
theorem slot_spec (ss : List (Option (List Nat))) : slot ss ≤ ss.length ∧ (∀ l, ss[slot ss]? ≠ some (some l)) ∧ ∀ m < slot ss, ∃ l, ss[m]? = some (some l) := by
  unfold slot
  cases e : ss.findIdx? Option.isNone with
  | none =>
    rw [List.findIdx?_eq_none_iff] at e
    refine ⟨Nat.le_refl _, fun l h => ?_, fun m hm => ?_⟩
    · have := (List.getElem?_eq_some_iff.mp h).1
      exact absurd this (Nat.lt_irrefl _)
    · have hm : m < ss.length := hm
      have := e _ (List.getElem_mem hm)
      rw [List.getElem?_eq_getElem hm]
      cases q : ss[m] with
      | none =>
        rw [q] at this
        cases this
      | some l => exact ⟨l, rfl⟩
  | some n =>
    obtain ⟨h1, h2, h3⟩ := List.findIdx?_eq_some_iff_getElem.mp e
    refine ⟨Nat.le_of_lt h1, fun l h => ?_, fun m hm => ?_⟩
    · have h : ss[n]? = some (some l) := h
      rw [List.getElem?_eq_getElem h1] at h
      rw [Option.some.inj h] at h2
      cases h2
    · have hm : m < n := hm
      have := h3 m hm
      rw [List.getElem?_eq_getElem (by omega)]
      cases q : ss[m] with
      | none =>
        rw [q] at this
        exact absurd rfl this
      | some l => exact ⟨l, rfl⟩
theorem putIn_get (ss : List (Option (List Nat))) (l : List Nat) (n : Nat) : (putIn ss l)[n]? = if n = slot ss then some (some l) else ss[n]? := by
  have hs := (slot_spec ss).1
  unfold putIn
  by_cases c : slot ss < ss.length
  · rw [if_pos c]
    by_cases e : n = slot ss
    · rw [if_pos e, e, List.getElem?_set_self c]
    · rw [if_neg e, List.getElem?_set_ne (fun q => e q.symm)]
  · have e0 : slot ss = ss.length := by omega
    rw [if_neg c, e0]
    by_cases e : n = ss.length
    · rw [if_pos e, e, List.getElem?_append_right (Nat.le_refl _), Nat.sub_self]
      rfl
    · rw [if_neg e]
      by_cases q : n < ss.length
      · rw [List.getElem?_append_left q]
      · rw [List.getElem?_eq_none (by rw [List.length_append]; show ss.length + 1 ≤ n; omega), List.getElem?_eq_none (by omega)]
theorem nodup_sub : ∀ (l m : List Nat), l.Nodup → (∀ x ∈ l, x ∈ m) → l.length ≤ m.length
  | [], m, _, _ => Nat.zero_le _
  | x :: l, m, h, hs => by
    have h' := List.nodup_cons.mp h
    have hx := hs x List.mem_cons_self
    have ih := nodup_sub l (m.erase x) h'.2 fun y hy => by
      have : y ≠ x := fun e => h'.1 (e ▸ hy)
      exact (List.mem_erase_of_ne this).mpr (hs y (List.mem_cons_of_mem _ hy))
    rw [List.length_erase_of_mem hx] at ih
    have := List.length_pos_of_mem hx
    rw [List.length_cons]
    omega
/-- where each number has a stack, one sheet more than they are is needed for one stack more -/
theorem room_more {b : Bench} (w : WF b) (hs : slot b.stacks = b.stacks.length) {i : Nat} {y : Sheet} (hi : b.sheets[i]? = some y) (hl : y.stack = 0) : b.stacks.length + 1 ≤ b.sheets.length := by
  have hd : ∀ n, n < b.stacks.length → ∃ l, b.stacks[n]? = some (some l) := fun n hn => (slot_spec b.stacks).2.2 n (by omega)
  let f : Nat → Nat := fun n => (((b.stacks[n]?).getD none).getD []).headD 0
  have hf : ∀ n, n < b.stacks.length → ∃ l, b.stacks[n]? = some (some l) ∧ f n ∈ l := fun n hn => by
    obtain ⟨l, e⟩ := hd n hn
    refine ⟨l, e, ?_⟩
    show (((b.stacks[n]?).getD none).getD []).headD 0 ∈ l
    rw [e]
    show l.headD 0 ∈ l
    cases l with
    | nil => exact absurd rfl (stack_ne (w.isst n [] e))
    | cons x l => exact List.mem_cons_self
  have mk : ∀ n, n < b.stacks.length → ∃ x, b.sheets[f n]? = some x ∧ x.stack = n + 1 := fun n hn => by
    obtain ⟨l, e, h⟩ := hf n hn
    have hb := (w.ok n l e).2 _ h
    exact ⟨_, List.getElem?_eq_getElem hb, (w.mark _ _ (List.getElem?_eq_getElem hb) n).mpr ⟨l, e, h⟩⟩
  have := nodup_sub (i :: (List.range b.stacks.length).map f) (List.range b.sheets.length) ?_ ?_
  · simp only [List.length_cons, List.length_map, List.length_range] at this
    exact this
  · refine List.nodup_cons.mpr ⟨fun h => ?_, ?_⟩
    · obtain ⟨n, hn, e⟩ := List.mem_map.mp h
      obtain ⟨x, hx, q⟩ := mk n (List.mem_range.mp hn)
      rw [e, hi] at hx
      have := Option.some.inj hx
      subst this
      omega
    · refine List.pairwise_map.mpr (List.nodup_range.imp_of_mem fun {a c} ha hc hac e => hac ?_)
      obtain ⟨x, hx, q⟩ := mk a (List.mem_range.mp ha)
      obtain ⟨z, hz, q2⟩ := mk c (List.mem_range.mp hc)
      rw [e, hz] at hx
      have := Option.some.inj hx
      subst this
      omega
  · intro x hx
    rcases List.mem_cons.mp hx with rfl | hx
    · exact List.mem_range.mpr (List.getElem?_eq_some_iff.mp hi).1
    · obtain ⟨n, hn, rfl⟩ := List.mem_map.mp hx
      obtain ⟨z, hz, _⟩ := mk n (List.mem_range.mp hn)
      exact List.mem_range.mpr (List.getElem?_eq_some_iff.mp hz).1
end
section
open Kqb2
theorem list_at_set {α : Type} {l : List α} {i k : Nat} {a y : α} (h : (l.set i a)[k]? = some y) : (k = i ∧ y = a) ∨ (k ≠ i ∧ l[k]? = some y) := by
  by_cases e : k = i
  · subst e
    have hk := (List.getElem?_eq_some_iff.mp h).1
    rw [List.length_set] at hk
    rw [List.getElem?_set_self hk] at h
    exact .inl ⟨rfl, (Option.some.inj h).symm⟩
  · rw [List.getElem?_set_ne (fun q => e q.symm)] at h
    exact .inr ⟨e, h⟩
theorem WF.empty (r : Nat) : WF ⟨r, [], []⟩ := ⟨Nat.zero_le _, fun y h => (by cases h), fun n l h => (by simp at h), fun n l h => (by simp at h), fun i y h => (by simp at h), Nat.zero_le _⟩
theorem face_lay {b : Bench} {y : Sheet} {i : Nat} (h : i < b.sheets.length) : face { b with sheets := b.sheets ++ [y] } i = face b i := by
  unfold face
  show ((b.sheets ++ [y])[i]?).map _ = _
  rw [List.getElem?_append_left h]
theorem WF.lay {b : Bench} (w : WF b) {m : Bool} {n : Nat} (hn : okWide n = true) (h : b.sheets.length < 14) : WF { b with sheets := b.sheets ++ [⟨m, n, 0⟩] } where
  few := by
    show (b.sheets ++ [_]).length ≤ 14
    rw [List.length_append]
    exact h
  wide := fun y hy => by
    rcases List.mem_append.mp hy with hy | hy
    · exact w.wide y hy
    · have : y = ⟨m, n, 0⟩ := by simpa using hy
      subst this
      unfold okWide at hn
      rw [Bool.and_eq_true, decide_eq_true_eq, decide_eq_true_eq] at hn
      exact hn
  isst := fun k l e => by
    exact (stack_congr (b := b) (b' := ⟨b.reach, b.sheets ++ [⟨m, n, 0⟩], b.stacks⟩) (l := l) rfl fun i hi => face_lay ((w.ok k l e).2 i hi)).trans (w.isst k l e)
  ok := fun k l e => ⟨(w.ok k l e).1, fun i hi => by
    show i < (b.sheets ++ [_]).length
    rw [List.length_append]
    have := (w.ok k l e).2 i hi
    omega⟩
  mark := fun i y hy k => by
    have hy : (b.sheets ++ [(⟨m, n, 0⟩ : Sheet)])[i]? = some y := hy
    by_cases c : i < b.sheets.length
    · rw [List.getElem?_append_left c] at hy
      exact w.mark i y hy k
    · have hi := (List.getElem?_eq_some_iff.mp hy).1
      rw [List.length_append] at hi
      have : i = b.sheets.length := by simp at hi; omega
      subst this
      rw [List.getElem?_append_right (Nat.le_refl _), Nat.sub_self] at hy
      have := Option.some.inj hy
      subst this
      refine ⟨fun q => (by cases q), fun ⟨l, h1, h2⟩ => ?_⟩
      have := (w.ok k l h1).2 _ h2
      omega
  room := w.room
theorem WF.trim {b : Bench} (w : WF b) {i n : Nat} {x : Sheet} (hx : b.sheets[i]? = some x) (hs : x.stack = 0) (h1 : 1 ≤ n) (h2 : n ≤ x.wide) : WF { b with sheets := b.sheets.set i { x with wide := n } } := by
  have hw := w.wide x (List.mem_of_getElem? hx)
  have out : ∀ (k : Nat) (l : List Nat), b.stacks[k]? = some (some l) → i ∉ l := fun k l e hi => by
    have := (w.mark i x hx k).mpr ⟨l, e, hi⟩
    omega
  refine ⟨by show (b.sheets.set i _).length ≤ 14; rw [List.length_set]; exact w.few, fun y hy => ?_, fun k l e => ?_, fun k l e => ?_, fun k y hy m => ?_, w.room⟩
  · obtain ⟨k, hk⟩ := List.getElem?_of_mem hy
    rcases list_at_set hk with ⟨_, rfl⟩ | ⟨_, h⟩
    · exact ⟨h1, by show n ≤ 1000; omega⟩
    · exact w.wide y (List.mem_of_getElem? h)
  · refine (stack_congr (b := b) (b' := ⟨b.reach, b.sheets.set i { x with wide := n }, b.stacks⟩) (l := l) rfl fun k' hk => ?_).trans (w.isst k l e)
    · unfold face
      show ((b.sheets.set i _)[k']?).map _ = _
      rw [List.getElem?_set_ne (fun q => out k l e (by rw [q]; exact hk))]
  · refine ⟨(w.ok k l e).1, fun j hj => ?_⟩
    show j < (b.sheets.set i _).length
    rw [List.length_set]
    exact (w.ok k l e).2 j hj
  · rcases list_at_set hy with ⟨rfl, rfl⟩ | ⟨_, h⟩
    · exact w.mark k x hx m
    · exact w.mark k y h m
theorem loose_at {b : Bench} {i : Nat} {y : Sheet} (h : b.sheets[i]? = some y) : loose b i = decide (y.stack = 0) := by
  unfold loose
  rw [h]
  rfl
theorem WF.press {b : Bench} (w : WF b) {l : List Nat} (h1 : okList b l = true) (h2 : l.all (loose b) = true) (h3 : stack b l = true) (nd : l.Nodup) (bl : ∀ i ∈ l, i < b.sheets.length) :
    WF { b with sheets := Kqb2.mark b l (slot b.stacks + 1), stacks := putIn b.stacks l } := by
  have hs := slot_spec b.stacks
  have lo : ∀ i ∈ l, ∀ y, b.sheets[i]? = some y → y.stack = 0 := fun i hi y hy => by
    have := List.all_eq_true.mp h2 i hi
    rw [loose_at hy] at this
    exact of_decide_eq_true this
  have get : ∀ (k : Nat) (l' : List Nat), (putIn b.stacks l)[k]? = some (some l') → (k = slot b.stacks ∧ l' = l) ∨ (k ≠ slot b.stacks ∧ b.stacks[k]? = some (some l')) := fun k l' e => by
    rw [putIn_get] at e
    by_cases c : k = slot b.stacks
    · rw [if_pos c] at e
      exact .inl ⟨c, (Option.some.inj (Option.some.inj e)).symm⟩
    · rw [if_neg c] at e
      exact .inr ⟨c, e⟩
  refine ⟨by show (Kqb2.mark b l _).length ≤ 14; rw [mark_length]; exact w.few, fun y hy => ?_, fun k l' e => ?_, fun k l' e => ?_, fun i y hy n => ?_, ?_⟩
  · obtain ⟨k, hk⟩ := List.getElem?_of_mem hy
    obtain ⟨x, hx, _, e2, _⟩ := mark_at hk
    rw [e2]
    exact w.wide x (List.mem_of_getElem? hx)
  · refine (stack_congr (b := b) (b' := ⟨b.reach, Kqb2.mark b l (slot b.stacks + 1), putIn b.stacks l⟩) (l := l') rfl fun i _ => mark_face b l _ _ i).trans ?_
    rcases get k l' e with ⟨_, rfl⟩ | ⟨_, e⟩
    · exact h3
    · exact w.isst k l' e
  · have : (Kqb2.mark b l (slot b.stacks + 1)).length = b.sheets.length := mark_length _ _ _
    show _ ∧ ∀ i ∈ l', i < (Kqb2.mark b l (slot b.stacks + 1)).length
    rw [this]
    rcases get k l' e with ⟨_, rfl⟩ | ⟨_, e⟩
    · exact ⟨nd, bl⟩
    · exact w.ok k l' e
  · obtain ⟨x, hx, _, _, hm⟩ := mark_at hy
    show y.stack = n + 1 ↔ ∃ l', (putIn b.stacks l)[n]? = some (some l') ∧ i ∈ l'
    rcases hm with ⟨hi, e⟩ | ⟨hi, e⟩
    · constructor
      · intro q
        have : n = slot b.stacks := by omega
        exact ⟨l, by rw [putIn_get, if_pos this], hi⟩
      · rintro ⟨l', e', hi'⟩
        rcases get n l' e' with ⟨rfl, _⟩ | ⟨_, e'⟩
        · exact e
        · have := (w.mark i x hx n).mpr ⟨l', e', hi'⟩
          rw [lo i hi x hx] at this
          omega
    · rw [e, w.mark i x hx n]
      constructor
      · rintro ⟨l', e', hi'⟩
        have : n ≠ slot b.stacks := fun q => hs.2.1 l' (q ▸ e')
        exact ⟨l', by rw [putIn_get, if_neg this]; exact e', hi'⟩
      · rintro ⟨l', e', hi'⟩
        rcases get n l' e' with ⟨_, rfl⟩ | ⟨_, e'⟩
        · exact absurd hi' hi
        · exact ⟨l', e', hi'⟩
  · show (putIn b.stacks l).length ≤ 14
    unfold putIn
    by_cases c : slot b.stacks < b.stacks.length
    · rw [if_pos c, List.length_set]
      exact w.room
    · rw [if_neg c, List.length_append]
      have hl := stack_long h3
      have h0 : l[0]? = some l[0] := List.getElem?_eq_getElem (by omega)
      have hm := List.mem_of_getElem? h0
      have hb := bl _ hm
      have hy : b.sheets[l[0]]? = some b.sheets[l[0]] := List.getElem?_eq_getElem hb
      have := room_more w (by omega) hy (lo _ hm _ hy)
      have := w.few
      show b.stacks.length + 1 ≤ 14
      omega
theorem getD_some {ss : List (Option (List Nat))} {i : Nat} {l : List Nat} : ss.getD i none = some l ↔ ss[i]? = some (some l) := by
  rw [List.getD_eq_getElem?_getD]
  cases ss[i]? with
  | none => simp
  | some o => simp
theorem WF.take {b : Bench} (w : WF b) {k : Nat} {l : List Nat} (h : b.stacks[k]? = some (some l)) : WF { b with sheets := Kqb2.mark b l 0, stacks := b.stacks.set k none } := by
  have get : ∀ (n : Nat) (l' : List Nat), (b.stacks.set k none)[n]? = some (some l') ↔ n ≠ k ∧ b.stacks[n]? = some (some l') := fun n l' => by
    constructor
    · intro e
      rcases list_at_set e with ⟨_, q⟩ | q
      · cases q
      · exact q
    · rintro ⟨c, e⟩
      rw [List.getElem?_set_ne (fun q => c q.symm)]
      exact e
  refine ⟨by show (Kqb2.mark b l _).length ≤ 14; rw [mark_length]; exact w.few, fun y hy => ?_, fun n l' e => ?_, fun n l' e => ?_, fun i y hy n => ?_, by show (b.stacks.set k none).length ≤ 14; rw [List.length_set]; exact w.room⟩
  · obtain ⟨k, hk⟩ := List.getElem?_of_mem hy
    obtain ⟨x, hx, _, e2, _⟩ := mark_at hk
    rw [e2]
    exact w.wide x (List.mem_of_getElem? hx)
  · exact (stack_congr (b := b) (b' := ⟨b.reach, Kqb2.mark b l 0, b.stacks.set k none⟩) (l := l') rfl fun i _ => mark_face b l _ _ i).trans (w.isst n l' ((get n l').mp e).2)
  · show _ ∧ ∀ i ∈ l', i < (Kqb2.mark b l 0).length
    rw [mark_length]
    exact w.ok n l' ((get n l').mp e).2
  · obtain ⟨x, hx, _, _, hm⟩ := mark_at hy
    show y.stack = n + 1 ↔ ∃ l', (b.stacks.set k none)[n]? = some (some l') ∧ i ∈ l'
    rcases hm with ⟨hi, e⟩ | ⟨hi, e⟩
    · constructor
      · intro q
        omega
      · rintro ⟨l', e', hi'⟩
        obtain ⟨c, e'⟩ := (get n l').mp e'
        have h1 := (w.mark i x hx n).mpr ⟨l', e', hi'⟩
        have h2 := (w.mark i x hx k).mpr ⟨l, h, hi⟩
        omega
    · rw [e, w.mark i x hx n]
      constructor
      · rintro ⟨l', e', hi'⟩
        refine ⟨l', (get n l').mpr ⟨fun q => ?_, e'⟩, hi'⟩
        subst q
        rw [h] at e'
        have := Option.some.inj (Option.some.inj e')
        subst this
        exact hi hi'
      · rintro ⟨l', e', hi'⟩
        exact ⟨l', ((get n l').mp e').2, hi'⟩
/-- one for the other -/
def swp (i j x : Nat) : Nat := if x = i then j else if x = j then i else x
theorem swp_swp (i j x : Nat) : swp i j (swp i j x) = x := by
  unfold swp
  by_cases h1 : x = i
  · by_cases h2 : j = i
    · rw [if_pos h1, if_pos h2, h1]
      exact h2
    · rw [if_pos h1, if_neg h2, if_pos rfl, h1]
  · rw [if_neg h1]
    by_cases h2 : x = j
    · rw [if_pos h2, if_pos rfl, h2]
    · rw [if_neg h2, if_neg h1, if_neg h2]
theorem exchanged_eq (i j : Nat) (l : List Nat) : exchanged i j l = l.map (swp i j) := rfl
theorem mem_exchanged {i j k : Nat} {l : List Nat} : k ∈ exchanged i j l ↔ swp i j k ∈ l := by
  rw [exchanged_eq, List.mem_map]
  constructor
  · rintro ⟨x, hx, rfl⟩
    rw [swp_swp]
    exact hx
  · intro h
    exact ⟨_, h, swp_swp i j k⟩
theorem exchanged_nodup {i j : Nat} {l : List Nat} (h : l.Nodup) : (exchanged i j l).Nodup := by
  rw [exchanged_eq]
  refine List.pairwise_map.mpr (h.imp fun {a c} q e => q ?_)
  rw [← swp_swp i j a, e, swp_swp]
theorem map_exchanged {ss : List (Option (List Nat))} {i j n : Nat} {l' : List Nat} : (ss.map fun k => k.map (exchanged i j))[n]? = some (some l') ↔ ∃ l, ss[n]? = some (some l) ∧ l' = exchanged i j l := by
  rw [List.getElem?_map]
  cases ss[n]? with
  | none => simp
  | some o =>
    cases o with
    | none => simp
    | some l =>
      constructor
      · intro h
        exact ⟨l, rfl, (Option.some.inj (Option.some.inj h)).symm⟩
      · rintro ⟨l2, h, rfl⟩
        have := Option.some.inj (Option.some.inj h)
        subst this
        rfl
theorem WF.swap {b : Bench} (w : WF b) {i j : Nat} {x z : Sheet} (hx : b.sheets[i]? = some x) (hz : b.sheets[j]? = some z) (hij : i ≠ j)
    (hk : ∀ (n : Nat) (l : List Nat), b.stacks[n]? = some (some l) → stack b (exchanged i j l) = true) :
    WF { b with sheets := (b.sheets.set i { x with stack := z.stack }).set j { z with stack := x.stack }, stacks := b.stacks.map fun k => k.map (exchanged i j) } := by
  have get : ∀ (k : Nat) (y : Sheet), ((b.sheets.set i { x with stack := z.stack }).set j { z with stack := x.stack })[k]? = some y → ∃ u v, b.sheets[k]? = some u ∧ y.minus = u.minus ∧ y.wide = u.wide ∧ b.sheets[swp i j k]? = some v ∧ y.stack = v.stack := fun k y h => by
    rcases list_at_set h with ⟨rfl, rfl⟩ | ⟨c, h⟩
    · refine ⟨z, x, hz, rfl, rfl, ?_, rfl⟩
      rw [show swp i k k = i by unfold swp; rw [if_neg (fun q => hij q.symm), if_pos rfl]]
      exact hx
    · rcases list_at_set h with ⟨rfl, rfl⟩ | ⟨c2, h⟩
      · refine ⟨x, z, hx, rfl, rfl, ?_, rfl⟩
        rw [show swp k j k = j by unfold swp; rw [if_pos rfl]]
        exact hz
      · refine ⟨y, y, h, rfl, rfl, ?_, rfl⟩
        rw [show swp i j k = k by unfold swp; rw [if_neg c2, if_neg c]]
        exact h
  have len : ((b.sheets.set i { x with stack := z.stack }).set j { z with stack := x.stack }).length = b.sheets.length := by rw [List.length_set, List.length_set]
  have hi := (List.getElem?_eq_some_iff.mp hx).1
  have hj := (List.getElem?_eq_some_iff.mp hz).1
  have inb : ∀ k, k < b.sheets.length → swp i j k < b.sheets.length := fun k hk => by
    unfold swp
    split
    · exact hj
    · split
      · exact hi
      · exact hk
  have fc : ∀ (k : Nat), k < b.sheets.length → face { b with sheets := (b.sheets.set i { x with stack := z.stack }).set j { z with stack := x.stack }, stacks := b.stacks.map fun k => k.map (exchanged i j) } k = face b k := fun k hk => by
    have hk2 : k < ((b.sheets.set i { x with stack := z.stack }).set j { z with stack := x.stack }).length := by rw [len]; exact hk
    obtain ⟨u, v, h1, h2, h3, _, _⟩ := get k _ (List.getElem?_eq_getElem hk2)
    unfold face
    show (((b.sheets.set i { x with stack := z.stack }).set j { z with stack := x.stack })[k]?).map _ = _
    rw [h1, List.getElem?_eq_getElem hk2]
    show some (_, _) = some (_, _)
    rw [h2, h3]
  refine ⟨by show (List.set _ _ _).length ≤ 14; rw [len]; exact w.few, fun y hy => ?_, fun n l' e => ?_, fun n l' e => ?_, fun k y hy n => ?_, by show (List.map _ _).length ≤ 14; rw [List.length_map]; exact w.room⟩
  · obtain ⟨k, hk⟩ := List.getElem?_of_mem hy
    obtain ⟨u, v, h1, _, h3, _⟩ := get k y hk
    rw [h3]
    exact w.wide u (List.mem_of_getElem? h1)
  · obtain ⟨l, e2, rfl⟩ := map_exchanged.mp e
    refine (stack_congr (b := b) (b' := ⟨b.reach, (b.sheets.set i { x with stack := z.stack }).set j { z with stack := x.stack }, b.stacks.map fun k => k.map (exchanged i j)⟩) (l := exchanged i j l) rfl fun k hk => fc k ?_).trans (hk n l e2)
    · have := (w.ok n l e2).2 _ (mem_exchanged.mp hk)
      have := inb _ this
      rw [swp_swp] at this
      exact this
  · obtain ⟨l, e2, rfl⟩ := map_exchanged.mp e
    refine ⟨exchanged_nodup (w.ok n l e2).1, fun k hk => ?_⟩
    show k < (List.set _ _ _).length
    rw [len]
    have := (w.ok n l e2).2 _ (mem_exchanged.mp hk)
    have := inb _ this
    rw [swp_swp] at this
    exact this
  · obtain ⟨u, v, _, _, _, h4, h5⟩ := get k y hy
    rw [h5, w.mark _ v h4 n]
    constructor
    · rintro ⟨l, e, h⟩
      exact ⟨_, map_exchanged.mpr ⟨l, e, rfl⟩, mem_exchanged.mpr h⟩
    · rintro ⟨l', e, h⟩
      obtain ⟨l, e2, rfl⟩ := map_exchanged.mp e
      exact ⟨l, e2, mem_exchanged.mp h⟩

theorem okList_ok {b : Bench} {l : List Nat} (h : okList b l = true) : (∀ i ∈ l, i < b.sheets.length) ∧ l.Nodup := by
  unfold okList at h
  rw [Bool.and_eq_true, List.all_eq_true, List.all_eq_true] at h
  obtain ⟨h1, h2⟩ := h
  refine ⟨fun i hi => of_decide_eq_true (h1 i hi), List.pairwise_iff_getElem.mpr fun i j hi hj hij e => ?_⟩
  have := h2 i (List.mem_range.mpr hi)
  rw [Bool.not_eq_true', ← Bool.not_eq_true, List.contains_iff_mem] at this
  refine this ?_
  rw [List.getD_eq_getElem?_getD, List.getElem?_eq_getElem hi]
  show l[i] ∈ _
  rw [e]
  refine List.mem_iff_getElem.mpr ⟨j - (i + 1), by rw [List.length_drop]; omega, ?_⟩
  rw [List.getElem_drop]
  congr 1
  omega
theorem bool_ne {b : Bool} (h : ¬ b = false) : b = true := by
  cases b with
  | true => rfl
  | false => exact absurd rfl h
theorem all_stacks {b : Bench} {i j : Nat} {ks : List (Option (List Nat))} (h : ¬ ((ks.all fun k => match k with
    | some l => stack b l
    | none => true) = false)) {n : Nat} {l : List Nat} (e : ks[n]? = some (some l)) : stack b l = true := by
  have := List.all_eq_true.mp (bool_ne h) _ (List.mem_of_getElem? e)
  exact this
theorem step_WF {s : Option Bench} (h : WFo s) (c : Call) : WFo (step s c).1 := by
  intro b' e
  cases s with
  | none =>
    cases c <;> first
      | (rw [step_start] at e; split at e <;> cases e; exact WF.empty _)
      | (cases e)
  | some b =>
    have w := h b rfl
    cases c with
    | start r =>
      rw [step_start] at e
      split at e
      · cases e; exact w
      · cases e; exact WF.empty _
    | plus n =>
      have q := step_lay false n b
      rw [if_neg Bool.false_ne_true] at q
      rw [q] at e
      split at e
      · cases e; exact w
      · rename_i hn
        split at e
        · cases e; exact w
        · cases e
          exact w.lay (m := false) (bool_ne hn) (by omega)
    | minus n =>
      have q := step_lay true n b
      rw [if_pos rfl] at q
      rw [q] at e
      split at e
      · cases e; exact w
      · rename_i hn
        split at e
        · cases e; exact w
        · cases e
          exact w.lay (m := true) (bool_ne hn) (by omega)
    | trim i n =>
      rw [step_trim] at e
      split at e
      · cases e; exact w
      · rename_i x hx
        split at e
        · cases e; exact w
        · rename_i hs
          split at e
          · cases e; exact w
          · cases e
            exact w.trim hx (by omega) (by omega) (by omega)
    | press l =>
      rw [step_press] at e
      split at e
      · cases e; exact w
      · rename_i h1
        split at e
        · cases e; exact w
        · rename_i h2
          split at e
          · cases e; exact w
          · rename_i h3
            cases e
            have o := okList_ok (bool_ne h1)
            exact w.press (bool_ne h1) (bool_ne h2) (bool_ne h3) o.2 o.1
    | take i =>
      rw [step_take] at e
      split at e
      · cases e; exact w
      · rename_i l hl
        cases e
        exact w.take (getD_some.mp hl)
    | swap i j =>
      rw [step_swap] at e
      split at e
      · rename_i x z hx hz
        split at e
        · cases e; exact w
        · dsimp only at e
          split at e
          · cases e; exact w
          · rename_i hk
            cases e
            refine w.swap hx hz (fun q => hk (.inr q)) fun n l el => ?_
            exact all_stacks (i := i) (j := j) (fun q => hk (.inl q)) (map_exchanged.mpr ⟨l, el, rfl⟩)
      · cases e; exact w
    | _ => cases e; exact w
end
section
/-! ### most: so many stacks at once, by counting -/
/-- so many minus sheets at least lie beside c plus ones, at most k of these in a stack -/
def fk (k c : Nat) : Nat := if c = 0 then 0 else c + (c - 1) / k + 1
theorem fk_zero (k : Nat) : fk k 0 = 0 := rfl
theorem fk_pos {k c : Nat} (h : 1 ≤ c) : fk k c = c + (c - 1) / k + 1 := if_neg (by omega)
theorem fk_mono {k c d : Nat} (h : c ≤ d) : fk k c ≤ fk k d := by
  by_cases e : c = 0
  · subst e
    exact Nat.zero_le _
  · rw [fk_pos (by omega), fk_pos (by omega)]
    have : (c - 1) / k ≤ (d - 1) / k := Nat.div_le_div_right (by omega)
    omega
theorem fk_small {k c : Nat} (h : c ≤ k) : fk k c ≤ c + 1 := by
  by_cases e : c = 0
  · subst e
    exact Nat.zero_le _
  · rw [fk_pos (by omega), Nat.div_eq_of_lt (by omega)]
    omega
theorem fk_more {k c : Nat} (hk : 1 ≤ k) (h : 1 ≤ c) : fk k (c + k) = fk k c + (k + 1) := by
  rw [fk_pos (by omega), fk_pos h, show c + k - 1 = (c - 1) + k by omega, Nat.add_div_right _ (by omega)]
  omega
theorem fk_sub {k a b : Nat} (hk : 1 ≤ k) (hb : b ≤ k) : fk k (a + b) ≤ fk k a + fk k b := by
  by_cases e : a = 0
  · subst e
    rw [Nat.zero_add, fk_zero, Nat.zero_add]
    exact Nat.le_refl _
  · by_cases f : b = 0
    · subst f
      exact Nat.le_add_right _ _
    · rw [fk_pos (c := b) (by omega), Nat.div_eq_of_lt (show b - 1 < k by omega)]
      have h1 : fk k (a + b) ≤ a + b + ((a - 1) + k) / k + 1 := by
        rw [fk_pos (by omega)]
        have : (a + b - 1) / k ≤ ((a - 1) + k) / k := Nat.div_le_div_right (by omega)
        omega
      rw [Nat.add_div_right _ (by omega)] at h1
      rw [fk_pos (c := a) (by omega)]
      omega
theorem cntN_perm {t : Int} {l m : List Nat} (h : l.Perm m) : cntN t l = cntN t m := h.countP_eq _
theorem cntN_append (t : Int) (l m : List Nat) : cntN t (l ++ m) = cntN t l + cntN t m := List.countP_append
theorem cntN_anti {s t : Int} (h : s ≤ t) (l : List Nat) : cntN t l ≤ cntN s l := by
  unfold cntN
  refine List.countP_mono_left fun y _ hy => ?_
  have := of_decide_eq_true hy
  exact decide_eq_true (by omega)
/-- in order -/
abbrev Up (w : List Nat) : Prop := w.Pairwise (· ≤ ·)
theorem cntN_take (t : Int) : ∀ (w : List Nat), Up w → ∀ j, j ≤ w.length → cntN t (w.take j) = j - (w.length - cntN t w)
  | [], _, j, h => by
    have : j = 0 := by simpa using h
    subst this
    rfl
  | x :: w, hs, j, h => by
    have h' := List.pairwise_cons.mp hs
    by_cases c : t ≤ (x : Int)
    · have all : ∀ l : List Nat, (∀ y ∈ l, t ≤ (y : Int)) → cntN t l = l.length := fun l hl => List.countP_eq_length.mpr fun y hy => decide_eq_true (hl y hy)
      have hw : ∀ y ∈ x :: w, t ≤ (y : Int) := fun y hy => by
        rcases List.mem_cons.mp hy with rfl | hy
        · exact c
        · have := h'.1 y hy
          omega
      rw [all _ fun y hy => hw y (List.mem_of_mem_take hy), all _ hw, List.length_take]
      omega
    · rw [cntN_cons, if_neg c, List.length_cons]
      cases j with
      | zero => simp [cntN]
      | succ j =>
        rw [List.length_cons] at h
        rw [List.take_succ_cons, cntN_cons, if_neg c, cntN_take t w h'.2 j (by omega)]
        have := cntN_le t w
        omega
theorem cntN_drop (t : Int) (w : List Nat) (hs : Up w) (j : Nat) (hj : j ≤ w.length) : cntN t (w.drop j) = cntN t w - (j - (w.length - cntN t w)) := by
  have h1 := cntN_append t (w.take j) (w.drop j)
  rw [List.take_append_drop, cntN_take t w hs j hj] at h1
  omega
theorem could_t {p m : List Nat} {r : Nat} : Kqb2.could r p m = true ↔ (1 ≤ p.length ∧ m.length = p.length + 1) ∧ ∀ t : Int, 1 ≤ cntN t p → cntN t p + 1 ≤ cntN (t + 2 * (r : Int)) m := by
  obtain ⟨sp, hp⟩ := exists_srt p
  have lp := hp.length
  rw [could_cnt hp]
  constructor
  · rintro ⟨h1, h2⟩
    refine ⟨h1, fun t ht => ?_⟩
    have hle := cntN_le t p
    have hi : sp.length - cntN t p < sp.length := by omega
    have h3 := (cnt_sorted t sp hp.ord (sp.length - cntN t p) hi).mpr (by rw [cnt_ints hp]; omega)
    have h4 := h2 _ hi
    have h5 := cntN_anti (show t + 2 * (r : Int) ≤ sp[sp.length - cntN t p] + 2 * (r : Int) by omega) m
    omega
  · rintro ⟨h1, h2⟩
    refine ⟨h1, fun i hi => ?_⟩
    have h3 := (cnt_sorted sp[i] sp hp.ord i hi).mp (Int.le_refl _)
    rw [cnt_ints hp] at h3
    have h4 := h2 sp[i] (by omega)
    omega
/-- so many stacks of k plus each, by widths: P of the plus, M of the minus -/
def Crit (r k n : Nat) (P M : List Nat) : Prop := n * k ≤ P.length ∧ n * (k + 1) ≤ M.length ∧ ∀ t : Int, fk k (n * k - (P.length - cntN t P)) ≤ cntN (t + 2 * (r : Int)) M
theorem Crit.less {r k n : Nat} {P M : List Nat} (h : Crit r k (n + 1) P M) : Crit r k n P M := by
  obtain ⟨h1, h2, h3⟩ := h
  rw [Nat.add_mul, Nat.one_mul] at h1 h2
  refine ⟨by omega, by omega, fun t => Nat.le_trans (fk_mono ?_) (h3 t)⟩
  rw [Nat.add_mul, Nat.one_mul]
  omega
theorem Crit.down {r k : Nat} {P M : List Nat} : ∀ {n m : Nat}, m ≤ n → Crit r k n P M → Crit r k m P M
  | 0, m, h, c => by
    have : m = 0 := by omega
    exact this ▸ c
  | n + 1, m, h, c => by
    by_cases e : m = n + 1
    · exact e ▸ c
    · exact Crit.down (show m ≤ n by omega) c.less
theorem Crit.zero (r k : Nat) (P M : List Nat) : Crit r k 0 P M := ⟨by omega, by omega, fun t => by
  rw [Nat.zero_mul, Nat.zero_sub]
  exact Nat.zero_le _⟩
theorem mem_choose : ∀ {k : Nat} {l x : List Nat}, x ∈ Kqb2.choose k l ↔ x.Sublist l ∧ x.length = k
  | 0, l, x => by
    unfold Kqb2.choose
    constructor
    · intro h
      have : x = [] := by simpa using h
      subst this
      exact ⟨List.nil_sublist _, rfl⟩
    · rintro ⟨_, h⟩
      have : x = [] := List.eq_nil_of_length_eq_zero h
      subst this
      exact List.mem_singleton.mpr rfl
  | k + 1, [], x => by
    unfold Kqb2.choose
    constructor
    · intro h; cases h
    · rintro ⟨h1, h2⟩
      have : x = [] := List.sublist_nil.mp h1
      subst this
      cases h2
  | k + 1, y :: l, x => by
    unfold Kqb2.choose
    rw [List.mem_append, List.mem_map, mem_choose (l := l)]
    constructor
    · rintro (⟨z, hz, rfl⟩ | ⟨h1, h2⟩)
      · obtain ⟨h1, h2⟩ := mem_choose.mp hz
        exact ⟨h1.cons_cons y, by rw [List.length_cons, h2]⟩
      · exact ⟨h1.cons y, h2⟩
    · rintro ⟨h1, h2⟩
      cases h1 with
      | cons _ h1 => exact .inr ⟨h1, h2⟩
      | cons_cons _ h1 =>
        rw [List.length_cons] at h2
        exact .inl ⟨_, mem_choose.mpr ⟨h1, by omega⟩, rfl⟩
theorem contains_iff {x : List Nat} {i : Nat} : x.contains i = true ↔ i ∈ x := List.contains_iff_mem
/-- what is taken, and the rest -/
theorem taken_perm {p x : List Nat} (hp : p.Nodup) (hx : ∀ i ∈ x, i ∈ p) (nd : x.Nodup) : p.Perm (x ++ p.filter fun i => !(x.contains i)) := by
  refine (List.filter_append_perm (fun i => x.contains i) p).symm.trans (List.Perm.append_right _ ?_)
  refine (List.perm_ext_iff_of_nodup (hp.sublist List.filter_sublist) nd).mpr fun i => ?_
  rw [List.mem_filter, contains_iff]
  exact ⟨fun h => h.2, fun h => ⟨hx i h, h⟩⟩
theorem widths_perm {b : Kqb2.Bench} {l m : List Nat} (h : l.Perm m) : (Kqb2.widths b l).Perm (Kqb2.widths b m) := h.map _
theorem widths_append {b : Kqb2.Bench} (l m : List Nat) : Kqb2.widths b (l ++ m) = Kqb2.widths b l ++ Kqb2.widths b m := List.map_append
theorem widths_length {b : Kqb2.Bench} (l : List Nat) : (Kqb2.widths b l).length = l.length := List.length_map _
/-- in order of width -/
theorem sorted_by (b : Kqb2.Bench) (p : List Nat) : ∃ s : List Nat, s.Perm p ∧ Up (Kqb2.widths b s) := by
  refine ⟨p.mergeSort fun i j => decide (Kqb2.wide b i ≤ Kqb2.wide b j), List.mergeSort_perm _ _, ?_⟩
  refine List.pairwise_map.mpr ((List.pairwise_mergeSort (le := fun i j => decide (Kqb2.wide b i ≤ Kqb2.wide b j)) (fun a c d h1 h2 => ?_) (fun a c => ?_) p).imp fun {a c} h => of_decide_eq_true h)
  · exact decide_eq_true (Nat.le_trans (of_decide_eq_true h1) (of_decide_eq_true h2))
  · rw [Bool.or_eq_true, decide_eq_true_eq, decide_eq_true_eq]
    exact Nat.le_total _ _
/-- the ones that stand in s between two places, taken out of p in p's order -/
theorem take_out {p s : List Nat} (hp : p.Nodup) (hs : s.Perm p) {z : List Nat} (hz : z.Sublist s) : ∃ x : List Nat, x.Sublist p ∧ x.Perm z ∧ x.Nodup := by
  have nz : z.Nodup := (hs.nodup_iff.mpr hp).sublist hz
  refine ⟨p.filter fun i => z.contains i, List.filter_sublist, ?_, hp.sublist List.filter_sublist⟩
  refine (List.perm_ext_iff_of_nodup (hp.sublist List.filter_sublist) nz).mpr fun i => ?_
  rw [List.mem_filter, contains_iff]
  exact ⟨fun h => h.2, fun h => ⟨hs.mem_iff.mp (hz.subset h), h⟩⟩
theorem many_iff {b : Kqb2.Bench} {k : Nat} (hk : 1 ≤ k) : ∀ (n : Nat) (p m : List Nat), p.Nodup → m.Nodup → (Kqb2.many b k n p m = true ↔ Crit b.reach k n (Kqb2.widths b p) (Kqb2.widths b m))
  | 0, p, m, _, _ => ⟨fun _ => Crit.zero _ _ _ _, fun _ => rfl⟩
  | n + 1, p, m, hp, hm => by
    unfold Kqb2.many
    rw [Bool.and_eq_true, Bool.and_eq_true, decide_eq_true_eq, decide_eq_true_eq, List.any_eq_true]
    have ek : (n + 1) * k = n * k + k := by rw [Nat.add_mul, Nat.one_mul]
    have ek1 : (n + 1) * (k + 1) = n * (k + 1) + (k + 1) := by rw [Nat.add_mul, Nat.one_mul]
    constructor
    · rintro ⟨⟨h1, h2⟩, x, hx, h3⟩
      obtain ⟨y, hy, h3⟩ := List.any_eq_true.mp h3
      rw [Bool.and_eq_true] at h3
      obtain ⟨hc, hr⟩ := h3
      obtain ⟨sx, lx⟩ := mem_choose.mp hx
      obtain ⟨sy, ly⟩ := mem_choose.mp hy
      have hx' := widths_perm (b := b) (taken_perm hp (fun i h => sx.subset h) (hp.sublist sx))
      have hy' := widths_perm (b := b) (taken_perm hm (fun i h => sy.subset h) (hm.sublist sy))
      rw [widths_append] at hx' hy'
      have ih := (many_iff hk n _ _ (hp.sublist List.filter_sublist) (hm.sublist List.filter_sublist)).mp hr
      obtain ⟨i1, i2, i3⟩ := ih
      have lP := hx'.length_eq
      have lM := hy'.length_eq
      simp only [List.length_append, widths_length] at lP lM
      rw [widths_length] at i1 i2
      refine ⟨by rw [widths_length]; exact h1, by rw [widths_length]; exact h2, fun t => ?_⟩
      obtain ⟨_, ct⟩ := could_t.mp hc
      have c1 := cntN_perm (t := t) hx'
      have c2 := cntN_perm (t := t + 2 * (b.reach : Int)) hy'
      rw [cntN_append] at c1 c2
      have i3 := i3 t
      have le1 := cntN_le t (Kqb2.widths b x)
      have le2 := cntN_le t (Kqb2.widths b (p.filter fun i => !(x.contains i)))
      rw [widths_length] at le1 le2 i3
      have e1 : (n + 1) * k - ((Kqb2.widths b p).length - cntN t (Kqb2.widths b p)) ≤ (n * k - ((p.filter fun i => !(x.contains i)).length - cntN t (Kqb2.widths b (p.filter fun i => !(x.contains i))))) + cntN t (Kqb2.widths b x) := by
        rw [ek, c1, widths_length]
        omega
      refine Nat.le_trans (fk_mono e1) (Nat.le_trans (fk_sub hk (by omega)) ?_)
      rw [c2]
      have e2 : fk k (cntN t (Kqb2.widths b x)) ≤ cntN (t + 2 * (b.reach : Int)) (Kqb2.widths b y) := by
        by_cases q : cntN t (Kqb2.widths b x) = 0
        · rw [q]
          exact Nat.zero_le _
        · exact Nat.le_trans (fk_small (by omega)) (ct t (by omega))
      omega
    · rintro ⟨h1, h2, h3⟩
      rw [widths_length] at h1 h2
      refine ⟨⟨h1, h2⟩, ?_⟩
      obtain ⟨s, hs, us⟩ := sorted_by b p
      obtain ⟨u, hu, uu⟩ := sorted_by b m
      have ls := hs.length_eq
      have lu := hu.length_eq
      obtain ⟨x, sx, px, nx⟩ := take_out hp hs (z := (s.take (n * k + k)).drop (n * k)) ((List.drop_sublist _ _).trans (List.take_sublist _ _))
      obtain ⟨y, sy, py, ny⟩ := take_out hm hu (z := u.drop (m.length - (k + 1))) (List.drop_sublist _ _)
      have lx : x.length = k := by
        rw [px.length_eq, List.length_drop, List.length_take]
        omega
      have ly : y.length = k + 1 := by
        rw [py.length_eq, List.length_drop]
        omega
      have hx' := widths_perm (b := b) (taken_perm hp (fun i h => sx.subset h) nx)
      have hy' := widths_perm (b := b) (taken_perm hm (fun i h => sy.subset h) ny)
      rw [widths_append] at hx' hy'
      have lP := hx'.length_eq
      have lM := hy'.length_eq
      simp only [List.length_append, widths_length] at lP lM
      -- how many of what is taken are so wide
      have cx : ∀ t : Int, cntN t (Kqb2.widths b x) = (n * k + k - (p.length - cntN t (Kqb2.widths b p))) - (n * k - (p.length - cntN t (Kqb2.widths b p))) := fun t => by
        have e0 : cntN t (Kqb2.widths b s) = cntN t (Kqb2.widths b p) := cntN_perm (widths_perm hs)
        have e1 := cntN_take t (Kqb2.widths b s) us (n * k + k) (by rw [widths_length]; omega)
        have e2 := cntN_take t (Kqb2.widths b s) us (n * k) (by rw [widths_length]; omega)
        rw [e0, widths_length] at e1 e2
        have e3 : cntN t (Kqb2.widths b x) = cntN t (Kqb2.widths b ((s.take (n * k + k)).drop (n * k))) := cntN_perm (widths_perm px)
        have e4 : Kqb2.widths b (s.take (n * k + k)) = Kqb2.widths b (s.take (n * k)) ++ Kqb2.widths b ((s.take (n * k + k)).drop (n * k)) := by
          rw [← widths_append]
          congr 1
          have := List.take_append_drop (n * k) (s.take (n * k + k))
          rw [List.take_take, Nat.min_eq_left (by omega)] at this
          exact this.symm
        have e5 : Kqb2.widths b (s.take (n * k + k)) = (Kqb2.widths b s).take (n * k + k) := List.map_take ..
        have e6 : Kqb2.widths b (s.take (n * k)) = (Kqb2.widths b s).take (n * k) := List.map_take ..
        have e7 := cntN_append t (Kqb2.widths b (s.take (n * k))) (Kqb2.widths b ((s.take (n * k + k)).drop (n * k)))
        rw [← e4, e5, e6, e1, e2] at e7
        rw [e3, ← ls]
        omega
      have cy : ∀ t : Int, cntN t (Kqb2.widths b y) = cntN t (Kqb2.widths b m) - (m.length - (k + 1) - (m.length - cntN t (Kqb2.widths b m))) := fun t => by
        have e0 : cntN t (Kqb2.widths b u) = cntN t (Kqb2.widths b m) := cntN_perm (widths_perm hu)
        have e1 := cntN_drop t (Kqb2.widths b u) uu (m.length - (k + 1)) (by rw [widths_length]; omega)
        have e2 : Kqb2.widths b (u.drop (m.length - (k + 1))) = (Kqb2.widths b u).drop (m.length - (k + 1)) := List.map_drop ..
        have e3 : cntN t (Kqb2.widths b y) = cntN t (Kqb2.widths b (u.drop (m.length - (k + 1)))) := cntN_perm (widths_perm py)
        rw [e0, widths_length, lu] at e1
        rw [e3, e2, e1]
      refine ⟨x, mem_choose.mpr ⟨sx, lx⟩, List.any_eq_true.mpr ⟨y, mem_choose.mpr ⟨sy, ly⟩, ?_⟩⟩
      rw [Bool.and_eq_true]
      have lP' := cntN_le
      constructor
      · refine could_t.mpr ⟨⟨by rw [widths_length]; omega, by rw [widths_length, widths_length]; omega⟩, fun t ht => ?_⟩
        have h3 := h3 t
        rw [ek, widths_length] at h3
        have hcx := cx t
        have hcy := cy (t + 2 * (b.reach : Int))
        have c1 : 1 ≤ n * k + k - (p.length - cntN t (Kqb2.widths b p)) := by omega
        rw [fk_pos c1] at h3
        generalize (n * k + k - (p.length - cntN t (Kqb2.widths b p)) - 1) / k = D at h3
        have l1 := cntN_le (t + 2 * (b.reach : Int)) (Kqb2.widths b m)
        rw [widths_length] at l1
        omega
      · refine (many_iff hk n _ _ (hp.sublist List.filter_sublist) (hm.sublist List.filter_sublist)).mpr ⟨by rw [widths_length]; omega, by rw [widths_length]; omega, fun t => ?_⟩
        have h3 := h3 t
        rw [ek, widths_length] at h3
        have hcx := cx t
        have c1 := cntN_perm (t := t) hx'
        have c2 := cntN_perm (t := t + 2 * (b.reach : Int)) hy'
        rw [cntN_append] at c1 c2
        have l1 := cntN_le t (Kqb2.widths b (p.filter fun i => !(x.contains i)))
        have l2 := cntN_le (t + 2 * (b.reach : Int)) (Kqb2.widths b y)
        have l3 := cntN_le t (Kqb2.widths b p)
        rw [widths_length] at l1 l2 l3 ⊢
        by_cases q : p.length - cntN t (Kqb2.widths b p) < n * k
        · have e : n * k + k - (p.length - cntN t (Kqb2.widths b p)) = (n * k - ((p.filter fun i => !(x.contains i)).length - cntN t (Kqb2.widths b (p.filter fun i => !(x.contains i))))) + k := by omega
          rw [e, fk_more hk (by omega)] at h3
          omega
        · have e : n * k - ((p.filter fun i => !(x.contains i)).length - cntN t (Kqb2.widths b (p.filter fun i => !(x.contains i)))) = 0 := by omega
          rw [e]
          exact Nat.zero_le _
theorem free_nodup (b : Kqb2.Bench) (f : Nat → Bool) : (Kqb2.free b f).Nodup := List.nodup_range.sublist List.filter_sublist
theorem free_length (b : Kqb2.Bench) (f : Nat → Bool) : (Kqb2.free b f).length ≤ b.sheets.length := by
  have := List.length_filter_le (fun i => Kqb2.loose b i && f i) (List.range b.sheets.length)
  rw [List.length_range] at this
  exact this
theorem foldl_max_eq : ∀ (l : List Nat) (a c : Nat), a ≤ c → (∀ x ∈ l, x ≤ c) → (a = c ∨ c ∈ l) → l.foldl max a = c
  | [], a, c, _, _, h => by
    rcases h with h | h
    · exact h
    · cases h
  | x :: l, a, c, ha, hl, h => by
    rw [List.foldl_cons]
    have hx := hl x List.mem_cons_self
    refine foldl_max_eq l _ c (by omega) (fun y hy => hl y (List.mem_cons_of_mem _ hy)) ?_
    rcases h with h | h
    · exact .inl (by omega)
    · rcases List.mem_cons.mp h with h | h
      · exact .inl (by omega)
      · exact .inr h
/-- most is where it ends -/
theorem most_eq {b : Kqb2.Bench} {k c : Nat} (hk : 1 ≤ k) (h1 : Crit b.reach k c (Kqb2.widths b (Kqb2.free b (Kqb2.isPlus b))) (Kqb2.widths b (Kqb2.free b (Kqb2.isMinus b))))
    (h2 : ¬ Crit b.reach k (c + 1) (Kqb2.widths b (Kqb2.free b (Kqb2.isPlus b))) (Kqb2.widths b (Kqb2.free b (Kqb2.isMinus b)))) : Kqb2.most b k = c := by
  unfold Kqb2.most
  have hc : c ≤ b.sheets.length := by
    have e1 := h1.1
    rw [widths_length] at e1
    have e2 := free_length b (Kqb2.isPlus b)
    have e3 : c ≤ c * k := Nat.le_mul_of_pos_right c hk
    omega
  refine foldl_max_eq _ 0 c (Nat.zero_le _) (fun x hx => ?_) (.inr ?_)
  · obtain ⟨_, hx⟩ := List.mem_filter.mp hx
    have := (many_iff hk x _ _ (free_nodup b _) (free_nodup b _)).mp hx
    by_cases q : x ≤ c
    · exact q
    · exact absurd (Crit.down (show c + 1 ≤ x by omega) this) h2
  · exact List.mem_filter.mpr ⟨List.mem_range.mpr (by omega), (many_iff hk c _ _ (free_nodup b _) (free_nodup b _)).mpr h1⟩
end
section
/-! ### what the least widths, in order, tell -/
abbrev cntI (t : Int) (s : List Int) : Nat := s.countP fun y => decide (t ≤ y)
theorem cntI_take (t : Int) : ∀ (w : List Int), w.Pairwise (· ≤ ·) → ∀ j, j ≤ w.length → cntI t (w.take j) = j - (w.length - cntI t w)
  | [], _, j, h => by
    have : j = 0 := by simpa using h
    subst this
    rfl
  | x :: w, hs, j, h => by
    have h' := List.pairwise_cons.mp hs
    by_cases c : t ≤ x
    · have all : ∀ l : List Int, (∀ y ∈ l, t ≤ y) → cntI t l = l.length := fun l hl => List.countP_eq_length.mpr fun y hy => decide_eq_true (hl y hy)
      have hw : ∀ y ∈ x :: w, t ≤ y := fun y hy => by
        rcases List.mem_cons.mp hy with rfl | hy
        · exact c
        · have := h'.1 y hy
          omega
      rw [all _ fun y hy => hw y (List.mem_of_mem_take hy), all _ hw, List.length_take]
      omega
    · have e : cntI t (x :: w) = cntI t w := List.countP_cons_of_neg (by simpa using c)
      rw [e, List.length_cons]
      cases j with
      | zero => simp [cntI]
      | succ j =>
        rw [List.length_cons] at h
        have e2 : cntI t (x :: w.take j) = cntI t (w.take j) := List.countP_cons_of_neg (by simpa using c)
        rw [List.take_succ_cons, e2, cntI_take t w h'.2 j (by omega)]
        have : cntI t w ≤ w.length := List.countP_le_length
        omega
theorem cntI_down (t : Int) : ∀ (w : List Int), w.Pairwise (· ≥ ·) → ∀ j (h : j < w.length), t ≤ w[j] ↔ j + 1 ≤ cntI t w
  | [], _, j, h => absurd h (Nat.not_lt_zero j)
  | x :: w, hs, j, h => by
    have h' := List.pairwise_cons.mp hs
    by_cases c : t ≤ x
    · have e : cntI t (x :: w) = cntI t w + 1 := List.countP_cons_of_pos (by simpa using c)
      rw [e]
      cases j with
      | zero => exact ⟨fun _ => by omega, fun _ => c⟩
      | succ j =>
        rw [List.getElem_cons_succ, cntI_down t w h'.2 j (by rw [List.length_cons] at h; omega)]
        omega
    · have z : cntI t (x :: w) = 0 := List.countP_eq_zero.mpr fun y hy => by
        rcases List.mem_cons.mp hy with rfl | hy
        · simpa using c
        · have := h'.1 y hy
          simp
          omega
      rw [z]
      refine ⟨fun q => ?_, fun q => absurd q (by omega)⟩
      cases j with
      | zero => exact absurd q c
      | succ j =>
        rw [List.getElem_cons_succ] at q
        have := h'.1 _ (List.getElem_mem (show j < w.length by rw [List.length_cons] at h; omega))
        omega
/-- the least widths, so far -/
def leastTo (k r : Nat) (sd : List Int) : Nat → List Int
  | 0 => []
  | i + 1 => (if i % k = 0 then leastTo k r sd i ++ [sd.getD i 0 + 2 * (r : Int)] else leastTo k r sd i) ++ [sd.getD i 0 + 2 * (r : Int)]
theorem leastTo_succ (k r : Nat) (sd : List Int) (i : Nat) : leastTo k r sd (i + 1) = (if i % k = 0 then leastTo k r sd i ++ [sd.getD i 0 + 2 * (r : Int)] else leastTo k r sd i) ++ [sd.getD i 0 + 2 * (r : Int)] := rfl
theorem leastTo_length {k r : Nat} {sd : List Int} (hk : 1 ≤ k) : ∀ i, (leastTo k r sd (i + 1)).length = i + i / k + 2
  | 0 => by
    show ((if 0 % k = 0 then _ else _) ++ _ : List Int).length = _
    rw [if_pos (Nat.zero_mod k), Nat.zero_div]
    rfl
  | i + 1 => by
    have ih := leastTo_length (r := r) (sd := sd) hk i
    unfold leastTo
    rw [Nat.succ_div]
    by_cases c : (i + 1) % k = 0
    · rw [if_pos c, if_pos (Nat.dvd_of_mod_eq_zero c), List.length_append, List.length_append, ih]
      show i + i / k + 2 + 1 + 1 = _
      omega
    · rw [if_neg c, if_neg (fun q => c (Nat.mod_eq_zero_of_dvd q)), List.length_append, ih]
      show i + i / k + 2 + 1 = _
      omega
theorem leastTo_le {k r : Nat} {sd : List Int} (hk : 1 ≤ k) (i : Nat) : (leastTo k r sd i).length ≤ 2 * i := by
  cases i with
  | zero => exact Nat.le_refl _
  | succ i =>
    rw [leastTo_length hk]
    have := Nat.div_le_self i k
    omega
theorem leastTo_get {k r : Nat} {sd : List Int} (hk : 1 ≤ k) : ∀ n i, i < n → (leastTo k r sd n)[i + i / k + 1]? = some (sd.getD i 0 + 2 * (r : Int))
  | 0, i, h => absurd h (Nat.not_lt_zero i)
  | n + 1, i, h => by
    have hl := leastTo_length (r := r) (sd := sd) hk n
    by_cases c : i = n
    · subst c
      have e : (leastTo k r sd (i + 1)) = (if i % k = 0 then leastTo k r sd i ++ [sd.getD i 0 + 2 * (r : Int)] else leastTo k r sd i) ++ [sd.getD i 0 + 2 * (r : Int)] := rfl
      rw [e] at hl ⊢
      rw [List.length_append] at hl
      have hl : (if i % k = 0 then leastTo k r sd i ++ [sd.getD i 0 + 2 * (r : Int)] else leastTo k r sd i).length = i + i / k + 1 := by
        have : ([sd.getD i 0 + 2 * (r : Int)] : List Int).length = 1 := rfl
        omega
      rw [List.getElem?_append_right (by omega), hl, Nat.sub_self]
      rfl
    · have ih := leastTo_get (r := r) (sd := sd) hk n i (by omega)
      have hi := (List.getElem?_eq_some_iff.mp ih).1
      unfold leastTo
      rw [List.getElem?_append_left]
      · by_cases c : n % k = 0
        · rw [if_pos c, List.getElem?_append_left hi]
          exact ih
        · rw [if_neg c]
          exact ih
      · by_cases c : n % k = 0
        · rw [if_pos c, List.length_append]
          omega
        · rw [if_neg c]
          exact hi
theorem leastTo_from {k r : Nat} {sd : List Int} (hk : 1 ≤ k) : ∀ n j v, (leastTo k r sd n)[j]? = some v → ∃ i < n, j ≤ i + i / k + 1 ∧ v = sd.getD i 0 + 2 * (r : Int)
  | 0, j, v, h => by
    cases (h : ([] : List Int)[j]? = some v)
  | n + 1, j, v, h => by
    have hl := leastTo_length (r := r) (sd := sd) hk n
    by_cases c : j < (leastTo k r sd n).length
    · have h2 : (leastTo k r sd n)[j]? = some v := by
        unfold leastTo at h
        rw [List.getElem?_append_left] at h
        · by_cases c2 : n % k = 0
          · rw [if_pos c2, List.getElem?_append_left c] at h
            exact h
          · rw [if_neg c2] at h
            exact h
        · by_cases c2 : n % k = 0
          · rw [if_pos c2, List.length_append]
            omega
          · rw [if_neg c2]
            exact c
      obtain ⟨i, h3, h4, h5⟩ := leastTo_from hk n j v h2
      exact ⟨i, by omega, h4, h5⟩
    · have hj := (List.getElem?_eq_some_iff.mp h).1
      refine ⟨n, by omega, by omega, ?_⟩
      have mem : ∀ z ∈ (leastTo k r sd (n + 1)).drop (leastTo k r sd n).length, z = sd.getD n 0 + 2 * (r : Int) := fun z hz => by
        rw [leastTo_succ] at hz
        by_cases c2 : n % k = 0
        · rw [if_pos c2, List.append_assoc, List.drop_left] at hz
          simpa using hz
        · rw [if_neg c2, List.drop_left] at hz
          simpa using hz
      refine mem v ?_
      refine List.mem_of_getElem? (i := j - (leastTo k r sd n).length) ?_
      rw [List.getElem?_drop, show (leastTo k r sd n).length + (j - (leastTo k r sd n).length) = j by omega]
      exact h
theorem laid_iff {r k n : Nat} {p m : List Nat} {sp sd w : List Int} (hk : 1 ≤ k) (hp : Srt sp p) (h1 : n * k ≤ p.length) (h2 : n * (k + 1) ≤ m.length) (hd : sd.Perm (sp.take (n * k))) (od : sd.Pairwise (· ≥ ·)) (hw : w.Perm (nints m)) (ow : w.Pairwise (· ≥ ·)) :
    (∀ (j : Nat) (v u : Int), (leastTo k r sd (n * k))[j]? = some v → w[j]? = some u → v ≤ u) ↔ Crit r k n p m := by
  have lp := hp.length
  have ld : sd.length = n * k := by
    rw [hd.length_eq, List.length_take]
    omega
  have lw : w.length = m.length := by rw [hw.length_eq, List.length_map]
  have cd : ∀ t, cntI t sd = n * k - (p.length - cntN t p) := fun t => by
    have e1 : cntI t sd = cntI t (sp.take (n * k)) := hd.countP_eq _
    have e2 := cntI_take t sp hp.ord (n * k) (by omega)
    have e3 : cntI t sp = cntN t p := cnt_ints hp t
    rw [e1, e2, e3, lp]
  have cw : ∀ t, cntI t w = cntN t m := fun t => by
    have e1 : cntI t w = cntI t (nints m) := hw.countP_eq _
    have e2 : cntI t (nints m) = cntN t m := List.countP_map
    rw [e1, e2]
  have at_ : ∀ i (h : i < sd.length), sd.getD i 0 = sd[i] := fun i h => by
    rw [List.getD_eq_getElem?_getD, List.getElem?_eq_getElem h]
    rfl
  have mul : n * (k + 1) = n * k + n := Nat.mul_succ n k
  constructor
  · intro h
    refine ⟨h1, h2, fun t => ?_⟩
    rw [← cd t]
    by_cases c : cntI t sd = 0
    · rw [c]
      exact Nat.zero_le _
    · have hle : cntI t sd ≤ sd.length := List.countP_le_length
      have hi : cntI t sd - 1 < sd.length := by omega
      have a1 := (cntI_down t sd od (cntI t sd - 1) hi).mpr (by omega)
      have a2 := leastTo_get (r := r) (sd := sd) hk (n * k) (cntI t sd - 1) (by omega)
      have a3 : (cntI t sd - 1) / k < n := Nat.div_lt_of_lt_mul (by rw [Nat.mul_comm]; omega)
      have a4 : cntI t sd - 1 + (cntI t sd - 1) / k + 1 < w.length := by omega
      have a5 := h _ _ _ a2 (List.getElem?_eq_getElem a4)
      rw [at_ _ hi] at a5
      have a6 := (cntI_down (t + 2 * (r : Int)) w ow _ a4).mp (by omega)
      rw [cw] at a6
      rw [fk_pos (by omega)]
      omega
  · rintro ⟨_, _, h⟩ j v u hv hu
    obtain ⟨i, i1, i2, rfl⟩ := leastTo_from hk _ _ _ hv
    have hi : i < sd.length := by omega
    rw [at_ i hi]
    have a1 := (cntI_down sd[i] sd od i hi).mp (Int.le_refl _)
    have a2 := h sd[i]
    rw [← cd] at a2
    have a3 := fk_mono (k := k) a1
    rw [fk_pos (by omega), show i + 1 - 1 = i by omega] at a3
    obtain ⟨hj, rfl⟩ := List.getElem?_eq_some_iff.mp hu
    refine (cntI_down (sd[i] + 2 * (r : Int)) w ow j hj).mpr ?_
    rw [cw]
    omega
end
section
open Kqb2
/-! ### order: breadth first finds what depth first finds -/
def lastOf (l : List Nat) : Nat := l.getLastD 0
/-- each listed sheet more that can lie on the laid ones -/
def ext (b : Bench) (ls laid : List Nat) : List (List Nat) := (ls.filter fun i => !(laid.contains i) && fit b (lastOf laid) i).map fun i => laid ++ [i]
def higher (b : Bench) (ls : List Nat) (ll : List (List Nat)) : List (List Nat) := ll.flatMap (ext b ls)
def climb (b : Bench) (ls : List Nat) : Nat → List (List Nat) → List (List Nat)
  | 0, ll => ll
  | k + 1, ll => climb b ls k (higher b ls ll)
def rest (ls laid : List Nat) : List Nat := ls.filter fun i => !(laid.contains i)
theorem climb_succ (b : Bench) (ls : List Nat) : ∀ (k : Nat) (ll : List (List Nat)), climb b ls (k + 1) ll = higher b ls (climb b ls k ll)
  | 0, _ => rfl
  | k + 1, ll => by
    show climb b ls (k + 1) (higher b ls ll) = higher b ls (climb b ls k (higher b ls ll))
    exact climb_succ b ls k _
theorem findSome_flatMap {α β γ : Type} (f : α → List β) (g : β → Option γ) : ∀ l : List α, (l.flatMap f).findSome? g = l.findSome? fun a => (f a).findSome? g
  | [] => rfl
  | a :: l => by
    rw [List.flatMap_cons, List.findSome?_append, List.findSome?_cons, findSome_flatMap f g l]
    cases (f a).findSome? g <;> rfl
theorem findSome_filter {α β : Type} (p : α → Bool) (g : α → Option β) : ∀ l : List α, (l.filter p).findSome? g = l.findSome? fun a => if p a = true then g a else none
  | [] => rfl
  | a :: l => by
    rw [List.filter_cons]
    by_cases c : p a = true
    · rw [if_pos c, List.findSome?_cons, List.findSome?_cons, if_pos c, findSome_filter p g l]
    · rw [if_neg c, List.findSome?_cons, if_neg c, findSome_filter p g l]
theorem findSome_map {α β γ : Type} (g : α → Option β) (h : β → γ) : ∀ l : List α, (l.findSome? g).map h = l.findSome? fun a => (g a).map h
  | [] => rfl
  | a :: l => by
    rw [List.findSome?_cons, List.findSome?_cons]
    cases g a with
    | none => exact findSome_map g h l
    | some b => rfl
theorem rest_more (ls laid : List Nat) (i : Nat) : rest ls (laid ++ [i]) = remove i (rest ls laid) := by
  unfold rest remove
  rw [List.filter_filter]
  refine List.filter_congr fun j _ => ?_
  rw [Bool.eq_iff_iff]
  simp [List.contains_eq_mem, bne_iff_ne, not_or, and_comm]
theorem remove_length {l : List Nat} (h : l.Nodup) {i : Nat} (hi : i ∈ l) : (remove i l).length + 1 = l.length := by
  have e : remove i l = l.erase i := by
    unfold remove
    rw [h.erase_eq_filter]
  rw [e, List.length_erase_of_mem hi]
  have := List.length_pos_of_mem hi
  omega
theorem climb_head (b : Bench) (ls : List Nat) (nd : ls.Nodup) : ∀ (k : Nat) (ll : List (List Nat)), (∀ laid ∈ ll, (rest ls laid).length = k) →
    (climb b ls k ll).head? = ll.findSome? fun laid => (goOn b k (some (lastOf laid)) (rest ls laid)).map fun r => laid ++ r
  | 0, ll, h => by
    show ll.head? = _
    cases ll with
    | nil => rfl
    | cons laid ll =>
      have e : rest ls laid = [] := List.eq_nil_of_length_eq_zero (h laid List.mem_cons_self)
      rw [List.findSome?_cons, e]
      show some laid = _
      unfold goOn
      rw [if_pos rfl]
      show _ = some (laid ++ [])
      rw [List.append_nil]
  | k + 1, ll, h => by
    have h' : ∀ laid ∈ higher b ls ll, (rest ls laid).length = k := fun laid hl => by
      obtain ⟨l0, hl0, hx⟩ := List.mem_flatMap.mp hl
      obtain ⟨i, hi, rfl⟩ := List.mem_map.mp hx
      obtain ⟨h1, h2⟩ := List.mem_filter.mp hi
      rw [Bool.and_eq_true] at h2
      have hr : i ∈ rest ls l0 := List.mem_filter.mpr ⟨h1, h2.1⟩
      have := remove_length (l := rest ls l0) (nd.filter _) hr
      rw [rest_more]
      have := h l0 hl0
      omega
    show (climb b ls k (higher b ls ll)).head? = _
    rw [climb_head b ls nd k _ h']
    unfold higher
    rw [findSome_flatMap]
    have hc : ∀ laid ∈ ll, ((ext b ls laid).findSome? fun laid => (goOn b k (some (lastOf laid)) (rest ls laid)).map fun r => laid ++ r) = (goOn b (k + 1) (some (lastOf laid)) (rest ls laid)).map fun r => laid ++ r := fun laid hl => by
      have ne : rest ls laid ≠ [] := fun e => by
        have := h laid hl
        rw [e] at this
        cases this
      unfold ext
      rw [List.findSome?_map]
      have e1 : (ls.filter fun i => !(laid.contains i) && fit b (lastOf laid) i) = (rest ls laid).filter fun i => fit b (lastOf laid) i := by
        unfold rest
        rw [List.filter_filter]
        refine List.filter_congr fun j _ => ?_
        rw [Bool.and_comm]
      rw [e1, findSome_filter]
      conv =>
        rhs
        unfold goOn
      rw [if_neg ne, findSome_map]
      congr 1
      funext i
      by_cases c : fit b (lastOf laid) i = true
      · rw [if_pos c, if_pos c]
        show (goOn b k (some (lastOf (laid ++ [i]))) (rest ls (laid ++ [i]))).map (fun r => laid ++ [i] ++ r) = _
        rw [rest_more, show lastOf (laid ++ [i]) = i by unfold lastOf; simp]
        cases goOn b k (some i) (remove i (rest ls laid)) with
        | none => rfl
        | some r =>
          show some (laid ++ [i] ++ r) = some (laid ++ i :: r)
          rw [List.append_assoc]
          rfl
      · rw [if_neg c, if_neg c]
        rfl
    clear h'
    induction ll with
    | nil => rfl
    | cons laid ll ih =>
      rw [List.findSome?_cons, List.findSome?_cons, hc laid List.mem_cons_self]
      rw [ih (fun l hl => h l (List.mem_cons_of_mem _ hl)) (fun l hl => hc l (List.mem_cons_of_mem _ hl))]
def begunOf (b : Bench) (ls : List Nat) : List (List Nat) := (ls.filter fun i => isMinus b i).map fun i => [i]
theorem order_climb (b : Bench) (ls : List Nat) (nd : ls.Nodup) (hl : ls.length % 2 = 1 ∧ 3 ≤ ls.length) : order b ls = (climb b ls (ls.length - 1) (begunOf b ls)).head? := by
  have hlen : ls.length = ls.length - 1 + 1 := by omega
  have ne : ls ≠ [] := fun e => by
    subst e
    exact absurd hl.2 (by decide)
  have h : ∀ laid ∈ begunOf b ls, (rest ls laid).length = ls.length - 1 := fun laid hm => by
    obtain ⟨i, hi, rfl⟩ := List.mem_map.mp hm
    have h1 := (List.mem_filter.mp hi).1
    have e : rest ls [i] = remove i ls := by
      unfold rest remove
      refine List.filter_congr fun j _ => ?_
      rw [Bool.eq_iff_iff]
      simp [List.contains_eq_mem]
    rw [e]
    have := remove_length nd h1
    omega
  rw [climb_head b ls nd _ _ h]
  unfold order
  rw [if_pos hl]
  conv =>
    lhs
    rw [hlen]
    unfold goOn
  rw [if_neg ne]
  unfold begunOf
  rw [List.findSome?_map, findSome_filter]
  congr 1
  funext i
  by_cases c : isMinus b i = true
  · rw [if_pos c, if_pos c]
    show _ = (goOn b (ls.length - 1) (some (lastOf [i])) (rest ls [i])).map (fun r => [i] ++ r)
    have e : rest ls [i] = remove i ls := by
      unfold rest remove
      refine List.filter_congr fun j _ => ?_
      rw [Bool.eq_iff_iff]
      simp [List.contains_eq_mem]
    rw [e]
    rfl
  · rw [if_neg c, if_neg c]
theorem order_none (b : Bench) (ls : List Nat) (hl : ¬ (ls.length % 2 = 1 ∧ 3 ≤ ls.length)) : order b ls = none := by
  unfold order
  rw [if_neg hl]
theorem higher_length (b : Bench) (ls : List Nat) : ∀ ll : List (List Nat), (higher b ls ll).length ≤ ll.length * ls.length
  | [] => by
    show 0 ≤ _
    exact Nat.zero_le _
  | laid :: ll => by
    unfold higher
    rw [List.flatMap_cons, List.length_append, List.length_cons, Nat.succ_mul]
    have h1 : (ext b ls laid).length ≤ ls.length := by
      unfold ext
      rw [List.length_map]
      exact List.length_filter_le _ _
    have h2 := higher_length b ls ll
    unfold higher at h2
    omega
end
section
open Kqb2
/-! ### loose, height, state: counts -/
theorem length_filter_split {l : List Nat} {p q r : Nat → Bool} (h : ∀ i ∈ l, (r i).toNat = (p i).toNat + (q i).toNat) : (l.filter r).length = (l.filter p).length + (l.filter q).length := by
  induction l with
  | nil => rfl
  | cons x l ih =>
    have ih := ih fun i hi => h i (List.mem_cons_of_mem _ hi)
    have hx := h x List.mem_cons_self
    have key : ∀ f : Nat → Bool, ((x :: l).filter f).length = (f x).toNat + (l.filter f).length := fun f => by
      rw [List.filter_cons]
      cases f x with
      | true => rw [if_pos rfl, List.length_cons, Nat.add_comm]; rfl
      | false => rw [if_neg Bool.false_ne_true]; exact (Nat.zero_add _).symm
    rw [key, key, key, ih]
    omega
theorem free_all (b : Bench) : (free b fun _ => true).length = (free b (isPlus b)).length + (free b (isMinus b)).length := by
  unfold free
  refine length_filter_split fun i hi => ?_
  have hi := List.mem_range.mp hi
  unfold isPlus isMinus
  rw [List.getElem?_eq_getElem hi]
  show (loose b i && true).toNat = (loose b i && !b.sheets[i].minus).toNat + (loose b i && b.sheets[i].minus).toNat
  cases loose b i <;> cases b.sheets[i].minus <;> rfl
/-- so many stacks -/
theorem stacks_length (ss : List (Option (List Nat))) : (ss.filterMap id).length = ((List.range ss.length).filter fun n => (ss.getD n none).isSome).length := by
  have e : ss = (List.range ss.length).map fun n => ss.getD n none := by
    refine List.ext_getElem (by rw [List.length_map, List.length_range]) fun i h1 h2 => ?_
    rw [List.getElem_map, List.getElem_range, List.getD_eq_getElem?_getD, List.getElem?_eq_getElem h1]
    rfl
  rw [List.length_filterMap_eq_countP]
  conv =>
    lhs
    rw [e]
  rw [List.countP_map, List.countP_eq_length_filter]
  rfl
/-- in turn plus and minus -/
theorem fit_sign {b : Bench} {i j : Nat} (h : fit b i j = true) : isMinus b j = !isMinus b i := by
  unfold fit over at h
  unfold isMinus isPlus at *
  cases e : b.sheets[i]? with
  | none =>
    rw [e] at h
    simp at h
  | some x =>
    cases e2 : b.sheets[j]? with
    | none =>
      rw [e, e2] at h
      simp at h
    | some y =>
      rw [e, e2] at h
      show y.minus = !x.minus
      cases h1 : x.minus <;> cases h2 : y.minus <;> simp_all
theorem count_turn {b : Bench} : ∀ (l : List Nat), ((l.zip (l.drop 1)).all fun p => fit b p.1 p.2) = true → ∀ m, isMinus b (l.headD 0) = m → (l.filter (isMinus b)).length = if m = true then (l.length + 1) / 2 else l.length / 2
  | [], _, m, hm => by
    show 0 = _
    cases m <;> rfl
  | [x], _, m, hm => by
    have hm : isMinus b x = m := hm
    cases m with
    | true =>
      rw [List.filter_cons, if_pos hm]
      simp
    | false =>
      rw [List.filter_cons, if_neg (by rw [hm]; simp)]
      simp
  | x :: y :: l, h, m, hm => by
    have hm : isMinus b x = m := hm
    have h' : (fit b x y && ((y :: l).zip ((y :: l).drop 1)).all fun p => fit b p.1 p.2) = true := h
    rw [Bool.and_eq_true] at h'
    have hs := fit_sign h'.1
    have ih := count_turn (y :: l) h'.2 (!m) (by show isMinus b y = _; rw [hs, hm])
    rw [List.filter_cons]
    cases m with
    | true =>
      rw [if_pos hm, List.length_cons, ih]
      simp only [List.length_cons, Bool.not_true, Bool.false_eq_true, if_false, if_true]
      omega
    | false =>
      rw [if_neg (by rw [hm]; simp), ih]
      simp only [List.length_cons, Bool.not_false, Bool.false_eq_true, if_false, if_true]
theorem stack_minus {b : Bench} {l : List Nat} (h : stack b l = true) : (l.filter (isMinus b)).length = l.length / 2 + 1 := by
  unfold stack at h
  simp only [Bool.and_eq_true, decide_eq_true_eq] at h
  obtain ⟨⟨⟨h1, h2⟩, h3⟩, h4⟩ := h
  rw [count_turn l h4 true h3, if_pos rfl]
  omega
theorem foldl_maxW (f : Nat → Nat) : ∀ (l : List Nat) (a m : Nat), a ≤ m → (∀ i ∈ l, f i ≤ m) → (m = a ∨ ∃ i ∈ l, f i = m) → l.foldl (fun m i => max m (f i)) a = m
  | [], a, m, _, _, h => by
    rcases h with h | ⟨i, h, _⟩
    · exact h.symm
    · cases h
  | x :: l, a, m, ha, hl, h => by
    rw [List.foldl_cons]
    have hx := hl x List.mem_cons_self
    refine foldl_maxW f l _ m (by omega) (fun i hi => hl i (List.mem_cons_of_mem _ hi)) ?_
    rcases h with h | ⟨i, h, e⟩
    · exact .inl (by omega)
    · rcases List.mem_cons.mp h with rfl | h
      · exact .inl (by omega)
      · exact .inr ⟨i, h, e⟩
theorem foldl_minW (f : Nat → Nat) : ∀ (l : List Nat) (a m : Nat), m ≤ a → (∀ i ∈ l, m ≤ f i) → (m = a ∨ ∃ i ∈ l, f i = m) → l.foldl (fun m i => min m (f i)) a = m
  | [], a, m, _, _, h => by
    rcases h with h | ⟨i, h, _⟩
    · exact h.symm
    · cases h
  | x :: l, a, m, ha, hl, h => by
    rw [List.foldl_cons]
    have hx := hl x List.mem_cons_self
    refine foldl_minW f l _ m (by omega) (fun i hi => hl i (List.mem_cons_of_mem _ hi)) ?_
    rcases h with h | ⟨i, h, e⟩
    · exact .inl (by omega)
    · rcases List.mem_cons.mp h with rfl | h
      · exact .inl (by omega)
      · exact .inr ⟨i, h, e⟩
end
section
/-! ### what may be asked, call by call -/
theorem whole_id (c : List (List Int)) : PyKqb2.whole c = c := by
  unfold PyKqb2.whole
  split <;> rfl
theorem map_whole (cs : List (List (List Int))) : cs.map PyKqb2.whole = cs := by
  have : PyKqb2.whole = id := funext whole_id
  rw [this, List.map_id]
/-- the calls that are handed in, in the document's form -/
structure Asked (ns : List Int) (raw : List (List (List Int))) : Prop where
  calls : PyFlat.calls PyKqb2.shape ns.length ns = some raw
  one : ∀ c ∈ raw, Kqb2Neutral.asked1 c = true
  few : ∀ c ∈ raw, Kqb2Neutral.few c = true
  short : (PyKqb2.answers ns).length ≤ 10000000
  due : PyKqb2.answers ns = PyFlat.told (PyFlat.played Kqb2Neutral.step Kqb2Neutral.start raw)
theorem asked_of {ns : List Int} (h : PyKqb2.answers_asked ns = true) : ∃ raw, Asked ns raw := by
  unfold PyKqb2.answers_asked at h
  cases e : PyFlat.calls PyKqb2.shape ns.length ns with
  | none =>
    rw [e] at h
    cases h
  | some raw =>
    rw [e] at h
    simp only [Bool.and_eq_true, map_whole] at h
    obtain ⟨⟨⟨_, _⟩, ha⟩, hs⟩ := h
    unfold Kqb2Neutral.asked at ha
    simp only [Bool.and_eq_true] at ha
    obtain ⟨⟨⟨_, h1, _⟩, h2⟩, _⟩ := ha
    refine ⟨raw, e, List.all_eq_true.mp h1, ?_, of_decide_eq_true hs, ?_⟩
    · unfold Kqb2Neutral.small at h2
      exact List.all_eq_true.mp h2
    · unfold PyKqb2.answers PyKqb2.calls
      rw [e]
      simp only [map_whole]
theorem told_cons (a : List Int) (l : List (List Int)) : PyFlat.told (a :: l) = (a.length : Int) :: a ++ PyFlat.told l := rfl
theorem played_cons {S : Type} (step : S → List (List Int) → S × List Int) (s : S) (c : List (List Int)) (r : List (List (List Int))) : PyFlat.played step s (c :: r) = (step s c).2 :: PyFlat.played step (step s c).1 r := rfl
theorem nat_of {z : Int} (h : Kqb2Neutral.natural z 32 = true) : ((Kqb2Neutral.n z : Nat) : Int) = z := by
  unfold Kqb2Neutral.natural at h
  rw [Bool.and_eq_true, decide_eq_true_eq, decide_eq_true_eq] at h
  unfold Kqb2Neutral.n
  omega
theorem nats_of {r : List Int} (h : (r.all (fun (z : Int) => Kqb2Neutral.natural z 32) && decide (r.length ≤ 60)) = true) : ((r.map Kqb2Neutral.n).map fun n : Nat => (n : Int)) = r ∧ (r.map Kqb2Neutral.n).length ≤ 60 := by
  rw [Bool.and_eq_true, decide_eq_true_eq] at h
  refine ⟨?_, by rw [List.length_map]; exact h.2⟩
  rw [List.map_map]
  conv =>
    rhs
    rw [← List.map_id r]
  refine List.map_congr_left fun z hz => ?_
  exact nat_of (List.all_eq_true.mp h.1 z hz)
/-- a call's number, what it is given, and the call -/
inductive Is : Nat → List Int → List (List Int) → Kqb2.Call → Prop
  | start (a : Nat) : Is 0 [(a : Int)] [] (.start a)
  | plus (a : Nat) : Is 1 [(a : Int)] [] (.plus a)
  | minus (a : Nat) : Is 2 [(a : Int)] [] (.minus a)
  | trim (a b : Nat) : Is 3 [(a : Int), (b : Int)] [] (.trim a b)
  | fit (a b : Nat) : Is 4 [(a : Int), (b : Int)] [] (.fit a b)
  | over (a : Nat) : Is 5 [(a : Int)] [] (.over a)
  | under (a : Nat) : Is 6 [(a : Int)] [] (.under a)
  | order (l : List Nat) (h : l.length ≤ 7) : Is 7 [] [l.map fun n : Nat => (n : Int)] (.order l)
  | could (l m : List Nat) (h : l.length ≤ 60) (h2 : m.length ≤ 60) : Is 8 [] [l.map fun n : Nat => (n : Int), m.map fun n : Nat => (n : Int)] (.could l m)
  | need (l m : List Nat) (h : l.length ≤ 60) (h2 : m.length ≤ 60) : Is 9 [] [l.map fun n : Nat => (n : Int), m.map fun n : Nat => (n : Int)] (.need l m)
  | press (l : List Nat) (h : l.length ≤ 60) : Is 10 [] [l.map fun n : Nat => (n : Int)] (.press l)
  | take (a : Nat) : Is 11 [(a : Int)] [] (.take a)
  | swap (a b : Nat) : Is 12 [(a : Int), (b : Int)] [] (.swap a b)
  | most (a : Nat) : Is 13 [(a : Int)] [] (.most a)
  | loose : Is 14 [] [] .loose
  | stack (a : Nat) : Is 15 [(a : Int)] [] (.stack a)
  | height (a : Nat) : Is 16 [(a : Int)] [] (.height a)
  | sheet (a : Nat) : Is 17 [(a : Int)] [] (.sheet a)
  | check (l : List Nat) (h : l.length ≤ 60) : Is 18 [] [l.map fun n : Nat => (n : Int)] (.check l)
  | state : Is 19 [] [] .state
theorem is_of {c : List (List Int)} (h1 : Kqb2Neutral.asked1 c = true) (h2 : Kqb2Neutral.few c = true) :
    ∃ (k : Nat) (xs : List Int) (rs : List (List Int)) (x : Kqb2.Call), c = ((k : Int) :: xs) :: rs ∧ Is k xs rs x ∧ Kqb2Neutral.callOf c = some x := by
  unfold Kqb2Neutral.asked1 at h1
  split at h1
  · rename_i a
    have q := Is.start (Kqb2Neutral.n a)
    rw [nat_of h1] at q
    exact ⟨0, _, _, _, rfl, q, rfl⟩
  · rename_i a
    have q := Is.plus (Kqb2Neutral.n a)
    rw [nat_of h1] at q
    exact ⟨1, _, _, _, rfl, q, rfl⟩
  · rename_i a
    have q := Is.minus (Kqb2Neutral.n a)
    rw [nat_of h1] at q
    exact ⟨2, _, _, _, rfl, q, rfl⟩
  · rename_i a b
    rw [Bool.and_eq_true] at h1
    have q := Is.trim (Kqb2Neutral.n a) (Kqb2Neutral.n b)
    rw [nat_of h1.1, nat_of h1.2] at q
    exact ⟨3, _, _, _, rfl, q, rfl⟩
  · rename_i a b
    rw [Bool.and_eq_true] at h1
    have q := Is.fit (Kqb2Neutral.n a) (Kqb2Neutral.n b)
    rw [nat_of h1.1, nat_of h1.2] at q
    exact ⟨4, _, _, _, rfl, q, rfl⟩
  · rename_i a
    have q := Is.over (Kqb2Neutral.n a)
    rw [nat_of h1] at q
    exact ⟨5, _, _, _, rfl, q, rfl⟩
  · rename_i a
    have q := Is.under (Kqb2Neutral.n a)
    rw [nat_of h1] at q
    exact ⟨6, _, _, _, rfl, q, rfl⟩
  · rename_i r
    obtain ⟨e, hl⟩ := nats_of h1
    have h7 : (r.map Kqb2Neutral.n).length ≤ 7 := by
      rw [List.length_map]
      exact of_decide_eq_true h2
    have q := Is.order (r.map Kqb2Neutral.n) h7
    rw [e] at q
    exact ⟨7, _, _, _, rfl, q, rfl⟩
  · rename_i r r2
    rw [Bool.and_eq_true] at h1
    obtain ⟨e, hl⟩ := nats_of h1.1
    obtain ⟨e2, hl2⟩ := nats_of h1.2
    have q := Is.could (r.map Kqb2Neutral.n) (r2.map Kqb2Neutral.n) hl hl2
    rw [e, e2] at q
    exact ⟨8, _, _, _, rfl, q, rfl⟩
  · rename_i r r2
    rw [Bool.and_eq_true] at h1
    obtain ⟨e, hl⟩ := nats_of h1.1
    obtain ⟨e2, hl2⟩ := nats_of h1.2
    have q := Is.need (r.map Kqb2Neutral.n) (r2.map Kqb2Neutral.n) hl hl2
    rw [e, e2] at q
    exact ⟨9, _, _, _, rfl, q, rfl⟩
  · rename_i r
    obtain ⟨e, hl⟩ := nats_of h1
    have q := Is.press (r.map Kqb2Neutral.n) hl
    rw [e] at q
    exact ⟨10, _, _, _, rfl, q, rfl⟩
  · rename_i a
    have q := Is.take (Kqb2Neutral.n a)
    rw [nat_of h1] at q
    exact ⟨11, _, _, _, rfl, q, rfl⟩
  · rename_i a b
    rw [Bool.and_eq_true] at h1
    have q := Is.swap (Kqb2Neutral.n a) (Kqb2Neutral.n b)
    rw [nat_of h1.1, nat_of h1.2] at q
    exact ⟨12, _, _, _, rfl, q, rfl⟩
  · rename_i a
    have q := Is.most (Kqb2Neutral.n a)
    rw [nat_of h1] at q
    exact ⟨13, _, _, _, rfl, q, rfl⟩
  · exact ⟨14, _, _, _, rfl, Is.loose, rfl⟩
  · rename_i a
    have q := Is.stack (Kqb2Neutral.n a)
    rw [nat_of h1] at q
    exact ⟨15, _, _, _, rfl, q, rfl⟩
  · rename_i a
    have q := Is.height (Kqb2Neutral.n a)
    rw [nat_of h1] at q
    exact ⟨16, _, _, _, rfl, q, rfl⟩
  · rename_i a
    have q := Is.sheet (Kqb2Neutral.n a)
    rw [nat_of h1] at q
    exact ⟨17, _, _, _, rfl, q, rfl⟩
  · rename_i r
    obtain ⟨e, hl⟩ := nats_of h1
    have q := Is.check (r.map Kqb2Neutral.n) hl
    rw [e] at q
    exact ⟨18, _, _, _, rfl, q, rfl⟩
  · exact ⟨19, _, _, _, rfl, Is.state, rfl⟩
  · cases h1
end
end My
namespace My
open PySem PySem.Spec PyProof.Rows L2
open PySem.W (Codec)
/-! The text by places, the scopes, the facts (printed by gen.py) -/
def top (i : Nat) : Stmt := PySem.Challenge.pw_stackedsheets_s01_answers.main.body.getD i (.Pass ⟨0, 0, 0, 0⟩)
abbrev s_call_loose : Stmt := top 10
abbrev s_call_stack : Stmt := top 11
abbrev s_call_height : Stmt := top 12
abbrev s_call_sheet : Stmt := top 13
abbrev s_call_state : Stmt := top 14
abbrev s_call_press : Stmt := top 16
abbrev s_call_take : Stmt := top 17
abbrev s_call_swap : Stmt := top 18
abbrev s_Reader_init : Stmt := inClass (top 22) 0
abbrev s_Reader_has_more : Stmt := inClass (top 22) 1
abbrev s_Reader_read_number : Stmt := inClass (top 22) 2
abbrev s_Reader_read_list : Stmt := inClass (top 22) 3
abbrev s_Reader_read_given : Stmt := inClass (top 22) 4
abbrev s_is_width : Stmt := top 25
abbrev s_least_over : Stmt := top 26
abbrev s_reaches_over : Stmt := top 27
abbrev s_can_be_stacked : Stmt := top 28
abbrev s_least_more : Stmt := top 29
abbrev s_most_stacks : Stmt := top 30
abbrev s_can_be_laid : Stmt := top 31
abbrev s_least_minus_widths : Stmt := top 32
abbrev s_call_start : Stmt := top 35
abbrev s_call_plus : Stmt := top 36
abbrev s_call_minus : Stmt := top 37
abbrev s_lay_one : Stmt := top 38
abbrev s_call_trim : Stmt := top 39
abbrev s_call_fit : Stmt := top 40
abbrev s_call_over : Stmt := top 41
abbrev s_call_under : Stmt := top 42
abbrev s_fitting_to : Stmt := top 43
abbrev s_Sheet_init : Stmt := inClass (top 47) 0
abbrev s_Shop_init : Stmt := inClass (top 48) 0
abbrev s_Shop_begin : Stmt := inClass (top 48) 1
abbrev s_Shop_has_begun : Stmt := inClass (top 48) 2
abbrev s_Shop_has_sheet : Stmt := inClass (top 48) 3
abbrev s_Shop_has_stack : Stmt := inClass (top 48) 4
abbrev s_Shop_is_full : Stmt := inClass (top 48) 5
abbrev s_Shop_lay_sheet : Stmt := inClass (top 48) 6
abbrev s_Shop_fits : Stmt := inClass (top 48) 7
abbrev s_Shop_fitting : Stmt := inClass (top 48) 8
abbrev s_Shop_are_sheets : Stmt := inClass (top 48) 9
abbrev s_Shop_is_stack : Stmt := inClass (top 48) 10
abbrev s_Shop_stack_of : Stmt := inClass (top 48) 11
abbrev s_Shop_is_loose : Stmt := inClass (top 48) 12
abbrev s_Shop_loose_widths : Stmt := inClass (top 48) 13
abbrev s_Shop_lay_stack : Stmt := inClass (top 48) 14
abbrev s_Shop_take_stack : Stmt := inClass (top 48) 15
abbrev s_Shop_stacks_with_swapped : Stmt := inClass (top 48) 16
abbrev s_is_size_of_stack : Stmt := top 49
abbrev s_call_order : Stmt := top 54
abbrev s_first_order : Stmt := top 55
abbrev s_one_higher : Stmt := top 56
abbrev s_call_could : Stmt := top 57
abbrev s_call_need : Stmt := top 58
abbrev s_are_widths : Stmt := top 59
abbrev s_call_check : Stmt := top 60
abbrev s_call_most : Stmt := top 61
abbrev s_answers : Stmt := top 64
abbrev s_answer_call : Stmt := top 65
abbrev s_handlers_by_number : Stmt := top 66
abbrev N_call_loose : List Str := ["shop", "given", "plus", "minus"]
theorem sc_call_loose : FnScope N_call_loose ["shop", "given"] (defScope s_call_loose) := ⟨rfl, rfl, rfl, by decide +kernel, rfl, by decide +kernel, by decide +kernel⟩
abbrev N_call_stack : List Str := ["shop", "given", "number", "laid"]
theorem sc_call_stack : FnScope N_call_stack ["shop", "given"] (defScope s_call_stack) := ⟨rfl, rfl, rfl, by decide +kernel, rfl, by decide +kernel, by decide +kernel⟩
abbrev N_call_height : List Str := ["shop", "given", "number", "sheets", "minus_widths", "narrowest", "i", "sheet"]
theorem sc_call_height : FnScope N_call_height ["shop", "given"] (defScope s_call_height) := ⟨rfl, rfl, rfl, by decide +kernel, rfl, by decide +kernel, by decide +kernel⟩
abbrev N_call_sheet : List Str := ["shop", "given", "i", "sheet", "number"]
theorem sc_call_sheet : FnScope N_call_sheet ["shop", "given"] (defScope s_call_sheet) := ⟨rfl, rfl, rfl, by decide +kernel, rfl, by decide +kernel, by decide +kernel⟩
abbrev N_call_state : List Str := ["shop", "given"]
theorem sc_call_state : FnScope N_call_state ["shop", "given"] (defScope s_call_state) := ⟨rfl, rfl, rfl, by decide +kernel, rfl, by decide +kernel, by decide +kernel⟩
abbrev N_call_press : List Str := ["shop", "given", "listed", "i"]
theorem sc_call_press : FnScope N_call_press ["shop", "given"] (defScope s_call_press) := ⟨rfl, rfl, rfl, by decide +kernel, rfl, by decide +kernel, by decide +kernel⟩
abbrev N_call_take : List Str := ["shop", "given", "number"]
theorem sc_call_take : FnScope N_call_take ["shop", "given"] (defScope s_call_take) := ⟨rfl, rfl, rfl, by decide +kernel, rfl, by decide +kernel, by decide +kernel⟩
abbrev N_call_swap : List Str := ["shop", "given", "i", "j", "stacks", "laid"]
theorem sc_call_swap : FnScope N_call_swap ["shop", "given"] (defScope s_call_swap) := ⟨rfl, rfl, rfl, by decide +kernel, rfl, by decide +kernel, by decide +kernel⟩
abbrev N_Reader_init : List Str := ["self", "numbers"]
theorem sc_Reader_init : FnScope N_Reader_init ["self", "numbers"] (defScope s_Reader_init) := ⟨rfl, rfl, rfl, by decide +kernel, rfl, by decide +kernel, by decide +kernel⟩
abbrev N_Reader_has_more : List Str := ["self"]
theorem sc_Reader_has_more : FnScope N_Reader_has_more ["self"] (defScope s_Reader_has_more) := ⟨rfl, rfl, rfl, by decide +kernel, rfl, by decide +kernel, by decide +kernel⟩
abbrev N_Reader_read_number : List Str := ["self", "number"]
theorem sc_Reader_read_number : FnScope N_Reader_read_number ["self"] (defScope s_Reader_read_number) := ⟨rfl, rfl, rfl, by decide +kernel, rfl, by decide +kernel, by decide +kernel⟩
abbrev N_Reader_read_list : List Str := ["self", "length", "first"]
theorem sc_Reader_read_list : FnScope N_Reader_read_list ["self"] (defScope s_Reader_read_list) := ⟨rfl, rfl, rfl, by decide +kernel, rfl, by decide +kernel, by decide +kernel⟩
abbrev N_Reader_read_given : List Str := ["self", "number", "given", "turn"]
theorem sc_Reader_read_given : FnScope N_Reader_read_given ["self", "number"] (defScope s_Reader_read_given) := ⟨rfl, rfl, rfl, by decide +kernel, rfl, by decide +kernel, by decide +kernel⟩
abbrev N_is_width : List Str := ["wide"]
theorem sc_is_width : FnScope N_is_width ["wide"] (defScope s_is_width) := ⟨rfl, rfl, rfl, by decide +kernel, rfl, by decide +kernel, by decide +kernel⟩
abbrev N_least_over : List Str := ["plus_width", "reach"]
theorem sc_least_over : FnScope N_least_over ["plus_width", "reach"] (defScope s_least_over) := ⟨rfl, rfl, rfl, by decide +kernel, rfl, by decide +kernel, by decide +kernel⟩
abbrev N_reaches_over : List Str := ["minus_width", "plus_width", "reach"]
theorem sc_reaches_over : FnScope N_reaches_over ["minus_width", "plus_width", "reach"] (defScope s_reaches_over) := ⟨rfl, rfl, rfl, by decide +kernel, rfl, by decide +kernel, by decide +kernel⟩
abbrev N_can_be_stacked : List Str := ["plus_widths", "minus_widths", "reach", "plus_width", "minus_width"]
theorem sc_can_be_stacked : FnScope N_can_be_stacked ["plus_widths", "minus_widths", "reach"] (defScope s_can_be_stacked) := ⟨rfl, rfl, rfl, by decide +kernel, rfl, by decide +kernel, by decide +kernel⟩
abbrev N_least_more : List Str := ["plus_widths", "minus_widths", "reach", "plus_width", "wide"]
theorem sc_least_more : FnScope N_least_more ["plus_widths", "minus_widths", "reach"] (defScope s_least_more) := ⟨rfl, rfl, rfl, by decide +kernel, rfl, by decide +kernel, by decide +kernel⟩
abbrev N_most_stacks : List Str := ["plus_widths", "minus_widths", "k", "reach", "count"]
theorem sc_most_stacks : FnScope N_most_stacks ["plus_widths", "minus_widths", "k", "reach"] (defScope s_most_stacks) := ⟨rfl, rfl, rfl, by decide +kernel, rfl, by decide +kernel, by decide +kernel⟩
abbrev N_can_be_laid : List Str := ["plus_widths", "minus_widths", "k", "count", "reach", "narrowest", "widest", "least", "minus_width"]
theorem sc_can_be_laid : FnScope N_can_be_laid ["plus_widths", "minus_widths", "k", "count", "reach"] (defScope s_can_be_laid) := ⟨rfl, rfl, rfl, by decide +kernel, rfl, by decide +kernel, by decide +kernel⟩
abbrev N_least_minus_widths : List Str := ["plus_widths", "k", "reach", "least", "place", "plus_width"]
theorem sc_least_minus_widths : FnScope N_least_minus_widths ["plus_widths", "k", "reach"] (defScope s_least_minus_widths) := ⟨rfl, rfl, rfl, by decide +kernel, rfl, by decide +kernel, by decide +kernel⟩
abbrev N_call_start : List Str := ["shop", "given", "reach"]
theorem sc_call_start : FnScope N_call_start ["shop", "given"] (defScope s_call_start) := ⟨rfl, rfl, rfl, by decide +kernel, rfl, by decide +kernel, by decide +kernel⟩
abbrev N_call_plus : List Str := ["shop", "given"]
theorem sc_call_plus : FnScope N_call_plus ["shop", "given"] (defScope s_call_plus) := ⟨rfl, rfl, rfl, by decide +kernel, rfl, by decide +kernel, by decide +kernel⟩
abbrev N_call_minus : List Str := ["shop", "given"]
theorem sc_call_minus : FnScope N_call_minus ["shop", "given"] (defScope s_call_minus) := ⟨rfl, rfl, rfl, by decide +kernel, rfl, by decide +kernel, by decide +kernel⟩
abbrev N_lay_one : List Str := ["shop", "minus", "wide"]
theorem sc_lay_one : FnScope N_lay_one ["shop", "minus", "wide"] (defScope s_lay_one) := ⟨rfl, rfl, rfl, by decide +kernel, rfl, by decide +kernel, by decide +kernel⟩
abbrev N_call_trim : List Str := ["shop", "given", "i", "wide", "sheet", "was"]
theorem sc_call_trim : FnScope N_call_trim ["shop", "given"] (defScope s_call_trim) := ⟨rfl, rfl, rfl, by decide +kernel, rfl, by decide +kernel, by decide +kernel⟩
abbrev N_call_fit : List Str := ["shop", "given", "i", "j"]
theorem sc_call_fit : FnScope N_call_fit ["shop", "given"] (defScope s_call_fit) := ⟨rfl, rfl, rfl, by decide +kernel, rfl, by decide +kernel, by decide +kernel⟩
abbrev N_call_over : List Str := ["shop", "given"]
theorem sc_call_over : FnScope N_call_over ["shop", "given"] (defScope s_call_over) := ⟨rfl, rfl, rfl, by decide +kernel, rfl, by decide +kernel, by decide +kernel⟩
abbrev N_call_under : List Str := ["shop", "given"]
theorem sc_call_under : FnScope N_call_under ["shop", "given"] (defScope s_call_under) := ⟨rfl, rfl, rfl, by decide +kernel, rfl, by decide +kernel, by decide +kernel⟩
abbrev N_fitting_to : List Str := ["shop", "minus", "i", "fitting"]
theorem sc_fitting_to : FnScope N_fitting_to ["shop", "minus", "i"] (defScope s_fitting_to) := ⟨rfl, rfl, rfl, by decide +kernel, rfl, by decide +kernel, by decide +kernel⟩
abbrev N_Sheet_init : List Str := ["self", "minus", "wide"]
theorem sc_Sheet_init : FnScope N_Sheet_init ["self", "minus", "wide"] (defScope s_Sheet_init) := ⟨rfl, rfl, rfl, by decide +kernel, rfl, by decide +kernel, by decide +kernel⟩
abbrev N_Shop_init : List Str := ["self"]
theorem sc_Shop_init : FnScope N_Shop_init ["self"] (defScope s_Shop_init) := ⟨rfl, rfl, rfl, by decide +kernel, rfl, by decide +kernel, by decide +kernel⟩
abbrev N_Shop_begin : List Str := ["self", "reach"]
theorem sc_Shop_begin : FnScope N_Shop_begin ["self", "reach"] (defScope s_Shop_begin) := ⟨rfl, rfl, rfl, by decide +kernel, rfl, by decide +kernel, by decide +kernel⟩
abbrev N_Shop_has_begun : List Str := ["self"]
theorem sc_Shop_has_begun : FnScope N_Shop_has_begun ["self"] (defScope s_Shop_has_begun) := ⟨rfl, rfl, rfl, by decide +kernel, rfl, by decide +kernel, by decide +kernel⟩
abbrev N_Shop_has_sheet : List Str := ["self", "i"]
theorem sc_Shop_has_sheet : FnScope N_Shop_has_sheet ["self", "i"] (defScope s_Shop_has_sheet) := ⟨rfl, rfl, rfl, by decide +kernel, rfl, by decide +kernel, by decide +kernel⟩
abbrev N_Shop_has_stack : List Str := ["self", "number"]
theorem sc_Shop_has_stack : FnScope N_Shop_has_stack ["self", "number"] (defScope s_Shop_has_stack) := ⟨rfl, rfl, rfl, by decide +kernel, rfl, by decide +kernel, by decide +kernel⟩
abbrev N_Shop_is_full : List Str := ["self"]
theorem sc_Shop_is_full : FnScope N_Shop_is_full ["self"] (defScope s_Shop_is_full) := ⟨rfl, rfl, rfl, by decide +kernel, rfl, by decide +kernel, by decide +kernel⟩
abbrev N_Shop_lay_sheet : List Str := ["self", "minus", "wide"]
theorem sc_Shop_lay_sheet : FnScope N_Shop_lay_sheet ["self", "minus", "wide"] (defScope s_Shop_lay_sheet) := ⟨rfl, rfl, rfl, by decide +kernel, rfl, by decide +kernel, by decide +kernel⟩
abbrev N_Shop_fits : List Str := ["self", "i", "j", "one", "other"]
theorem sc_Shop_fits : FnScope N_Shop_fits ["self", "i", "j"] (defScope s_Shop_fits) := ⟨rfl, rfl, rfl, by decide +kernel, rfl, by decide +kernel, by decide +kernel⟩
abbrev N_Shop_fitting : List Str := ["self", "i", "j"]
theorem sc_Shop_fitting : FnScope N_Shop_fitting ["self", "i"] (defScope s_Shop_fitting) := ⟨rfl, rfl, rfl, by decide +kernel, rfl, by decide +kernel, by decide +kernel⟩
abbrev N_Shop_are_sheets : List Str := ["self", "listed", "i"]
theorem sc_Shop_are_sheets : FnScope N_Shop_are_sheets ["self", "listed"] (defScope s_Shop_are_sheets) := ⟨rfl, rfl, rfl, by decide +kernel, rfl, by decide +kernel, by decide +kernel⟩
abbrev N_Shop_is_stack : List Str := ["self", "listed", "lower", "upper"]
theorem sc_Shop_is_stack : FnScope N_Shop_is_stack ["self", "listed"] (defScope s_Shop_is_stack) := ⟨rfl, rfl, rfl, by decide +kernel, rfl, by decide +kernel, by decide +kernel⟩
abbrev N_Shop_stack_of : List Str := ["self", "i", "number", "laid"]
theorem sc_Shop_stack_of : FnScope N_Shop_stack_of ["self", "i"] (defScope s_Shop_stack_of) := ⟨rfl, rfl, rfl, by decide +kernel, rfl, by decide +kernel, by decide +kernel⟩
abbrev N_Shop_is_loose : List Str := ["self", "i"]
theorem sc_Shop_is_loose : FnScope N_Shop_is_loose ["self", "i"] (defScope s_Shop_is_loose) := ⟨rfl, rfl, rfl, by decide +kernel, rfl, by decide +kernel, by decide +kernel⟩
abbrev N_Shop_loose_widths : List Str := ["self", "minus", "widths", "i", "sheet"]
theorem sc_Shop_loose_widths : FnScope N_Shop_loose_widths ["self", "minus"] (defScope s_Shop_loose_widths) := ⟨rfl, rfl, rfl, by decide +kernel, rfl, by decide +kernel, by decide +kernel⟩
abbrev N_Shop_lay_stack : List Str := ["self", "listed", "number"]
theorem sc_Shop_lay_stack : FnScope N_Shop_lay_stack ["self", "listed"] (defScope s_Shop_lay_stack) := ⟨rfl, rfl, rfl, by decide +kernel, rfl, by decide +kernel, by decide +kernel⟩
abbrev N_Shop_take_stack : List Str := ["self", "number"]
theorem sc_Shop_take_stack : FnScope N_Shop_take_stack ["self", "number"] (defScope s_Shop_take_stack) := ⟨rfl, rfl, rfl, by decide +kernel, rfl, by decide +kernel, by decide +kernel⟩
abbrev N_Shop_stacks_with_swapped : List Str := ["self", "i", "j", "instead", "stacks", "number", "laid", "one"]
theorem sc_Shop_stacks_with_swapped : FnScope N_Shop_stacks_with_swapped ["self", "i", "j"] (defScope s_Shop_stacks_with_swapped) := ⟨rfl, rfl, rfl, by decide +kernel, rfl, by decide +kernel, by decide +kernel⟩
abbrev N_is_size_of_stack : List Str := ["count"]
theorem sc_is_size_of_stack : FnScope N_is_size_of_stack ["count"] (defScope s_is_size_of_stack) := ⟨rfl, rfl, rfl, by decide +kernel, rfl, by decide +kernel, by decide +kernel⟩
abbrev N_call_order : List Str := ["shop", "given", "listed", "order"]
theorem sc_call_order : FnScope N_call_order ["shop", "given"] (defScope s_call_order) := ⟨rfl, rfl, rfl, by decide +kernel, rfl, by decide +kernel, by decide +kernel⟩
abbrev N_first_order : List Str := ["shop", "listed", "begun", "place", "i"]
theorem sc_first_order : FnScope N_first_order ["shop", "listed"] (defScope s_first_order) := ⟨rfl, rfl, rfl, by decide +kernel, rfl, by decide +kernel, by decide +kernel⟩
abbrev N_one_higher : List Str := ["shop", "begun", "listed", "higher", "laid", "i"]
theorem sc_one_higher : FnScope N_one_higher ["shop", "begun", "listed"] (defScope s_one_higher) := ⟨rfl, rfl, rfl, by decide +kernel, rfl, by decide +kernel, by decide +kernel⟩
abbrev N_call_could : List Str := ["shop", "given", "plus_widths", "minus_widths"]
theorem sc_call_could : FnScope N_call_could ["shop", "given"] (defScope s_call_could) := ⟨rfl, rfl, rfl, by decide +kernel, rfl, by decide +kernel, by decide +kernel⟩
abbrev N_call_need : List Str := ["shop", "given", "plus_widths", "minus_widths", "wide"]
theorem sc_call_need : FnScope N_call_need ["shop", "given"] (defScope s_call_need) := ⟨rfl, rfl, rfl, by decide +kernel, rfl, by decide +kernel, by decide +kernel⟩
abbrev N_are_widths : List Str := ["plus_widths", "minus_widths", "wide"]
theorem sc_are_widths : FnScope N_are_widths ["plus_widths", "minus_widths"] (defScope s_are_widths) := ⟨rfl, rfl, rfl, by decide +kernel, rfl, by decide +kernel, by decide +kernel⟩
abbrev N_call_check : List Str := ["shop", "given", "listed"]
theorem sc_call_check : FnScope N_call_check ["shop", "given"] (defScope s_call_check) := ⟨rfl, rfl, rfl, by decide +kernel, rfl, by decide +kernel, by decide +kernel⟩
abbrev N_call_most : List Str := ["shop", "given", "k"]
theorem sc_call_most : FnScope N_call_most ["shop", "given"] (defScope s_call_most) := ⟨rfl, rfl, rfl, by decide +kernel, rfl, by decide +kernel, by decide +kernel⟩
abbrev N_answers : List Str := ["calls", "shop", "reader", "handlers", "told", "number", "given", "answer"]
theorem sc_answers : FnScope N_answers ["calls"] (defScope s_answers) := ⟨rfl, rfl, rfl, by decide +kernel, rfl, by decide +kernel, by decide +kernel⟩
abbrev N_answer_call : List Str := ["shop", "handlers", "number", "given", "handler"]
theorem sc_answer_call : FnScope N_answer_call ["shop", "handlers", "number", "given"] (defScope s_answer_call) := ⟨rfl, rfl, rfl, by decide +kernel, rfl, by decide +kernel, by decide +kernel⟩
abbrev N_handlers_by_number : List Str := []
theorem sc_handlers_by_number : FnScope N_handlers_by_number [] (defScope s_handlers_by_number) := ⟨rfl, rfl, rfl, by decide +kernel, rfl, by decide +kernel, by decide +kernel⟩
/-- a def of the top -/
structure GDef (K : PySem.W.Frag) (mg : Str → Option Value) (x qual : Str) (st : Stmt) (ps : List Str) where
  f : Addr
  fd : FuncData
  F : Fun K x qual st f fd
  b : Binds K fd ps []
  g : mg x = some (.ref f)
/-- a class -/
structure CDef (K : PySem.W.Frag) (mg : Str → Option Value) (x : Str) where
  C : Addr
  cl : Cls K C
  g : mg x = some (.ref C)
/-- a method of the class at C -/
structure MDef (K : PySem.W.Frag) (C : Addr) (x qual : Str) (st : Stmt) (ps : List Str) where
  f : Addr
  fd : FuncData
  F : Fun K x qual st f fd
  b : Binds K fd ps []
  m : Meth K C x f
structure IDef (K : PySem.W.Frag) (C : Addr) (qual : Str) (st : Stmt) (ps : List Str) where
  f : Addr
  fd : FuncData
  F : Fun K "__init__" qual st f fd
  b : Binds K fd ps []
  m : Mk K C f
structure IntC (mg : Str → Option Value) (x : Str) (z : Int) where
  t : Tok
  g : mg x = some (.int z t)
structure TupC (K : PySem.W.Frag) (mg : Str → Option Value) (x : Str) (zs : List Int) where
  a : Addr
  g : mg x = some (.ref a)
  at_ : ∀ H : Hp, SqT K H a (zs.map V.int)
theorem lk_here {k : Str} {v : V} {r : List (Str × V)} : List.lookup k ((k, v) :: r) = some v := by
  have e : (k == k) = true := beq_self_eq_true k
  simp only [List.lookup, e]
theorem lk_past {k g : Str} {v : V} {r : List (Str × V)} (h : (k == g) = false) : List.lookup k ((g, v) :: r) = List.lookup k r := by
  simp only [List.lookup, h]
theorem put_here {f : Str} {v x : V} {r : List (Str × V)} : putF f v ((f, x) :: r) = (f, v) :: r := if_pos rfl
theorem put_past {f g : Str} {v x : V} {r : List (Str × V)} (h : ¬ g = f) : putF f v ((g, x) :: r) = (g, x) :: putF f v r := if_neg h
def F_Reader (x0 x1 : V) : List (Str × V) := [("numbers", x0), ("place", x1)]
theorem F_Reader_numbers {x0 x1 : V} : (F_Reader x0 x1).lookup ("numbers" : Str) = some x0 := lk_here
theorem F_Reader_put_numbers {x0 x1 y : V} : putF "numbers" y (F_Reader x0 x1) = F_Reader y x1 := put_here
theorem F_Reader_new_numbers {x0 x1 : V} : putF "numbers" x0 ([] : List (Str × V)) = ([("numbers", x0)] : List (Str × V)) := rfl
theorem F_Reader_place {x0 x1 : V} : (F_Reader x0 x1).lookup ("place" : Str) = some x1 := ((lk_past (by decide +kernel)).trans lk_here)
theorem F_Reader_put_place {x0 x1 y : V} : putF "place" y (F_Reader x0 x1) = F_Reader x0 y := ((put_past (by decide +kernel)).trans (congrArg _ put_here))
theorem F_Reader_new_place {x0 x1 : V} : putF "place" x1 ([("numbers", x0)] : List (Str × V)) = ([("numbers", x0), ("place", x1)] : List (Str × V)) := ((put_past (by decide +kernel)).trans (congrArg _ rfl))
theorem F_Reader_not_has_more {x0 x1 : V} : (F_Reader x0 x1).lookup ("has_more" : Str) = none := ((lk_past (by decide +kernel)).trans ((lk_past (by decide +kernel)).trans rfl))
theorem F_Reader_not_read_number {x0 x1 : V} : (F_Reader x0 x1).lookup ("read_number" : Str) = none := ((lk_past (by decide +kernel)).trans ((lk_past (by decide +kernel)).trans rfl))
theorem F_Reader_not_read_list {x0 x1 : V} : (F_Reader x0 x1).lookup ("read_list" : Str) = none := ((lk_past (by decide +kernel)).trans ((lk_past (by decide +kernel)).trans rfl))
theorem F_Reader_not_read_given {x0 x1 : V} : (F_Reader x0 x1).lookup ("read_given" : Str) = none := ((lk_past (by decide +kernel)).trans ((lk_past (by decide +kernel)).trans rfl))
def F_Sheet (x0 x1 : V) : List (Str × V) := [("minus", x0), ("wide", x1)]
theorem F_Sheet_minus {x0 x1 : V} : (F_Sheet x0 x1).lookup ("minus" : Str) = some x0 := lk_here
theorem F_Sheet_put_minus {x0 x1 y : V} : putF "minus" y (F_Sheet x0 x1) = F_Sheet y x1 := put_here
theorem F_Sheet_new_minus {x0 x1 : V} : putF "minus" x0 ([] : List (Str × V)) = ([("minus", x0)] : List (Str × V)) := rfl
theorem F_Sheet_wide {x0 x1 : V} : (F_Sheet x0 x1).lookup ("wide" : Str) = some x1 := ((lk_past (by decide +kernel)).trans lk_here)
theorem F_Sheet_put_wide {x0 x1 y : V} : putF "wide" y (F_Sheet x0 x1) = F_Sheet x0 y := ((put_past (by decide +kernel)).trans (congrArg _ put_here))
theorem F_Sheet_new_wide {x0 x1 : V} : putF "wide" x1 ([("minus", x0)] : List (Str × V)) = ([("minus", x0), ("wide", x1)] : List (Str × V)) := ((put_past (by decide +kernel)).trans (congrArg _ rfl))
def F_Shop (x0 x1 x2 : V) : List (Str × V) := [("reach", x0), ("sheets", x1), ("stacks", x2)]
theorem F_Shop_reach {x0 x1 x2 : V} : (F_Shop x0 x1 x2).lookup ("reach" : Str) = some x0 := lk_here
theorem F_Shop_put_reach {x0 x1 x2 y : V} : putF "reach" y (F_Shop x0 x1 x2) = F_Shop y x1 x2 := put_here
theorem F_Shop_new_reach {x0 x1 x2 : V} : putF "reach" x0 ([] : List (Str × V)) = ([("reach", x0)] : List (Str × V)) := rfl
theorem F_Shop_sheets {x0 x1 x2 : V} : (F_Shop x0 x1 x2).lookup ("sheets" : Str) = some x1 := ((lk_past (by decide +kernel)).trans lk_here)
theorem F_Shop_put_sheets {x0 x1 x2 y : V} : putF "sheets" y (F_Shop x0 x1 x2) = F_Shop x0 y x2 := ((put_past (by decide +kernel)).trans (congrArg _ put_here))
theorem F_Shop_new_sheets {x0 x1 x2 : V} : putF "sheets" x1 ([("reach", x0)] : List (Str × V)) = ([("reach", x0), ("sheets", x1)] : List (Str × V)) := ((put_past (by decide +kernel)).trans (congrArg _ rfl))
theorem F_Shop_stacks {x0 x1 x2 : V} : (F_Shop x0 x1 x2).lookup ("stacks" : Str) = some x2 := ((lk_past (by decide +kernel)).trans ((lk_past (by decide +kernel)).trans lk_here))
theorem F_Shop_put_stacks {x0 x1 x2 y : V} : putF "stacks" y (F_Shop x0 x1 x2) = F_Shop x0 x1 y := ((put_past (by decide +kernel)).trans (congrArg _ ((put_past (by decide +kernel)).trans (congrArg _ put_here))))
theorem F_Shop_new_stacks {x0 x1 x2 : V} : putF "stacks" x2 ([("reach", x0), ("sheets", x1)] : List (Str × V)) = ([("reach", x0), ("sheets", x1), ("stacks", x2)] : List (Str × V)) := ((put_past (by decide +kernel)).trans (congrArg _ ((put_past (by decide +kernel)).trans (congrArg _ rfl))))
theorem F_Shop_not_begin {x0 x1 x2 : V} : (F_Shop x0 x1 x2).lookup ("begin" : Str) = none := ((lk_past (by decide +kernel)).trans ((lk_past (by decide +kernel)).trans ((lk_past (by decide +kernel)).trans rfl)))
theorem F_Shop_not_has_begun {x0 x1 x2 : V} : (F_Shop x0 x1 x2).lookup ("has_begun" : Str) = none := ((lk_past (by decide +kernel)).trans ((lk_past (by decide +kernel)).trans ((lk_past (by decide +kernel)).trans rfl)))
theorem F_Shop_not_has_sheet {x0 x1 x2 : V} : (F_Shop x0 x1 x2).lookup ("has_sheet" : Str) = none := ((lk_past (by decide +kernel)).trans ((lk_past (by decide +kernel)).trans ((lk_past (by decide +kernel)).trans rfl)))
theorem F_Shop_not_has_stack {x0 x1 x2 : V} : (F_Shop x0 x1 x2).lookup ("has_stack" : Str) = none := ((lk_past (by decide +kernel)).trans ((lk_past (by decide +kernel)).trans ((lk_past (by decide +kernel)).trans rfl)))
theorem F_Shop_not_is_full {x0 x1 x2 : V} : (F_Shop x0 x1 x2).lookup ("is_full" : Str) = none := ((lk_past (by decide +kernel)).trans ((lk_past (by decide +kernel)).trans ((lk_past (by decide +kernel)).trans rfl)))
theorem F_Shop_not_lay_sheet {x0 x1 x2 : V} : (F_Shop x0 x1 x2).lookup ("lay_sheet" : Str) = none := ((lk_past (by decide +kernel)).trans ((lk_past (by decide +kernel)).trans ((lk_past (by decide +kernel)).trans rfl)))
theorem F_Shop_not_fits {x0 x1 x2 : V} : (F_Shop x0 x1 x2).lookup ("fits" : Str) = none := ((lk_past (by decide +kernel)).trans ((lk_past (by decide +kernel)).trans ((lk_past (by decide +kernel)).trans rfl)))
theorem F_Shop_not_fitting {x0 x1 x2 : V} : (F_Shop x0 x1 x2).lookup ("fitting" : Str) = none := ((lk_past (by decide +kernel)).trans ((lk_past (by decide +kernel)).trans ((lk_past (by decide +kernel)).trans rfl)))
theorem F_Shop_not_are_sheets {x0 x1 x2 : V} : (F_Shop x0 x1 x2).lookup ("are_sheets" : Str) = none := ((lk_past (by decide +kernel)).trans ((lk_past (by decide +kernel)).trans ((lk_past (by decide +kernel)).trans rfl)))
theorem F_Shop_not_is_stack {x0 x1 x2 : V} : (F_Shop x0 x1 x2).lookup ("is_stack" : Str) = none := ((lk_past (by decide +kernel)).trans ((lk_past (by decide +kernel)).trans ((lk_past (by decide +kernel)).trans rfl)))
theorem F_Shop_not_stack_of {x0 x1 x2 : V} : (F_Shop x0 x1 x2).lookup ("stack_of" : Str) = none := ((lk_past (by decide +kernel)).trans ((lk_past (by decide +kernel)).trans ((lk_past (by decide +kernel)).trans rfl)))
theorem F_Shop_not_is_loose {x0 x1 x2 : V} : (F_Shop x0 x1 x2).lookup ("is_loose" : Str) = none := ((lk_past (by decide +kernel)).trans ((lk_past (by decide +kernel)).trans ((lk_past (by decide +kernel)).trans rfl)))
theorem F_Shop_not_loose_widths {x0 x1 x2 : V} : (F_Shop x0 x1 x2).lookup ("loose_widths" : Str) = none := ((lk_past (by decide +kernel)).trans ((lk_past (by decide +kernel)).trans ((lk_past (by decide +kernel)).trans rfl)))
theorem F_Shop_not_lay_stack {x0 x1 x2 : V} : (F_Shop x0 x1 x2).lookup ("lay_stack" : Str) = none := ((lk_past (by decide +kernel)).trans ((lk_past (by decide +kernel)).trans ((lk_past (by decide +kernel)).trans rfl)))
theorem F_Shop_not_take_stack {x0 x1 x2 : V} : (F_Shop x0 x1 x2).lookup ("take_stack" : Str) = none := ((lk_past (by decide +kernel)).trans ((lk_past (by decide +kernel)).trans ((lk_past (by decide +kernel)).trans rfl)))
theorem F_Shop_not_stacks_with_swapped {x0 x1 x2 : V} : (F_Shop x0 x1 x2).lookup ("stacks_with_swapped" : Str) = none := ((lk_past (by decide +kernel)).trans ((lk_past (by decide +kernel)).trans ((lk_past (by decide +kernel)).trans rfl)))
structure Txt (K : PySem.W.Frag) (mg : Str → Option Value) where
  Reader : CDef K mg "Reader"
  Reader_no_numbers : NoAttr K Reader.C "numbers"
  Reader_no_place : NoAttr K Reader.C "place"
  Sheet : CDef K mg "Sheet"
  Sheet_no_minus : NoAttr K Sheet.C "minus"
  Sheet_no_wide : NoAttr K Sheet.C "wide"
  Shop : CDef K mg "Shop"
  Shop_no_reach : NoAttr K Shop.C "reach"
  Shop_no_sheets : NoAttr K Shop.C "sheets"
  Shop_no_stacks : NoAttr K Shop.C "stacks"
  call_loose : GDef K mg "call_loose" "call_loose" s_call_loose ["shop", "given"]
  call_stack : GDef K mg "call_stack" "call_stack" s_call_stack ["shop", "given"]
  call_height : GDef K mg "call_height" "call_height" s_call_height ["shop", "given"]
  call_sheet : GDef K mg "call_sheet" "call_sheet" s_call_sheet ["shop", "given"]
  call_state : GDef K mg "call_state" "call_state" s_call_state ["shop", "given"]
  call_press : GDef K mg "call_press" "call_press" s_call_press ["shop", "given"]
  call_take : GDef K mg "call_take" "call_take" s_call_take ["shop", "given"]
  call_swap : GDef K mg "call_swap" "call_swap" s_call_swap ["shop", "given"]
  Reader_init : IDef K Reader.C "Reader.__init__" s_Reader_init ["self", "numbers"]
  Reader_has_more : MDef K Reader.C "has_more" "Reader.has_more" s_Reader_has_more ["self"]
  Reader_read_number : MDef K Reader.C "read_number" "Reader.read_number" s_Reader_read_number ["self"]
  Reader_read_list : MDef K Reader.C "read_list" "Reader.read_list" s_Reader_read_list ["self"]
  Reader_read_given : MDef K Reader.C "read_given" "Reader.read_given" s_Reader_read_given ["self", "number"]
  is_width : GDef K mg "is_width" "is_width" s_is_width ["wide"]
  least_over : GDef K mg "least_over" "least_over" s_least_over ["plus_width", "reach"]
  reaches_over : GDef K mg "reaches_over" "reaches_over" s_reaches_over ["minus_width", "plus_width", "reach"]
  can_be_stacked : GDef K mg "can_be_stacked" "can_be_stacked" s_can_be_stacked ["plus_widths", "minus_widths", "reach"]
  least_more : GDef K mg "least_more" "least_more" s_least_more ["plus_widths", "minus_widths", "reach"]
  most_stacks : GDef K mg "most_stacks" "most_stacks" s_most_stacks ["plus_widths", "minus_widths", "k", "reach"]
  can_be_laid : GDef K mg "can_be_laid" "can_be_laid" s_can_be_laid ["plus_widths", "minus_widths", "k", "count", "reach"]
  least_minus_widths : GDef K mg "least_minus_widths" "least_minus_widths" s_least_minus_widths ["plus_widths", "k", "reach"]
  call_start : GDef K mg "call_start" "call_start" s_call_start ["shop", "given"]
  call_plus : GDef K mg "call_plus" "call_plus" s_call_plus ["shop", "given"]
  call_minus : GDef K mg "call_minus" "call_minus" s_call_minus ["shop", "given"]
  lay_one : GDef K mg "lay_one" "lay_one" s_lay_one ["shop", "minus", "wide"]
  call_trim : GDef K mg "call_trim" "call_trim" s_call_trim ["shop", "given"]
  call_fit : GDef K mg "call_fit" "call_fit" s_call_fit ["shop", "given"]
  call_over : GDef K mg "call_over" "call_over" s_call_over ["shop", "given"]
  call_under : GDef K mg "call_under" "call_under" s_call_under ["shop", "given"]
  fitting_to : GDef K mg "fitting_to" "fitting_to" s_fitting_to ["shop", "minus", "i"]
  Sheet_init : IDef K Sheet.C "Sheet.__init__" s_Sheet_init ["self", "minus", "wide"]
  Shop_init : IDef K Shop.C "Shop.__init__" s_Shop_init ["self"]
  Shop_begin : MDef K Shop.C "begin" "Shop.begin" s_Shop_begin ["self", "reach"]
  Shop_has_begun : MDef K Shop.C "has_begun" "Shop.has_begun" s_Shop_has_begun ["self"]
  Shop_has_sheet : MDef K Shop.C "has_sheet" "Shop.has_sheet" s_Shop_has_sheet ["self", "i"]
  Shop_has_stack : MDef K Shop.C "has_stack" "Shop.has_stack" s_Shop_has_stack ["self", "number"]
  Shop_is_full : MDef K Shop.C "is_full" "Shop.is_full" s_Shop_is_full ["self"]
  Shop_lay_sheet : MDef K Shop.C "lay_sheet" "Shop.lay_sheet" s_Shop_lay_sheet ["self", "minus", "wide"]
  Shop_fits : MDef K Shop.C "fits" "Shop.fits" s_Shop_fits ["self", "i", "j"]
  Shop_fitting : MDef K Shop.C "fitting" "Shop.fitting" s_Shop_fitting ["self", "i"]
  Shop_are_sheets : MDef K Shop.C "are_sheets" "Shop.are_sheets" s_Shop_are_sheets ["self", "listed"]
  Shop_is_stack : MDef K Shop.C "is_stack" "Shop.is_stack" s_Shop_is_stack ["self", "listed"]
  Shop_stack_of : MDef K Shop.C "stack_of" "Shop.stack_of" s_Shop_stack_of ["self", "i"]
  Shop_is_loose : MDef K Shop.C "is_loose" "Shop.is_loose" s_Shop_is_loose ["self", "i"]
  Shop_loose_widths : MDef K Shop.C "loose_widths" "Shop.loose_widths" s_Shop_loose_widths ["self", "minus"]
  Shop_lay_stack : MDef K Shop.C "lay_stack" "Shop.lay_stack" s_Shop_lay_stack ["self", "listed"]
  Shop_take_stack : MDef K Shop.C "take_stack" "Shop.take_stack" s_Shop_take_stack ["self", "number"]
  Shop_stacks_with_swapped : MDef K Shop.C "stacks_with_swapped" "Shop.stacks_with_swapped" s_Shop_stacks_with_swapped ["self", "i", "j"]
  is_size_of_stack : GDef K mg "is_size_of_stack" "is_size_of_stack" s_is_size_of_stack ["count"]
  call_order : GDef K mg "call_order" "call_order" s_call_order ["shop", "given"]
  first_order : GDef K mg "first_order" "first_order" s_first_order ["shop", "listed"]
  one_higher : GDef K mg "one_higher" "one_higher" s_one_higher ["shop", "begun", "listed"]
  call_could : GDef K mg "call_could" "call_could" s_call_could ["shop", "given"]
  call_need : GDef K mg "call_need" "call_need" s_call_need ["shop", "given"]
  are_widths : GDef K mg "are_widths" "are_widths" s_are_widths ["plus_widths", "minus_widths"]
  call_check : GDef K mg "call_check" "call_check" s_call_check ["shop", "given"]
  call_most : GDef K mg "call_most" "call_most" s_call_most ["shop", "given"]
  answers : GDef K mg "answers" "answers" s_answers ["calls"]
  answer_call : GDef K mg "answer_call" "answer_call" s_answer_call ["shop", "handlers", "number", "given"]
  handlers_by_number : GDef K mg "handlers_by_number" "handlers_by_number" s_handlers_by_number []
  NO_SUCH : IntC mg "NO_SUCH" (-2)
  BOTH_LOOSE : IntC mg "BOTH_LOOSE" (-6)
  NOT_STARTED : IntC mg "NOT_STARTED" (-11)
  WRONG_SIGN : IntC mg "WRONG_SIGN" (-13)
  STACK_FORBIDS : IntC mg "STACK_FORBIDS" (-16)
  IN_A_STACK : IntC mg "IN_A_STACK" (-17)
  WRONG_VALUE : IntC mg "WRONG_VALUE" (-22)
  FULL : IntC mg "FULL" (-28)
  NO_WAY : IntC mg "NO_WAY" (-33)
  SINGLES : TupC K mg "SINGLES" [1, 1, 1, 2, 2, 1, 1, 0, 0, 0, 0, 1, 2, 1, 0, 1, 1, 1, 0, 0]
  LISTS : TupC K mg "LISTS" [0, 0, 0, 0, 0, 0, 0, 1, 2, 2, 1, 0, 0, 0, 0, 0, 0, 0, 1, 0]
  WIDEST : IntC mg "WIDEST" (1000)
  MOST_REACH : IntC mg "MOST_REACH" (100)
  MOST_SHEETS : IntC mg "MOST_SHEETS" (14)
  LEAST_IN_STACK : IntC mg "LEAST_IN_STACK" (3)
  MOST_PLUS_WIDTHS : IntC mg "MOST_PLUS_WIDTHS" (7)
  MOST_MINUS_WIDTHS : IntC mg "MOST_MINUS_WIDTHS" (8)
  MOST_PLUS_IN_EACH : IntC mg "MOST_PLUS_IN_EACH" (3)
  START : IntC mg "START" (0)
  b_all : mg "all" = none
  b_enumerate : mg "enumerate" = none
  b_int : mg "int" = none
  b_len : mg "len" = none
  b_list : mg "list" = none
  b_max : mg "max" = none
  b_min : mg "min" = none
  b_range : mg "range" = none
  b_set : mg "set" = none
  b_sorted : mg "sorted" = none
  b_zip : mg "zip" = none
section
variable {P : Program} {w : World} {K : PySem.W.Frag} {mg : Str → Option Value} {base : Heap}
/-! ### words that many defs use -/
theorem same_upd {H : Hp} {p : Addr} {o : HO} (h : H p = none) : Same H (upd H p o) := fun b x e => by
  rw [upd_ne (ne_of_none e h)]
  exact e
theorem ifb {b : Bool} {A B : Prop} (h1 : b = true → A) (h2 : b = false → B) : if b = true then A else B := by
  cases b with
  | true => exact iteT (h1 rfl)
  | false => exact iteF (h2 rfl)
theorem if_t {b : Bool} {A B : Prop} (e : b = true) (h : A) : if b = true then A else B := by
  rw [if_pos e]
  exact h
theorem if_f {b : Bool} {A B : Prop} (e : b = false) (h : B) : if b = true then A else B := by
  rw [e, if_neg Bool.false_ne_true]
  exact h
theorem sz64 {n : Nat} (h : n ≤ 100000) : n < sizeLine := Nat.lt_of_le_of_lt h (by decide)
/-- an item of a list of ints -/
theorem map_at {α : Type} {g : α → V} {ns : List α} {i : Nat} {y : V} (h : (ns.map g)[i]? = some y) : ∃ z, ns[i]? = some z ∧ y = g z := by
  rw [List.getElem?_map] at h
  cases e : ns[i]? with
  | none =>
    rw [e] at h
    cases h
  | some z =>
    rw [e] at h
    exact ⟨z, rfl, (Option.some.inj h).symm⟩
theorem at_map {α : Type} {g : α → V} {ns : List α} {i : Nat} {z : α} (h : ns[i]? = some z) : (ns.map g)[i]? = some (g z) := by
  rw [List.getElem?_map, h]
  rfl
theorem atI_map {α : Type} {g : α → V} {ns : List α} {i : Nat} {z : α} (h : ns[i]? = some z) : atI (ns.map g) (i : Int) = some (g z) := atI_nat (at_map h)
theorem take_snoc {α : Type} {l : List α} {i : Nat} {x : α} (h : l[i]? = some x) : l.take (i + 1) = l.take i ++ [x] := by
  rw [List.take_add_one, h]
  rfl
/-! ### len(set(xs)), any ints -/
def dedup (ns : List Int) : List Int := PyProof.Rows.firstMet (fun i => ns.getD i 0) ns.length
def tLenSetA (K : PySem.W.Frag) (ta : TE) : TE := fun σ H Q => ta σ H fun x H1 => ∃ (l : Addr) (ns : List Int), x = .ref l ∧ SqL K H1 l (ns.map V.int) ∧ ns.length ≤ 4000 ∧ Q (.int ((dedup ns).length : Nat)) H1
theorem pe_lenSetA {X : Cx} {a : Expr} {ta : TE} {p p2 q pos : Pos} (hg : Gl X "len") (hm : X.mg "len" = none) (hg2 : Gl X "set") (hm2 : X.mg "set" = none) (ha : PE X a ta) (hc : X.calm = true := by rfl)
    (na : starEach [a] X.env = (false, eval a X.env) :: starEach [] X.env := by rfl) : PE X (.Call (.Name "len" p) [.Call (.Name "set" p2) [a] [] q] [] pos) (tLenSetA X.K ta) := by
  refine ⟨fun pins s σ H Q I want => Call_ (ld_blt I hg hm PySem.boot_len (callWith_builtin1 (args_cons (Call_ (ld_blt I hg2 hm2 boot_set (callWith_type1 (args_cons (thn (ha.run pins s σ H _ I want) ?_) na) na rfl))) rfl) rfl rfl))⟩
  rintro v s1 ⟨x, H1, I1, rel, l, ns, rfl, here, few, fin⟩
  cases rel
  refine args_nil ?_
  obtain ⟨its, vals, plain, _⟩ := I1.list here
  have size : its.toArray.size = ns.length := by
    rw [List.size_toArray, ← vals.length, List.length_map]
  refine call_set_list (I1.ok.hd hc) plain.isList (ns := ns) (by simpa using vals.ints) (by rw [size]; unfold scanBound; omega) fun h2 tk made keep => args_nil ?_
  rw [size] at made
  have fewer : (dedup ns).length ≤ ns.length := firstMet_length_le _ _
  obtain ⟨ob, es, ep, t, there, exact_, data, _, _, _, free, count⟩ := made
  have I2 : Inv X pins σ H1 { s1 with heap := h2, toks := tk } := I1.kept fun b o e => keep b o (Heap.lt_size e) e
  refine call_len_set there exact_ data free ?_ ⟨.int (dedup ns).length, H1, I2.tok _, ⟨_, by rw [count]; rfl⟩, fin⟩
  rw [count]
  have e : (firstMet (fun i => ns.getD i 0) ns.length).length = (dedup ns).length := rfl
  omega
end
section
variable {P : Program} {w : World} {K : PySem.W.Frag} {mg : Str → Option Value} {base : Heap}
/-! ### widths -/
def sp_is_width : Sp := fun vs H Q _ => ∃ z : Int, vs = [.int z] ∧ Q (.bl (decide (1 ≤ z) && decide (z ≤ 1000))) H
theorem ok_is_width (T : Txt K mg) : FnOk P w K mg base CX0 1 T.is_width.f T.is_width.fd ["wide"] sp_is_width := by
  refine T.is_width.F.ok sc_is_width (fun vs H Q E h => ?_) (fun cdv A outer s H vs Q E hr h => ?_)
  · obtain ⟨z, rfl, _⟩ := h
    rfl
  · obtain ⟨z, rfl, k⟩ := h
    refine ⟨_, (pss_one (ps_ret (pe_chain op_le op_le pe_int (pv 0) (pe_glob (v := V.int (1000)) rfl T.WIDEST.g ⟨_, rfl⟩)))), ?_⟩
    refine ⟨_, rfl, _, _, rfl, rfl, _, rfl, ifb (fun e => ?_) (fun e => ?_)⟩
    · rw [e] at k
      exact ⟨_, _, rfl, rfl, k⟩
    · rw [e] at k
      exact k
def sp_least_over : Sp := fun vs H Q _ => ∃ p r : Int, vs = [.int p, .int r] ∧ Q (.int (p + 2 * r)) H
theorem ok_least_over (T : Txt K mg) : FnOk P w K mg base CX0 1 T.least_over.f T.least_over.fd ["plus_width", "reach"] sp_least_over := by
  refine T.least_over.F.ok sc_least_over (fun vs H Q E h => ?_) (fun cdv A outer s H vs Q E hr h => ?_)
  · obtain ⟨p, r, rfl, _⟩ := h
    rfl
  · obtain ⟨p, r, rfl, k⟩ := h
    refine ⟨_, (pss_one (ps_ret (pe_op op_add (pv 0) (pe_op op_mul pe_int (pv 1))))), ?_⟩
    exact ⟨_, rfl, _, rfl, _, _, rfl, rfl, .inl ⟨by decide, by decide⟩, _, _, rfl, rfl, k⟩
def sp_reaches_over : Sp := fun vs H Q _ => ∃ m p r : Int, vs = [.int m, .int p, .int r] ∧ Q (.bl (decide (p + 2 * r ≤ m))) H
theorem ok_reaches_over (T : Txt K mg) : FnOk P w K mg base CX0 2 T.reaches_over.f T.reaches_over.fd ["minus_width", "plus_width", "reach"] sp_reaches_over := by
  refine T.reaches_over.F.ok sc_reaches_over (fun vs H Q E h => ?_) (fun cdv A outer s H vs Q E hr h => ?_)
  · obtain ⟨m, p, r, rfl, _⟩ := h
    rfl
  · obtain ⟨m, p, r, rfl, k⟩ := h
    refine ⟨_, (pss_one (ps_ret (pe_cmpR op_ge (pv 0) (pe_call (ok_least_over T) (hr.mono (by decide)) rfl T.least_over.g T.least_over.F.kp T.least_over.b .nil pass0 (pa_cons (pv 1) (pa_cons (pv 2) pa_nil))) (nomark _)))), ?_⟩
    exact ⟨_, rfl, _, rfl, _, rfl, _, _, rfl, _, _, rfl, rfl, k⟩
def ltA : List Int → Nat := List.length
end
section
variable {P : Program} {w : World} {K : PySem.W.Frag} {mg : Str → Option Value} {base : Heap}
/-- a list of whole numbers from 0 up stands at a -/
abbrev NatsAt (K : PySem.W.Frag) (H : Hp) (a : Addr) (l : List Nat) : Prop := SqL K H a ((nints l).map V.int)
theorem srt_of {s : List Int} {l : List Nat} (h1 : s.Perm (nints l)) (h2 : s.Pairwise (· ≤ ·)) : Srt s l := ⟨h1, h2⟩
theorem could_short {p m : List Nat} {r : Nat} (h : ¬ (1 ≤ p.length ∧ m.length = p.length + 1)) : Kqb2.could r p m = false := by
  cases c : Kqb2.could r p m with
  | false => rfl
  | true => exact absurd (could_lens c) h
def sp_can (K : PySem.W.Frag) : Sp := fun vs H Q _ => ∃ (a b : Addr) (p m : List Nat) (r : Nat), vs = [.ref a, .ref b, .int r] ∧ NatsAt K H a p ∧ NatsAt K H b m ∧ p.length < 64 ∧ m.length < 64 ∧
  ∀ H', Same H H' → Q (.bl (Kqb2.could r p m)) H'
theorem ok_can_be_stacked (T : Txt K mg) : FnOk P w K mg base CX0 3 T.can_be_stacked.f T.can_be_stacked.fd ["plus_widths", "minus_widths", "reach"] (sp_can K) := by
  refine T.can_be_stacked.F.ok sc_can_be_stacked (fun vs H Q E h => ?_) (fun cdv A outer s H vs Q E hr h => ?_)
  · obtain ⟨a, b, p, m, r, rfl, _⟩ := h
    rfl
  · obtain ⟨a, b, p, m, r, rfl, hp, hm, lp, lm, k⟩ := h
    refine ⟨_, (pss_cons (ps_if (PW.pt (pw_or (pt_not (pt_truth (pv 0) (by intro _; rfl))) (pw_or1 (pt_cmpR op_ne (pe_callB call_len_seq (by rfl) T.b_len PySem.boot_len (pa_cons (pv 1) pa_nil)) (pe_op op_add (pe_callB call_len_seq (by rfl) T.b_len PySem.boot_len (pa_cons (pv 0) pa_nil)) pe_int) (nomark _)))))
          (pss_one (ps_ret pe_bl))
          pss_nil)
          (pss_cons (ps_for PassesOwn.never rfl (pi_zip (by rfl) T.b_zip (pa_cons (pe_callB cr_sorted (by rfl) T.b_sorted (by decide +kernel) (pa_cons (pv 0) pa_nil)) (pa_cons (pe_callB cr_sorted (by rfl) T.b_sorted (by decide +kernel) (pa_cons (pv 1) pa_nil)) pa_nil))) (pg_tup rfl (pgs_cons (pg_name (i := 3) sc_can_be_stacked.nd rfl (Or.inl rfl)) (pgs_cons (pg_name (i := 4) sc_can_be_stacked.nd rfl (Or.inl rfl)) pgs_nil)))
          (pss_one (ps_if (pt_not (pt_val (pe_call (ok_reaches_over T) (hr.mono (by decide)) rfl T.reaches_over.g T.reaches_over.F.kp T.reaches_over.b .nil pass0 (pa_cons (pv 4) (pa_cons (pv 3) (pa_cons (pv 2) pa_nil))))))
            (pss_one (ps_ret pe_bl))
            pss_nil)))
          (pss_one (ps_ret pe_bl)))), ?_⟩
    refine ⟨_, rfl, _, .inl ⟨_, hp, rfl⟩, ?_⟩
    refine ifb (fun e => iteT ?_) (fun e => ?_)
    · show Q (.bl false) H
      have c : Kqb2.could r p m = false := could_short (by
        cases p with
        | nil => intro q; exact absurd q.1 (by decide)
        | cons x l => exact absurd e (by simp))
      rw [← c]
      exact k H (Same.refl H)
    · have lp1 : 1 ≤ p.length := by
        cases p with
        | nil => exact absurd e (by simp)
        | cons x l => rw [List.length_cons]; omega
      refine ⟨_, rfl, _, _, rfl, .inl hm, _, rfl, _, _, rfl, .inl hp, _, _, rfl, rfl, rfl, _, rfl, ifb (fun e2 => ?_) (fun e2 => ?_)⟩
      · show Q (.bl false) H
        have c : Kqb2.could r p m = false := could_short (by
          rintro ⟨_, q⟩
          simp [q] at e2)
        rw [← c]
        exact k H (Same.refl H)
      · have lpm : m.length = p.length + 1 := by
          have := of_decide_eq_true (Bool.not_eq_false' .. ▸ e2 : decide _ = true)
          simp at this
          omega
        refine ⟨_, rfl, a, nints p, rfl, hp, (by rw [List.length_map]; exact lp), fun sp q1 pp po n1 => ?_⟩
        have s1 : Same H (upd H q1 (.lst (sp.map V.int))) := same_upd n1
        refine ⟨_, rfl, b, nints m, rfl, s1.seq hm, (by rw [List.length_map]; exact lm), fun sm q2 mp mo n2 => ?_⟩
        have s2 : Same (upd H q1 (.lst (sp.map V.int))) (upd (upd H q1 (.lst (sp.map V.int))) q2 (.lst (sm.map V.int))) := same_upd n2
        have hsp : Srt sp p := srt_of pp po
        have hsm : Srt sm m := srt_of mp mo
        have l1 := hsp.length
        have l2 := hsm.length
        have n12 : q1 ≠ q2 := ne_of_none upd_same n2
        refine ⟨q1, q2, sp.map V.int, sm.map V.int, rfl, .inl (.inl (by rw [upd_ne n12]; exact upd_same)), .inl (.inl upd_same), ?_⟩
        refine for_it (walk_zip (K := K) (a := q1) (b := q2) (xs := sp.map V.int) (ys := sm.map V.int) (n := sp.length) (by simp only [List.length_map]; omega))
          (fun i σ H' => ∃ v3 v4, σ = [some (.ref a), some (.ref b), some (.int r), v3, v4] ∧ Same (upd (upd H q1 (.lst (sp.map V.int))) q2 (.lst (sm.map V.int))) H' ∧ ∀ j (h1 : j < sp.length) (h2 : j < sm.length), j < i → sp[j] + 2 * (r : Int) ≤ sm[j])
          ⟨none, none, rfl, Same.refl _, fun j _ _ h => absurd h (Nat.not_lt_zero j)⟩ (fun i σ H' _ ⟨_, _, _, sm', _⟩ => ⟨.inl (.inl (sm' _ _ (by rw [upd_ne n12]; exact upd_same))), .inl (.inl (sm' _ _ upd_same))⟩) ?_ ?_
        · rintro i v σ H' H2 hi ⟨v3, v4, rfl, sm', hj⟩ ⟨t, x, y, rfl, nt, rfl, hx, hy⟩
          obtain ⟨zx, ex, rfl⟩ := map_at hx
          obtain ⟨zy, ey, rfl⟩ := map_at hy
          refine ⟨t, _, rfl, .inl (.inl upd_same), rfl, _, _, rfl, _, _, rfl, rfl, ?_⟩
          refine ⟨_, rfl, _, rfl, _, rfl, zy, zx, r, rfl, _, rfl, ifb (fun e3 => ?_) (fun e3 => ?_)⟩
          · show Q (.bl false) _
            have c : Kqb2.could r p m = false := by
              cases c : Kqb2.could r p m with
              | false => rfl
              | true =>
                have := ((could_iff hsp hsm).mp c).2 i (List.getElem?_eq_some_iff.mp ex).1 (List.getElem?_eq_some_iff.mp ey).1 (by have := (List.getElem?_eq_some_iff.mp ex).1; omega)
                rw [(List.getElem?_eq_some_iff.mp ex).2, (List.getElem?_eq_some_iff.mp ey).2] at this
                simp [this] at e3
            rw [← c]
            exact k _ (((s1.trans s2).trans sm').trans (same_upd nt))
          · refine ⟨_, _, rfl, sm'.trans (same_upd nt), fun j h1 h2 h3 => ?_⟩
            by_cases q : j = i
            · subst q
              have : zx + 2 * (r : Int) ≤ zy := by simpa using e3
              have e1 := (List.getElem?_eq_some_iff.mp ex).2
              have e2 := (List.getElem?_eq_some_iff.mp ey).2
              rw [e1, e2]
              exact this
            · exact hj j h1 h2 (by omega)
        · rintro σ H' ⟨v3, v4, rfl, sm', hj⟩
          show Q (.bl true) H'
          have c : Kqb2.could r p m = true := (could_iff hsp hsm).mpr ⟨⟨lp1, lpm⟩, fun i h1 h2 h3 => hj i h1 h2 h1⟩
          rw [← c]
          exact k _ ((s1.trans s2).trans sm')
end
section
variable {P : Program} {w : World} {K : PySem.W.Frag} {mg : Str → Option Value} {base : Heap}
/-- a list of one's own, of whole numbers from 0 up, stands at a -/
abbrev LstAt (H : Hp) (a : Addr) (l : List Nat) : Prop := H a = some (.lst ((nints l).map V.int))
theorem LstAt.nats {H : Hp} {a : Addr} {l : List Nat} (h : LstAt H a l) : NatsAt K H a l := .inl (.inl h)
/-- widths that may be asked of -/
def okW (p m : List Nat) : Bool := decide (p.length ≤ 7) && decide (m.length ≤ 8) && (p ++ m).all Kqb2.okWide
theorem okWide_int (n : Nat) : (decide (1 ≤ (n : Int)) && decide ((n : Int) ≤ 1000)) = Kqb2.okWide n := by
  unfold Kqb2.okWide
  have e1 : decide (1 ≤ (n : Int)) = decide (1 ≤ n) := by
    by_cases c : 1 ≤ n
    · rw [decide_eq_true c, decide_eq_true (by omega)]
    · rw [decide_eq_false c, decide_eq_false (by omega)]
  have e2 : decide ((n : Int) ≤ 1000) = decide (n ≤ 1000) := by
    by_cases c : n ≤ 1000
    · rw [decide_eq_true c, decide_eq_true (by omega)]
    · rw [decide_eq_false c, decide_eq_false (by omega)]
  rw [e1, e2]
theorem nints_append (p m : List Nat) : nints (p ++ m) = nints p ++ nints m := List.map_append ..
theorem at_nints {l : List Nat} {i : Nat} {y : V} (h : ((nints l).map V.int)[i]? = some y) : ∃ n : Nat, l[i]? = some n ∧ y = .int n := by
  obtain ⟨z, e, rfl⟩ := map_at h
  rw [List.getElem?_map] at e
  cases c : l[i]? with
  | none =>
    rw [c] at e
    cases e
  | some n =>
    rw [c] at e
    exact ⟨n, rfl, by rw [← Option.some.inj e]⟩
theorem yes_k {X Y : Hp → Prop} {σ : L2.St} {H : Hp} (h : X H) : tYes σ H fun b H3 => if b = true then X H3 else Y H3 := iteT (A := X H) (B := Y H) h
def sp_are_widths : Sp := fun vs H Q _ => ∃ (a b : Addr) (p m : List Nat), vs = [.ref a, .ref b] ∧ LstAt H a p ∧ LstAt H b m ∧ p.length ≤ 60 ∧ m.length ≤ 60 ∧ ∀ H', Same H H' → Q (.bl (okW p m)) H'
theorem ok_are_widths (T : Txt K mg) : FnOk P w K mg base CX0 2 T.are_widths.f T.are_widths.fd ["plus_widths", "minus_widths"] sp_are_widths := by
  refine T.are_widths.F.ok sc_are_widths (fun vs H Q E h => ?_) (fun cdv A outer s H vs Q E hr h => ?_)
  · obtain ⟨a, b, p, m, rfl, _⟩ := h
    rfl
  · obtain ⟨a, b, p, m, rfl, hp, hm, lp, lm, k⟩ := h
    refine ⟨_, (pss_cons (ps_if (PW.pt (pw_or (pt_cmpR op_gt (pe_callB call_len_seq (by rfl) T.b_len PySem.boot_len (pa_cons (pv 0) pa_nil)) (pe_glob (v := V.int (7)) rfl T.MOST_PLUS_WIDTHS.g ⟨_, rfl⟩) (nomark _)) (pw_or1 (pt_cmpR op_gt (pe_callB call_len_seq (by rfl) T.b_len PySem.boot_len (pa_cons (pv 1) pa_nil)) (pe_glob (v := V.int (8)) rfl T.MOST_MINUS_WIDTHS.g ⟨_, rfl⟩) (nomark _)))))
          (pss_one (ps_ret pe_bl))
          pss_nil)
          (pss_one (ps_ret (pe_callB (cr_all rfl) (by rfl) T.b_all (by decide +kernel) (pa_cons (pe_lc (own := [("wide", 2)]) (g := gName 2) (tt := tYes) rfl sc_are_widths.nd (pi_list (pe_op op_cat (pv 0) (pv 1))) (blkOk_by (own := [("wide", 2)]) (N := N_are_widths) (sc := defScope s_are_widths) (by decide +kernel)) (fun _ _ _ _ _ => pg_name (i := 2) sc_are_widths.nd rfl (Or.inl rfl)) (fun _ _ _ _ _ => pts_nil) (fun _ _ _ _ _ => (pe_call (ok_is_width T) (hr.mono (by decide)) rfl T.is_width.g T.is_width.F.kp T.is_width.b .nil pass0 (pa_cons (pv 2) pa_nil)))) pa_nil))))), ?_⟩
    have l1 : ((nints p).map V.int).length = p.length := by rw [List.length_map, List.length_map]
    have l2 : ((nints m).map V.int).length = m.length := by rw [List.length_map, List.length_map]
    refine ⟨_, rfl, _, _, rfl, .inl (.inl (.inl hp)), _, _, rfl, rfl, _, rfl, ifb (fun e => iteT ?_) (fun e => ?_)⟩
    · show Q (.bl false) H
      have e' : ¬ p.length ≤ 7 := by
        have := of_decide_eq_true e
        rw [l1] at this
        omega
      have c : okW p m = false := by
        unfold okW
        rw [decide_eq_false e']
        rfl
      rw [← c]
      exact k H (Same.refl H)
    have e' : p.length ≤ 7 := by
      have := of_decide_eq_false e
      rw [l1] at this
      omega
    refine ⟨_, rfl, _, _, rfl, .inl (.inl (.inl hm)), _, _, rfl, rfl, _, rfl, ifb (fun e2 => ?_) (fun e2 => ?_)⟩
    · show Q (.bl false) H
      have e3 : ¬ m.length ≤ 8 := by
        have := of_decide_eq_true e2
        rw [l2] at this
        omega
      have c : okW p m = false := by
        unfold okW
        rw [decide_eq_true e', decide_eq_false e3]
        rfl
      rw [← c]
      exact k H (Same.refl H)
    have e3 : m.length ≤ 8 := by
      have := of_decide_eq_false e2
      rw [l2] at this
      omega
    refine ⟨_, rfl, _, rfl, _, _, _, _, rfl, rfl, hp, hm, (by rw [l1, l2]; exact Nat.le_trans (show p.length + m.length ≤ 100000 by omega) (by decide)), fun q nq => ?_⟩
    rw [← List.map_append, ← nints_append]
    have s1 : Same H (upd H q (.lst ((nints (p ++ m)).map V.int))) := same_upd nq
    refine ⟨q, rfl, ⟨_, .inl (.inl upd_same)⟩, fun D nD => ?_⟩
    have nqD : q ≠ D := ne_of_none upd_same nD
    refine lc_list (K := K) (a := q) (xs := (nints (p ++ m)).map V.int)
      (fun i H' => Same (upd H q (.lst ((nints (p ++ m)).map V.int))) H' ∧ H' D = some (.lst ((((p ++ m).take i).map Kqb2.okWide).map V.bl)))
      ⟨same_upd nD, upd_same⟩ (fun i H' _ ⟨s', _⟩ => .inl (.inl (s' _ _ upd_same))) ?_ ?_
    · rintro i x H' hx ⟨s', hD⟩
      obtain ⟨n, en, rfl⟩ := at_nints hx
      refine ⟨rfl, yes_k ⟨_, rfl, n, rfl, ?_⟩⟩
      refine ⟨_, hD, sz64 (by rw [List.length_map, List.length_map, List.length_take, List.length_append]; omega), fun b' o' e4 => ?_, ?_⟩
      · by_cases c : b' = D
        · subst c
          rw [e4] at nD
          cases nD
        · rw [upd_ne c]
          exact s' _ _ e4
      · rw [upd_same, take_snoc en, List.map_append, List.map_append, okWide_int]
        rfl
    · rintro H' ⟨s', hD⟩
      rw [List.length_map, List.length_map, List.take_length] at hD
      refine ⟨D, _, rfl, .inl (.inl hD), ?_⟩
      have c : okW p m = (((p ++ m).map Kqb2.okWide).all id) := by
        unfold okW
        rw [decide_eq_true e', decide_eq_true e3, List.all_map]
        rfl
      rw [← c]
      exact k _ (s1.trans s')
end
section
variable {P : Program} {w : World} {K : PySem.W.Frag} {mg : Str → Option Value} {base : Heap}
def optV : Option Nat → V
  | none => .non
  | some n => .int n
theorem LstAt.ne {H : Hp} {a b : Addr} {l : List Nat} (h : LstAt H a l) (n : H b = none) : a ≠ b := ne_of_none h n
theorem LstAt.same {H H' : Hp} {a : Addr} {l : List Nat} (s : Same H H') (h : LstAt H a l) : LstAt H' a l := s _ _ h
theorem nints_length (l : List Nat) : ((nints l).map V.int).length = l.length := by rw [List.length_map, List.length_map]
theorem srt_nat {sp : List Int} {p : List Nat} (hp : Srt sp p) {z : Int} (h : z ∈ sp) : ∃ n : Nat, (n : Int) = z := by
  obtain ⟨n, _, e⟩ := List.mem_map.mp (hp.perm.mem_iff.mp h)
  exact ⟨n, e⟩
def sp_least_more : Sp := fun vs H Q _ => ∃ (a b : Addr) (p m : List Nat) (r : Nat), vs = [.ref a, .ref b, .int r] ∧ LstAt H a p ∧ LstAt H b m ∧ p.length ≤ 60 ∧ m.length ≤ 60 ∧ ∀ H', Same H H' → Q (optV (Kqb2.need r p m)) H'
theorem ok_least_more (T : Txt K mg) : FnOk P w K mg base CX0 4 T.least_more.f T.least_more.fd ["plus_widths", "minus_widths", "reach"] sp_least_more := by
  refine T.least_more.F.ok sc_least_more (fun vs H Q E h => ?_) (fun cdv A outer s H vs Q E hr h => ?_)
  · obtain ⟨a, b, p, m, r, rfl, _⟩ := h
    rfl
  · obtain ⟨a, b, p, m, r, rfl, hp, hm, lp, lm, k⟩ := h
    refine ⟨_, (pss_cons (ps_for PassesOwn.never rfl (pi_list (pe_callB cr_sorted (by rfl) T.b_sorted (by decide +kernel) (pa_cons (pv 0) pa_nil))) (pg_name (i := 3) sc_least_more.nd rfl (Or.inl rfl))
          (pss_cons (ps_set (i := 4) sc_least_more.nd rfl (Or.inl rfl) (pe_call (ok_least_over T) (hr.mono (by decide)) rfl T.least_over.g T.least_over.F.kp T.least_over.b .nil pass0 (pa_cons (pv 3) (pa_cons (pv 2) pa_nil))))
            (pss_one (ps_if (pt_val (pe_call (ok_can_be_stacked T) (hr.mono (by decide)) rfl T.can_be_stacked.g T.can_be_stacked.F.kp T.can_be_stacked.b .nil pass0 (pa_cons (pv 0) (pa_cons (pe_op op_cat (pv 1) (pe_lst (pa_cons (pv 4) pa_nil))) (pa_cons (pv 2) pa_nil)))))
            (pss_one (ps_ret (pv 4)))
            pss_nil))))
          (pss_one (ps_ret pe_non))), ?_⟩
    refine ⟨_, rfl, a, nints p, rfl, .inl (.inl hp), (by rw [List.length_map]; omega), fun sp q pp po nq => ?_⟩
    have hsp : Srt sp p := srt_of pp po
    have s1 : Same H (upd H q (.lst (sp.map V.int))) := same_upd nq
    refine ⟨q, rfl, ⟨_, .inl (.inl upd_same)⟩, for_list (K := K) (a := q) (xs := sp.map V.int)
      (fun i σ H' => ∃ v3 v4, σ = [some (.ref a), some (.ref b), some (.int r), v3, v4] ∧ Same (upd H q (.lst (sp.map V.int))) H' ∧ ∀ j (_ : j < i) (h2 : j < sp.length) (u : Nat), sp[j] = (u : Int) → ¬ Kqb2.could r p ((u + 2 * r) :: m) = true)
      ⟨none, none, rfl, Same.refl _, fun j h => absurd h (Nat.not_lt_zero j)⟩ (fun i σ H' _ ⟨_, _, _, s', _⟩ => .inl (.inl (s' _ _ upd_same))) ?_ ?_⟩
    · rintro i x σ H' hx ⟨v3, v4, rfl, s', hj⟩
      obtain ⟨z, ez, rfl⟩ := map_at hx
      obtain ⟨hi, ei⟩ := List.getElem?_eq_some_iff.mp ez
      obtain ⟨t, rfl⟩ := srt_nat hsp (ei ▸ List.getElem_mem hi)
      have s0 := s1.trans s'
      refine ⟨_, rfl, _, rfl, t, r, rfl, ?_⟩
      refine ⟨_, rfl, _, rfl, _, rfl, (by show 1 ≤ sizeLine; decide), fun l hl => ?_⟩
      have s2 : Same H' (upd H' l (.lst [.int ((t : Int) + 2 * r)])) := same_upd hl
      refine ⟨b, l, _, _, rfl, rfl, (hm.same (s0.trans s2)), upd_same, (by rw [nints_length]; exact Nat.le_trans (show m.length + 1 ≤ 100000 by omega) (by decide)), fun ml hml => ?_⟩
      have s3 : Same (upd H' l (.lst [.int ((t : Int) + 2 * r)])) (upd (upd H' l (.lst [.int ((t : Int) + 2 * r)])) ml (.lst (((nints m).map V.int) ++ [.int ((t : Int) + 2 * r)]))) := same_upd hml
      have em : ((nints m).map V.int) ++ [.int ((t : Int) + 2 * r)] = (nints (m ++ [t + 2 * r])).map V.int := by
        rw [nints_append, List.map_append]
        show _ ++ [V.int _] = _ ++ [V.int ((t + 2 * r : Nat) : Int)]
        have : ((t + 2 * r : Nat) : Int) = (t : Int) + 2 * r := by omega
        rw [this]
      rw [em] at s3 ⊢
      refine ⟨_, rfl, ?_⟩
      have sH := (s0.trans s2).trans s3
      refine ⟨a, ml, p, m ++ [t + 2 * r], r, rfl, (hp.same sH).nats, (LstAt.nats upd_same), by omega, (by rw [List.length_append]; show m.length + 1 < 64; omega), fun H4 s4 => ?_⟩
      have ec : Kqb2.could r p (m ++ [t + 2 * r]) = Kqb2.could r p ((t + 2 * r) :: m) := could_perm (List.perm_append_comm (l₁ := m) (l₂ := [t + 2 * r]))
      rw [ec]
      by_cases c : Kqb2.could r p ((t + 2 * r) :: m) = true
      · refine ⟨_, rfl, if_t c ⟨_, rfl, ?_⟩⟩
        show Q (.int ((t : Int) + 2 * r)) H4
        by_cases cl : m.length = p.length
        · have e := need_some hsp cl hi ei c (fun j h1 h2 u e => hj j h1 h2 u e)
          have := k H4 (sH.trans s4)
          rw [e] at this
          have e2 : optV (some (t + 2 * r)) = .int ((t : Int) + 2 * r) := by
            show V.int ((t + 2 * r : Nat) : Int) = _
            congr 1
          rw [e2] at this
          exact this
        · have := (could_lens c).2
          rw [List.length_cons] at this
          omega
      · refine ⟨_, rfl, if_f (Bool.eq_false_iff.mpr c) ?_⟩
        refine ⟨_, _, rfl, s'.trans ((s2.trans s3).trans s4), fun j h1 h2 u e => ?_⟩
        by_cases q1 : j = i
        · subst q1
          have : u = t := by
            rw [ei] at e
            omega
          rw [this]
          exact c
        · exact hj j (by omega) h2 u e
    · rintro σ H' ⟨v3, v4, rfl, s', hj⟩
      show Q .non H'
      have e : Kqb2.need r p m = none := need_none hsp (fun j h2 u e => hj j (by rw [List.length_map]; exact h2) h2 u e)
      have := k H' (s1.trans s')
      rw [e] at this
      exact this
end
section
variable {P : Program} {w : World} {K : PySem.W.Frag} {mg : Str → Option Value} {base : Heap}
/-! ### the reader -/
/-- a Reader of the numbers at c, at place p, its dict at dx -/
abbrev rdO (T : Txt K mg) (dx c : Addr) (p : Nat) : HO := .ins T.Reader.C dx (F_Reader (.ref c) (.int p))
def sp_rd_init (T : Txt K mg) : Sp := fun vs H Q _ => ∃ (x dx c : Addr), vs = [.ref x, .ref c] ∧ H x = some (.ins T.Reader.C dx []) ∧ Q .non (upd H x (rdO T dx c 0))
theorem ok_Reader_init (T : Txt K mg) : FnOk P w K mg base CX0 1 T.Reader_init.f T.Reader_init.fd ["self", "numbers"] (sp_rd_init T) := by
  refine T.Reader_init.F.ok sc_Reader_init (fun vs H Q E h => ?_) (fun cdv A outer s H vs Q E hr h => ?_)
  · obtain ⟨x, dx, c, rfl, _⟩ := h
    rfl
  · obtain ⟨x, dx, c, rfl, hx, k⟩ := h
    refine ⟨_, (pss_cons (ps_fld (pv 0) (pv 1) rfl)
          (pss_one (ps_fld (pv 0) pe_int rfl))), ?_⟩
    refine ⟨_, rfl, _, rfl, x, _, dx, _, rfl, hx, T.Reader.cl, T.Reader_no_numbers, (by show 0 < 1000; decide), ?_⟩
    refine ⟨_, rfl, x, _, dx, _, rfl, upd_same, T.Reader.cl, T.Reader_no_place, (by show 1 < 1000; decide), ?_⟩
    rw [upd_upd]
    rw [show putF "place" (V.int 0) (putF "numbers" (V.ref c) []) = F_Reader (.ref c) (.int (0 : Nat)) from F_Reader_new_place (x0 := V.ref c) (x1 := V.int 0)]
    exact k
def sp_rd_has (T : Txt K mg) : Sp := fun vs H Q _ => ∃ (x dx c : Addr) (ns : List Int) (p : Nat), vs = [.ref x] ∧ H x = some (rdO T dx c p) ∧ SqL K H c (ns.map V.int) ∧ Q (.bl (decide (p < ns.length))) H
theorem ok_Reader_has_more (T : Txt K mg) : FnOk P w K mg base CX0 1 T.Reader_has_more.f T.Reader_has_more.fd ["self"] (sp_rd_has T) := by
  refine T.Reader_has_more.F.ok sc_Reader_has_more (fun vs H Q E h => ?_) (fun cdv A outer s H vs Q E hr h => ?_)
  · obtain ⟨x, dx, c, ns, p, rfl, _⟩ := h
    rfl
  · obtain ⟨x, dx, c, ns, p, rfl, hx, hc, k⟩ := h
    refine ⟨_, (pss_one (ps_ret (pe_cmpR op_lt (pe_fld (pv 0) rfl) (pe_callB call_len_seq (by rfl) T.b_len PySem.boot_len (pa_cons (pe_fld (pv 0) rfl) pa_nil)) (nomark _)))), ?_⟩
    refine ⟨_, rfl, x, _, dx, _, _, rfl, hx, T.Reader.cl, T.Reader_no_place, F_Reader_place, _, rfl, x, _, dx, _, _, rfl, hx, T.Reader.cl, T.Reader_no_numbers, F_Reader_numbers, _, _, rfl, .inl hc, _, _, rfl, rfl, ?_⟩
    have e : decide ((p : Int) < ((ns.map V.int).length : Int)) = decide (p < ns.length) := by
      rw [List.length_map]
      by_cases c : p < ns.length
      · rw [decide_eq_true c, decide_eq_true (by omega)]
      · rw [decide_eq_false c, decide_eq_false (by omega)]
    show Q (.bl (decide ((p : Int) < ((ns.map V.int).length : Int)))) H
    rw [e]
    exact k
def sp_rd_num (T : Txt K mg) : Sp := fun vs H Q _ => ∃ (x dx c : Addr) (ns : List Int) (p : Nat) (z : Int), vs = [.ref x] ∧ H x = some (rdO T dx c p) ∧ SqL K H c (ns.map V.int) ∧ ns[p]? = some z ∧ Q (.int z) (upd H x (rdO T dx c (p + 1)))
theorem ok_Reader_read_number (T : Txt K mg) : FnOk P w K mg base CX0 1 T.Reader_read_number.f T.Reader_read_number.fd ["self"] (sp_rd_num T) := by
  refine T.Reader_read_number.F.ok sc_Reader_read_number (fun vs H Q E h => ?_) (fun cdv A outer s H vs Q E hr h => ?_)
  · obtain ⟨x, dx, c, ns, p, z, rfl, _⟩ := h
    rfl
  · obtain ⟨x, dx, c, ns, p, z, rfl, hx, hc, hz, k⟩ := h
    refine ⟨_, (pss_cons (ps_set (i := 1) sc_Reader_read_number.nd rfl (Or.inl rfl) (pe_ix ix_list (pe_fld (pv 0) rfl) (pe_fld (pv 0) rfl) (fun _ _ => rfl)))
          (pss_cons (ps_fldaug (pv 0) pe_int in_add)
          (pss_one (ps_ret (pv 1))))), ?_⟩
    refine ⟨_, rfl, x, _, dx, _, _, rfl, hx, T.Reader.cl, T.Reader_no_numbers, F_Reader_numbers, _, rfl, x, _, dx, _, _, rfl, hx, T.Reader.cl, T.Reader_no_place, F_Reader_place, c, _, _, _, rfl, rfl, hc, atI_map hz, ?_⟩
    refine ⟨_, rfl, x, _, dx, _, _, rfl, hx, T.Reader.cl, T.Reader_no_place, F_Reader_place, _, _, rfl, rfl, dx, _, hx, (by show 2 < 1000; decide), ?_⟩
    rw [show putF "place" (V.int ((p : Int) + 1)) (F_Reader (V.ref c) (V.int p)) = F_Reader (.ref c) (.int ((p + 1 : Nat) : Int)) from F_Reader_put_place]
    exact ⟨_, rfl, k⟩
/-- a slice of a list of ints -/
theorem cut_ints {ns : List Int} {i j : Nat} (h : i ≤ j) (hj : j ≤ ns.length) : cutV (ns.map V.int) (some (i : Int)) (some (j : Int)) = (((ns.drop i).take (j - i)).map V.int) := by
  unfold cutV
  rw [HT.sIx_nat, HT.sIx_nat, List.length_map, Nat.min_eq_left hj, Nat.min_eq_left (Nat.le_trans h hj), ← List.map_drop, ← List.map_take]
theorem rd_ne {H : Hp} {c x C dx : Addr} {xs : List V} {fs : List (Str × V)} (h : Rd H c (.lst xs)) (hx : H x = some (.ins C dx fs)) : c ≠ x := by
  rcases h with h | ⟨o, h⟩
  · exact ne_of h hx (by intro q; cases q)
  · exact ne_of h hx (by intro q; cases q)
def sp_rd_list (T : Txt K mg) : Sp := fun vs H Q _ => ∃ (x dx c : Addr) (ns : List Int) (p n : Nat), vs = [.ref x] ∧ H x = some (rdO T dx c p) ∧ SqL K H c (ns.map V.int) ∧ ns[p]? = some (n : Int) ∧ p + 1 + n ≤ ns.length ∧
  ∀ q, H q = none → Q (.ref q) (upd (upd H x (rdO T dx c (p + 1 + n))) q (.lst (((ns.drop (p + 1)).take n).map V.int)))
theorem ok_Reader_read_list (T : Txt K mg) : FnOk P w K mg base CX0 2 T.Reader_read_list.f T.Reader_read_list.fd ["self"] (sp_rd_list T) := by
  refine T.Reader_read_list.F.ok sc_Reader_read_list (fun vs H Q E h => ?_) (fun cdv A outer s H vs Q E hr h => ?_)
  · obtain ⟨x, dx, c, ns, p, n, rfl, _⟩ := h
    rfl
  · obtain ⟨x, dx, c, ns, p, n, rfl, hx, hc, hz, hn, k⟩ := h
    refine ⟨_, (pss_cons (ps_set (i := 1) sc_Reader_read_list.nd rfl (Or.inl rfl) (pe_meth0 (pv 0) T.Reader.cl T.Reader_read_number.m (ok_Reader_read_number T) (hr.mono (by decide)) T.Reader_read_number.b .nil pass0))
          (pss_cons (ps_set (i := 2) sc_Reader_read_list.nd rfl (Or.inl rfl) (pe_fld (pv 0) rfl))
          (pss_cons (ps_fldaug (pv 0) (pv 1) in_add)
          (pss_one (ps_ret (pe_slice sl_list (pe_fld (pv 0) rfl) (po_some (pv 2)) (po_some (pe_fld (pv 0) rfl)))))))), ?_⟩
    have hc' : ∀ o, SqL K (upd H x o) c (ns.map V.int) := fun o => by
      rcases hc with hc | hc
      · have ncx := rd_ne hc hx
        refine .inl ?_
        unfold Rd
        rw [upd_ne ncx]
        exact hc
      · exact .inr hc
    refine ⟨_, rfl, x, dx, _, rfl, hx, F_Reader_not_read_number, x, dx, c, ns, p, n, rfl, hx, hc, hz, ?_⟩
    refine ⟨_, rfl, x, _, dx, _, _, rfl, upd_same, T.Reader.cl, T.Reader_no_place, F_Reader_place, ?_⟩
    refine ⟨_, rfl, x, _, dx, _, _, rfl, upd_same, T.Reader.cl, T.Reader_no_place, F_Reader_place, _, rfl, _, _, rfl, rfl, dx, _, upd_same, (by show 2 < 1000; decide), ?_⟩
    rw [upd_upd]
    rw [show putF "place" (V.int (((p + 1 : Nat) : Int) + (n : Int))) (F_Reader (V.ref c) (V.int ((p + 1 : Nat) : Int))) = F_Reader (.ref c) (.int ((p + 1 + n : Nat) : Int)) from F_Reader_put_place]
    refine ⟨_, rfl, x, _, dx, _, _, rfl, upd_same, T.Reader.cl, T.Reader_no_numbers, F_Reader_numbers, _, rfl, _, rfl, _, rfl, x, _, dx, _, _, rfl, upd_same, T.Reader.cl, T.Reader_no_place, F_Reader_place, _, rfl, c, _, rfl, hc' _, fun q nq => ?_⟩
    rw [cut_ints (by omega) hn, show p + 1 + n - (p + 1) = n by omega]
    refine k q ?_
    by_cases e : q = x
    · subst e
      rw [upd_same] at nq
      cases nq
    · rw [upd_ne e] at nq
      exact nq
end
section
variable {P : Program} {w : World} {K : PySem.W.Frag} {mg : Str → Option Value} {base : Heap}
/-- the numbers and the lists of a call, as they are handed to what answers it -/
def GivenAt (H0 H : Hp) (g : Addr) (xs : List Int) (rs : List (List Int)) : Prop :=
  ∃ as : List Addr, H g = some (.lst (xs.map V.int ++ as.map V.ref)) ∧ as.length = rs.length ∧ ∀ (i : Nat) (a : Addr) (r : List Int), as[i]? = some a → rs[i]? = some r → H a = some (.lst (r.map V.int)) ∧ H0 a = none
def SING : List Nat := [1, 1, 1, 2, 2, 1, 1, 0, 0, 0, 0, 1, 2, 1, 0, 1, 1, 1, 0, 0]
def LIST : List Nat := [0, 0, 0, 0, 0, 0, 0, 1, 2, 2, 1, 0, 0, 0, 0, 0, 0, 0, 1, 0]
theorem SING_le (k s : Nat) (h : SING[k]? = some s) : s ≤ 2 := by
  have : ∀ x ∈ SING, x ≤ 2 := by decide
  exact this s (List.mem_of_getElem? h)
theorem LIST_le (k s : Nat) (h : LIST[k]? = some s) : s ≤ 2 := by
  have : ∀ x ∈ LIST, x ≤ 2 := by decide
  exact this s (List.mem_of_getElem? h)
theorem rd_seq {T : Txt K mg} {H H' : Hp} {x dx c : Addr} {xs : List V} {p : Nat} (hx : H x = some (rdO T dx c p)) (k : ∀ b o, H b = some o → b ≠ x → H' b = some o) (h : SqL K H c xs) : SqL K H' c xs := by
  rcases h with h | h
  · have ncx := rd_ne h hx
    rcases h with h | ⟨o, h⟩
    · exact .inl (.inl (k _ _ h ncx))
    · exact .inl (.inr ⟨o, k _ _ h ncx⟩)
  · exact .inr h
def sp_rd_given (T : Txt K mg) : Sp := fun vs H Q _ => ∃ (x dx c : Addr) (ns : List Int) (p k s l : Nat) (rs : List (List Int)) (t : List Int), vs = [.ref x, .int k] ∧ H x = some (rdO T dx c p) ∧ SqL K H c (ns.map V.int) ∧
  SING[k]? = some s ∧ LIST[k]? = some l ∧ p + s ≤ ns.length ∧ PyFlat.rows l (ns.drop (p + s)) = some (rs, t) ∧
  ∀ (H' : Hp) (g : Addr), (∀ b o, H b = some o → b ≠ x → H' b = some o) → H' x = some (rdO T dx c (ns.length - t.length)) → H g = none → GivenAt H H' g ((ns.drop p).take s) rs → Q (.ref g) H'
theorem ok_Reader_read_given (T : Txt K mg) : FnOk P w K mg base CX0 3 T.Reader_read_given.f T.Reader_read_given.fd ["self", "number"] (sp_rd_given T) := by
  refine T.Reader_read_given.F.ok sc_Reader_read_given (fun vs H Q E h => ?_) (fun cdv A outer s H vs Q E hr h => ?_)
  · obtain ⟨x, dx, c, ns, p, k, s, l, rs, t, rfl, _⟩ := h
    rfl
  · obtain ⟨x, dx, c, ns, p, k, s, l, rs, t, rfl, hx, hc, hs, hl, hps, hrows, K0⟩ := h
    have s2 := SING_le k s hs
    have l2 := LIST_le k l hl
    refine ⟨_, (pss_cons (ps_set (i := 2) sc_Reader_read_given.nd rfl (Or.inl rfl) (pe_lst pa_nil))
          (pss_cons (ps_for PassesOwn.never rfl (pi_range1 rfl T.b_range (pa_cons (pe_ix ix_tup (pe_glob (v := V.ref T.SINGLES.a) rfl T.SINGLES.g rfl) (pv 1) (fun _ _ => rfl)) pa_nil)) (pg_name (i := 3) sc_Reader_read_given.nd rfl (Or.inl rfl))
          (pss_one (ps_expr (pe_bm PySem.F.plainAttrs_list PySem.F.slot_list_append PySem.F.type_list_append mt_append (pv 2) (pa_cons (pe_meth0 (pv 0) T.Reader.cl T.Reader_read_number.m (ok_Reader_read_number T) (hr.mono (by decide)) T.Reader_read_number.b .nil pass0) pa_nil)))))
          (pss_cons (ps_for PassesOwn.never rfl (pi_range1 rfl T.b_range (pa_cons (pe_ix ix_tup (pe_glob (v := V.ref T.LISTS.a) rfl T.LISTS.g rfl) (pv 1) (fun _ _ => rfl)) pa_nil)) (pg_name (i := 3) sc_Reader_read_given.nd rfl (Or.inl rfl))
          (pss_one (ps_expr (pe_bm PySem.F.plainAttrs_list PySem.F.slot_list_append PySem.F.type_list_append mt_append (pv 2) (pa_cons (pe_meth0 (pv 0) T.Reader.cl T.Reader_read_list.m (ok_Reader_read_list T) (hr.mono (by decide)) T.Reader_read_list.b .nil pass0) pa_nil)))))
          (pss_one (ps_ret (pv 2)))))), ?_⟩
    refine ⟨Nat.zero_le _, fun g ng => ?_⟩
    have ngx : x ≠ g := ne_of_none hx ng
    have k1 : ∀ b o, H b = some o → b ≠ x → (upd H g (.lst [])) b = some o := fun b o e _ => by rw [upd_ne (ne_of_none e ng)]; exact e
    refine ⟨_, rfl, _, _, k, V.int (s : Int), rfl, rfl, T.SINGLES.at_ _, atI_nat (by
      have := at_map (g := fun n : Nat => V.int (n : Int)) hs
      exact this), (s : Int), rfl, by omega, by omega, ?_⟩
    refine for_range (lo := 0) (n := s) (fun i σ H' => ∃ v, σ = [some (.ref x), some (.int k), some (.ref g), v] ∧ (∀ b o, H b = some o → b ≠ x → H' b = some o) ∧ H' x = some (rdO T dx c (p + i)) ∧ H' g = some (.lst (((ns.drop p).take i).map V.int)))
      ⟨none, rfl, k1, by rw [upd_ne ngx]; exact hx, upd_same⟩ ?_ ?_
    · rintro i σ H' hi ⟨v, rfl, k2, hx2, hg⟩
      have hz : ns[p + i]? = some ns[p + i] := List.getElem?_eq_getElem (by omega)
      refine ⟨_, rfl, .inl ⟨rfl, _, SqL.of hg⟩, _, rfl, x, dx, _, rfl, hx2, F_Reader_not_read_number, x, dx, c, ns, p + i, _, rfl, hx2, rd_seq hx k2 hc, hz, ?_⟩
      refine ⟨g, _, _, rfl, rfl, by rw [upd_ne ngx.symm]; exact hg, sz64 (by rw [List.length_map, List.length_take]; omega), ?_⟩
      refine ⟨_, rfl, fun b o e ne => ?_, by rw [upd_ne ngx, upd_same]; rfl, ?_⟩
      · rw [upd_ne (ne_of_none e ng), upd_ne ne]
        exact k2 b o e ne
      · rw [upd_same, take_snoc (x := ns[p + i]) (by rw [List.getElem?_drop]; exact hz), List.map_append]
        rfl
    · rintro σ H' ⟨v, rfl, k2, hx2, hg⟩
      refine ⟨_, rfl, _, _, k, V.int (l : Int), rfl, rfl, T.LISTS.at_ _, atI_nat (by
        have := at_map (g := fun n : Nat => V.int (n : Int)) hl
        exact this), (l : Int), rfl, by omega, by omega, ?_⟩
      refine for_range (lo := 0) (n := l) (fun i σ H' => ∃ v as q, σ = [some (.ref x), some (.int k), some (.ref g), v] ∧ (∀ b o, H b = some o → b ≠ x → H' b = some o) ∧ H' x = some (rdO T dx c q) ∧ q ≤ ns.length ∧
          PyFlat.rows (l - i) (ns.drop q) = some (rs.drop i, t) ∧ as.length = i ∧ H' g = some (.lst (((ns.drop p).take s).map V.int ++ (as : List Addr).map V.ref)) ∧
          ∀ (j : Nat) (a : Addr) (r : List Int), as[j]? = some a → rs[j]? = some r → H' a = some (.lst (r.map V.int)) ∧ H a = none)
        ⟨v, [], p + s, rfl, k2, hx2, hps, hrows, rfl, by rw [List.map_nil, List.append_nil]; exact hg, fun j a r e => by simp at e⟩ ?_ ?_
      · rintro i σ H1 hi ⟨v, as, q, rfl, k3, hx3, hq, hr, hal, hg3, hrow⟩
        obtain ⟨n, r', rs', e1, hn, e2, h'⟩ := rows_succ (k := l - (i + 1)) (by rw [show l - (i + 1) + 1 = l - i by omega]; exact hr)
        have hz : ns[q]? = some (n : Int) := by
          have : (ns.drop q)[0]? = some (n : Int) := by rw [e1]; rfl
          rw [List.getElem?_drop] at this
          exact this
        have er : r' = ns.drop (q + 1) := by
          have : (ns.drop q).drop 1 = r' := by rw [e1]; rfl
          rw [List.drop_drop] at this
          exact this.symm
        have hlen : q + 1 + n ≤ ns.length := by
          have := hn
          rw [er, List.length_drop] at this
          have h2 : q < ns.length := (List.getElem?_eq_some_iff.mp hz).1
          omega
        refine ⟨_, rfl, .inl ⟨rfl, _, SqL.of hg3⟩, _, rfl, x, dx, _, rfl, hx3, F_Reader_not_read_list, x, dx, c, ns, q, n, rfl, hx3, rd_seq hx k3 hc, hz, hlen, fun a na => ?_⟩
        have nag : g ≠ a := ne_of_none hg3 na
        have nax : x ≠ a := ne_of_none hx3 na
        have nga : a ≠ x := nax.symm
        have hHa : H a = none := by
          cases e : H a with
          | none => rfl
          | some o =>
            have := k3 a o e nga
            rw [this] at na
            cases na
        refine ⟨g, _, _, rfl, rfl, by rw [upd_ne nag, upd_ne ngx.symm]; exact hg3, sz64 (by rw [List.length_append, List.length_map, List.length_take, List.length_map]; omega), ?_⟩
        refine ⟨_, as ++ [a], q + 1 + n, rfl, fun b o e ne => ?_, by rw [upd_ne ngx, upd_ne nax, upd_same], hlen, ?_, by rw [List.length_append, hal]; rfl, ?_, ?_⟩
        · have h1 := k3 b o e ne
          rw [upd_ne (ne_of_none e ng), upd_ne (ne_of_none h1 na), upd_ne ne]
          exact h1
        · have e5 : rs.drop (i + 1) = rs' := by
            have : (rs.drop i).drop 1 = rs' := by rw [e2]; rfl
            rw [List.drop_drop] at this
            exact this
          rw [e5, ← h', er, List.drop_drop]
        · rw [upd_same, List.map_append, List.append_assoc]
          rfl
        · intro j b r hj hrj
          by_cases c1 : j < as.length
          · rw [List.getElem?_append_left c1] at hj
            obtain ⟨h1, h2⟩ := hrow j b r hj hrj
            refine ⟨?_, h2⟩
            have nbx : b ≠ x := (ne_of_none hx h2).symm
            have nbg : b ≠ g := by
              intro e
              subst e
              have : (V.ref b) ∈ as.map V.ref := List.mem_map.mpr ⟨b, List.mem_of_getElem? hj, rfl⟩
              rw [h1] at hg3
              injection hg3 with hg3
              injection hg3 with hg3
              have m2 : V.ref b ∈ r.map V.int := by
                rw [hg3]
                exact List.mem_append_right _ this
              obtain ⟨z, _, e⟩ := List.mem_map.mp m2
              cases e
            rw [upd_ne nbg, upd_ne (ne_of_none h1 na), upd_ne nbx]
            exact h1
          · have ej : j = as.length := by
              have := (List.getElem?_eq_some_iff.mp hj).1
              rw [List.length_append] at this
              simp at this
              omega
            subst ej
            rw [List.getElem?_append_right (Nat.le_refl _), Nat.sub_self] at hj
            have eb : a = b := Option.some.inj hj
            subst eb
            have e6 : r = r'.take n := by
              have : (rs.drop i)[0]? = some r := by rw [List.getElem?_drop, ← hal]; exact hrj
              rw [e2] at this
              exact (Option.some.inj this).symm
            refine ⟨?_, hHa⟩
            rw [upd_ne nag.symm, upd_same, e6, er]
      · rintro σ H1 ⟨v, as, q, rfl, k3, hx3, hq, hr, hal, hg3, hrow⟩
        rw [Nat.sub_self] at hr
        obtain ⟨e1, e2⟩ := rows_zero hr
        refine ⟨_, rfl, ?_⟩
        refine K0 H1 g k3 ?_ ng ⟨as, hg3, ?_, hrow⟩
        · rw [e2, List.length_drop, show ns.length - (ns.length - q) = q by omega]
          exact hx3
        · rw [hal, (rows_length hrows).1]
end
section
variable {P : Program} {w : World} {K : PySem.W.Frag} {mg : Str → Option Value} {base : Heap}
/-! ### the list of sheets: none twice -/
theorem fold_dedup_le : ∀ (ns acc : List Int), (ns.foldl step_dedup acc).length ≤ acc.length + ns.length
  | [], acc => Nat.le_refl _
  | z :: ns, acc => by
    rw [List.foldl_cons, List.length_cons]
    have ih := fold_dedup_le ns (step_dedup acc z)
    have : (step_dedup acc z).length ≤ acc.length + 1 := by
      unfold step_dedup
      split
      · omega
      · rw [List.length_append]
        exact Nat.le_refl _
    omega
theorem fold_dedup : ∀ (ns acc : List Int), (ns.foldl step_dedup acc).length = acc.length + ns.length ↔ ns.Nodup ∧ ∀ z ∈ ns, z ∉ acc
  | [], acc => ⟨fun _ => ⟨List.nodup_nil, fun z h => absurd h (by simp)⟩, fun _ => rfl⟩
  | z :: ns, acc => by
    rw [List.foldl_cons, List.length_cons]
    by_cases c : z ∈ acc
    · have e : step_dedup acc z = acc := by
        unfold step_dedup
        rw [if_pos]
        exact List.any_eq_true.mpr ⟨z, c, beq_self_eq_true z⟩
      rw [e]
      have := fold_dedup_le ns acc
      constructor
      · intro h; omega
      · rintro ⟨_, h⟩
        exact absurd c (h z List.mem_cons_self)
    · have e : step_dedup acc z = acc ++ [z] := by
        unfold step_dedup
        rw [if_neg]
        intro h
        obtain ⟨y, hy, q⟩ := List.any_eq_true.mp h
        rw [beq_iff_eq] at q
        exact c (q ▸ hy)
      have ih := fold_dedup ns (acc ++ [z])
      rw [e]
      rw [List.length_append] at ih
      have e2 : acc.length + [z].length + ns.length = acc.length + (ns.length + 1) := by
        show acc.length + 1 + ns.length = _
        omega
      rw [e2] at ih
      rw [ih, List.nodup_cons]
      constructor
      · rintro ⟨h1, h2⟩
        refine ⟨⟨fun h => h2 z h (List.mem_append_right _ List.mem_cons_self), h1⟩, fun y hy h => ?_⟩
        rcases List.mem_cons.mp hy with rfl | hy
        · exact c h
        · exact h2 y hy (List.mem_append_left _ h)
      · rintro ⟨⟨h1, h2⟩, h3⟩
        refine ⟨h2, fun y hy h => ?_⟩
        rcases List.mem_append.mp h with h | h
        · exact h3 y (List.mem_cons_of_mem _ hy) h
        · have : y = z := by simpa using h
          exact h1 (this ▸ hy)
theorem map_getD (ns : List Int) : (List.range ns.length).map (fun i => ns.getD i 0) = ns := by
  refine List.ext_getElem (by rw [List.length_map, List.length_range]) fun i h1 h2 => ?_
  rw [List.getElem_map, List.getElem_range, List.getD_eq_getElem?_getD, List.getElem?_eq_getElem h2]
  rfl
theorem dedup_len (ns : List Int) : (dedup ns).length = ns.length ↔ ns.Nodup := by
  have e : dedup ns = ns.foldl step_dedup [] := by
    unfold dedup firstMet
    rw [map_getD]
  rw [e]
  have := fold_dedup ns []
  rw [List.length_nil, Nat.zero_add] at this
  rw [this]
  exact ⟨fun h => h.1, fun h => ⟨h, fun _ _ => by simp⟩⟩
theorem nints_nodup (l : List Nat) : (nints l).Nodup ↔ l.Nodup := by
  constructor
  · intro h
    exact (List.pairwise_map.mp h).imp fun {a b} q e => q (by rw [e])
  · intro h
    exact List.pairwise_map.mpr (h.imp fun {a b} q e => q (by omega))
theorem okList_iff (b : Kqb2.Bench) (l : List Nat) : Kqb2.okList b l = true ↔ (∀ i ∈ l, i < b.sheets.length) ∧ l.Nodup := by
  unfold Kqb2.okList
  rw [Bool.and_eq_true, List.all_eq_true, List.all_eq_true]
  constructor
  · rintro ⟨h1, h2⟩
    refine ⟨fun i hi => of_decide_eq_true (h1 i hi), List.pairwise_iff_getElem.mpr fun i j hi hj hij e => ?_⟩
    have := h2 i (List.mem_range.mpr hi)
    rw [Bool.not_eq_true', ← Bool.not_eq_true, List.contains_iff_mem] at this
    refine this ?_
    rw [List.getD_eq_getElem?_getD, List.getElem?_eq_getElem hi]
    show l[i] ∈ _
    rw [e]
    refine List.mem_iff_getElem.mpr ⟨j - (i + 1), by rw [List.length_drop]; omega, ?_⟩
    rw [List.getElem_drop]
    congr 1
    omega
  · rintro ⟨h1, h2⟩
    refine ⟨fun i hi => decide_eq_true (h1 i hi), fun i hi => ?_⟩
    have hi := List.mem_range.mp hi
    rw [Bool.not_eq_true', ← Bool.not_eq_true, List.contains_iff_mem, List.getD_eq_getElem?_getD, List.getElem?_eq_getElem hi]
    show ¬ l[i] ∈ _
    intro h
    obtain ⟨j, hj, e⟩ := List.mem_iff_getElem.mp h
    rw [List.getElem_drop] at e
    rw [List.length_drop] at hj
    exact List.pairwise_iff_getElem.mp h2 i (i + 1 + j) hi (by omega) (by omega) e.symm
end
section
variable {P : Program} {w : World} {K : PySem.W.Frag} {mg : Str → Option Value} {base : Heap}
/-! ### the shop in the heap -/
open Kqb2 (Bench)
def reachV : Option Bench → V
  | none => .non
  | some b => .int (b.reach : Int)
def sheetsOf : Option Bench → List Kqb2.Sheet
  | none => []
  | some b => b.sheets
def stackV (n : Nat) : V := if n = 0 then .non else .int ((n - 1 : Nat) : Int)
def stacksOf : Option Bench → List (Option (List Nat))
  | none => []
  | some b => b.stacks
/-- a stack's number, its sheets, the list's address -/
abbrev Ent := Nat × List Nat × Addr
def kvsOf (Z : List Ent) : List (L2.Key × V) := Z.map fun e => (Sum.inl (e.1 : Int), .ref e.2.2)
/-- a Sheet stands at a -/
def SheetAt (T : Txt K mg) (H : Hp) (a : Addr) (x : Kqb2.Sheet) : Prop := ∃ d, H a = some (.ins T.Sheet.C d (F_Sheet (.bl x.minus) (.int (x.wide : Int))))
/-- the entries of a dict of stacks -/
structure Ents (Z : List Ent) (ss : List (Option (List Nat))) : Prop where
  keys : (Z.map (·.1)).Nodup
  rel : ∀ (n : Nat) (ls : List Nat), (∃ c, (n, ls, c) ∈ Z) ↔ ss[n]? = some (some ls)
theorem valV_miss {Z : List Ent} {n : Nat} (h : ∀ e ∈ Z, e.1 ≠ n) : valV (kvsOf Z) (Sum.inl (n : Int) : L2.Key) = none := by
  induction Z with
  | nil => rfl
  | cons e Z ih =>
    show valV ((Sum.inl (e.1 : Int), V.ref e.2.2) :: kvsOf Z) _ = none
    rw [valV_neg (fun q => h e List.mem_cons_self (by have := Sum.inl.inj q; omega))]
    exact ih fun e he => h e (List.mem_cons_of_mem _ he)
theorem valV_hit {Z : List Ent} {n : Nat} {ls : List Nat} {c : Addr} (hk : (Z.map (·.1)).Nodup) (h : (n, ls, c) ∈ Z) : valV (kvsOf Z) (Sum.inl (n : Int) : L2.Key) = some (.ref c) := by
  induction Z with
  | nil => cases h
  | cons e Z ih =>
    have hk' := List.nodup_cons.mp hk
    rcases List.mem_cons.mp h with rfl | h
    · exact valV_pos rfl
    · show valV ((Sum.inl (e.1 : Int), V.ref e.2.2) :: kvsOf Z) _ = _
      have ne : e.1 ≠ n := fun q => hk'.1 (List.mem_map.mpr ⟨_, h, q.symm⟩)
      rw [valV_neg (fun q => ne (by have := Sum.inl.inj q; omega))]
      exact ih hk'.2 h
theorem Ents.get {Z : List Ent} {ss : List (Option (List Nat))} (h : Ents Z ss) (n : Nat) : (ss.getD n none = none ∧ valV (kvsOf Z) (Sum.inl (n : Int) : L2.Key) = none ∧ ∀ e ∈ Z, e.1 ≠ n) ∨
    ∃ ls c, ss.getD n none = some ls ∧ ss[n]? = some (some ls) ∧ (n, ls, c) ∈ Z ∧ valV (kvsOf Z) (Sum.inl (n : Int) : L2.Key) = some (.ref c) := by
  cases e : ss.getD n none with
  | none =>
    have : ∀ e ∈ Z, e.1 ≠ n := fun ⟨m, ls, c⟩ hm q => by
      have q : m = n := q
      subst q
      have := getD_some.mpr ((h.rel m ls).mp ⟨c, hm⟩)
      rw [e] at this
      cases this
    exact .inl ⟨rfl, valV_miss this, this⟩
  | some ls =>
    have e2 := getD_some.mp e
    obtain ⟨c, hc⟩ := (h.rel n ls).mpr e2
    exact .inr ⟨ls, c, rfl, e2, hc, valV_hit h.keys hc⟩
/-- the Shop at x, its list of sheets at l, the sheets at as, its dict of stacks at dk; Own: what is its own -/
structure ShopIn (T : Txt K mg) (H : Hp) (x dx l dk : Addr) (as : List Addr) (Z : List Ent) (s : Option Bench) (Own : Addr → Prop) : Prop where
  obj : H x = some (.ins T.Shop.C dx (F_Shop (reachV s) (.ref l) (.ref dk)))
  lst : H l = some (.lst (as.map V.ref))
  dic : H dk = some (.dK (kvsOf Z))
  nd : as.Nodup
  len : as.length = (sheetsOf s).length
  at_ : ∀ (i : Nat) (a : Addr) (y : Kqb2.Sheet), as[i]? = some a → (sheetsOf s)[i]? = some y → SheetAt T H a y
  ents : Ents Z (stacksOf s)
  lists : ∀ e ∈ Z, LstAt H e.2.2 e.2.1 ∧ e.2.2 ≠ l
  own : ∀ a, Own a ↔ (a = x ∨ a = l ∨ a = dk ∨ a ∈ as ∨ ∃ e ∈ Z, e.2.2 = a)
def ShopAt (T : Txt K mg) (H : Hp) (x : Addr) (s : Option Bench) (Own : Addr → Prop) : Prop := ∃ dx l dk as Z, ShopIn T H x dx l dk as Z s Own
section
variable {T : Txt K mg} {H H' : Hp} {x dx l dk : Addr} {as : List Addr} {Z : List Ent} {s : Option Bench} {Own : Addr → Prop}
theorem ShopIn.own_x (S : ShopIn T H x dx l dk as Z s Own) : Own x := (S.own x).mpr (.inl rfl)
theorem ShopIn.own_l (S : ShopIn T H x dx l dk as Z s Own) : Own l := (S.own l).mpr (.inr (.inl rfl))
theorem ShopIn.own_d (S : ShopIn T H x dx l dk as Z s Own) : Own dk := (S.own dk).mpr (.inr (.inr (.inl rfl)))
theorem ShopIn.own_a (S : ShopIn T H x dx l dk as Z s Own) {a : Addr} (h : a ∈ as) : Own a := (S.own a).mpr (.inr (.inr (.inr (.inl h))))
theorem ShopIn.own_e (S : ShopIn T H x dx l dk as Z s Own) {e : Ent} (h : e ∈ Z) : Own e.2.2 := (S.own _).mpr (.inr (.inr (.inr (.inr ⟨e, h, rfl⟩))))
theorem ShopIn.addr (S : ShopIn T H x dx l dk as Z s Own) {i : Nat} {y : Kqb2.Sheet} (h : (sheetsOf s)[i]? = some y) : ∃ a, as[i]? = some a ∧ SheetAt T H a y := by
  have hi := (List.getElem?_eq_some_iff.mp h).1
  have hi2 : i < as.length := by rw [S.len]; exact hi
  exact ⟨as[i], List.getElem?_eq_getElem hi2, S.at_ i _ y (List.getElem?_eq_getElem hi2) h⟩
theorem ShopIn.tracked (S : ShopIn T H x dx l dk as Z s Own) {a : Addr} (h : Own a) : ∃ o, H a = some o := by
  rcases (S.own a).mp h with rfl | rfl | rfl | h | ⟨e, he, rfl⟩
  · exact ⟨_, S.obj⟩
  · exact ⟨_, S.lst⟩
  · exact ⟨_, S.dic⟩
  · obtain ⟨i, hi, e⟩ := List.mem_iff_getElem.mp h
    have e1 : as[i]? = some a := by rw [List.getElem?_eq_getElem hi, e]
    have hi2 : i < (sheetsOf s).length := by rw [← S.len]; exact hi
    obtain ⟨d, h⟩ := S.at_ i a _ e1 (List.getElem?_eq_getElem hi2)
    exact ⟨_, h⟩
  · exact ⟨_, (S.lists e he).1⟩
theorem ShopAt.tracked (S : ShopAt T H x s Own) {a : Addr} (h : Own a) : ∃ o, H a = some o := by
  obtain ⟨dx, l, dk, as, Z, S⟩ := S
  exact S.tracked h
theorem ShopIn.keep (S : ShopIn T H x dx l dk as Z s Own) (k : ∀ a o, Own a → H a = some o → H' a = some o) : ShopIn T H' x dx l dk as Z s Own where
  obj := k _ _ S.own_x S.obj
  lst := k _ _ S.own_l S.lst
  dic := k _ _ S.own_d S.dic
  nd := S.nd
  len := S.len
  at_ := fun i a y h1 h2 => by
    obtain ⟨d, h⟩ := S.at_ i a y h1 h2
    exact ⟨d, k _ _ (S.own_a (List.mem_of_getElem? h1)) h⟩
  ents := S.ents
  lists := fun e he => ⟨k _ _ (S.own_e he) (S.lists e he).1, (S.lists e he).2⟩
  own := S.own
theorem ShopAt.keep (S : ShopAt T H x s Own) (k : ∀ a o, Own a → H a = some o → H' a = some o) : ShopAt T H' x s Own := by
  obtain ⟨dx, l, dk, as, Z, S⟩ := S
  exact ⟨dx, l, dk, as, Z, S.keep k⟩
theorem ShopAt.same (S : ShopAt T H x s Own) (k : Same H H') : ShopAt T H' x s Own := S.keep fun a o _ e => k a o e
theorem ShopIn.n_xl (S : ShopIn T H x dx l dk as Z s Own) : x ≠ l := ne_of S.obj S.lst (by intro q; cases q)
theorem ShopIn.n_xd (S : ShopIn T H x dx l dk as Z s Own) : x ≠ dk := ne_of S.obj S.dic (by intro q; cases q)
theorem ShopIn.n_ld (S : ShopIn T H x dx l dk as Z s Own) : l ≠ dk := ne_of S.lst S.dic (by intro q; cases q)
theorem ShopIn.sheet (S : ShopIn T H x dx l dk as Z s Own) {a : Addr} (h : a ∈ as) : ∃ y, SheetAt T H a y := by
  obtain ⟨i, hi, e⟩ := List.mem_iff_getElem.mp h
  have e1 : as[i]? = some a := by rw [List.getElem?_eq_getElem hi, e]
  have hi2 : i < (sheetsOf s).length := by rw [← S.len]; exact hi
  exact ⟨_, S.at_ i a _ e1 (List.getElem?_eq_getElem hi2)⟩
theorem SheetAt.ne_lst {a c : Addr} {y : Kqb2.Sheet} {vs : List V} (h : SheetAt T H a y) (hc : H c = some (.lst vs)) : a ≠ c := by
  obtain ⟨d, h⟩ := h
  exact ne_of h hc (by intro q; cases q)
theorem SheetAt.ne_dic {a c : Addr} {y : Kqb2.Sheet} {vs : List (L2.Key × V)} (h : SheetAt T H a y) (hc : H c = some (.dK vs)) : a ≠ c := by
  obtain ⟨d, h⟩ := h
  exact ne_of h hc (by intro q; cases q)
theorem SheetAt.ne_x (S : ShopIn T H x dx l dk as Z s Own) {a : Addr} {y : Kqb2.Sheet} (h : SheetAt T H a y) : a ≠ x := by
  obtain ⟨d, h⟩ := h
  rintro rfl
  rw [S.obj] at h
  injection h with h
  injection h with _ _ h
  have : (3 : Nat) = 2 := congrArg List.length h
  exact absurd this (by decide)
end
/-- what a call may do to the heap: the shop's own things, and new ones -/
structure Did (H H' : Hp) (Own Own' : Addr → Prop) : Prop where
  keep : ∀ b o, H b = some o → ¬ Own b → H' b = some o
  new : ∀ b, Own' b → Own b ∨ H b = none
  trk : ∀ b o, H b = some o → ∃ o', H' b = some o'
theorem Did.same {H H' : Hp} {Own : Addr → Prop} (s : Same H H') : Did H H' Own Own := ⟨fun b o e _ => s b o e, fun _ h => .inl h, fun b o e => ⟨o, s b o e⟩⟩
theorem Did.then {H H1 H2 : Hp} {Own Own' : Addr → Prop} (d : Did H H1 Own Own') (s : Same H1 H2) : Did H H2 Own Own' := ⟨fun b o e n => s b o (d.keep b o e n), d.new, fun b o e => (d.trk b o e).imp fun o' h => s b o' h⟩
theorem Did.ahead {H H1 H2 : Hp} {Own Own' : Addr → Prop} (s : Same H H1) (d : Did H1 H2 Own Own') : Did H H2 Own Own' := ⟨fun b o e n => d.keep b o (s b o e) n, fun b h => (d.new b h).imp id fun q => s.free q, fun b o e => d.trk b o (s b o e)⟩
theorem Did.free {H H' : Hp} {Own Own' : Addr → Prop} (d : Did H H' Own Own') {p : Addr} (h : H' p = none) : H p = none := by
  cases e : H p with
  | none => rfl
  | some o =>
    obtain ⟨o', h'⟩ := d.trk p o e
    rw [h'] at h
    cases h
theorem upd_trk {H : Hp} {a b : Addr} {o u : HO} (h : H b = some u) : ∃ o', (upd H a o) b = some o' := by
  by_cases c : b = a
  · subst c
    exact ⟨o, upd_same⟩
  · exact ⟨u, by rw [upd_ne c]; exact h⟩
/-! ### its defs -/
def sp_sh_init (T : Txt K mg) : Sp := fun vs H Q _ => ∃ (x d : Addr) (m : Bool) (wd : Nat), vs = [.ref x, .bl m, .int (wd : Int)] ∧ H x = some (.ins T.Sheet.C d []) ∧ Q .non (upd H x (.ins T.Sheet.C d (F_Sheet (.bl m) (.int (wd : Int)))))
theorem ok_Sheet_init (T : Txt K mg) : FnOk P w K mg base CX0 1 T.Sheet_init.f T.Sheet_init.fd ["self", "minus", "wide"] (sp_sh_init T) := by
  refine T.Sheet_init.F.ok sc_Sheet_init (fun vs H Q E h => ?_) (fun cdv A outer s H vs Q E hr h => ?_)
  · obtain ⟨x, d, m, wd, rfl, _⟩ := h
    rfl
  · obtain ⟨x, d, m, wd, rfl, hx, k⟩ := h
    refine ⟨_, (pss_cons (ps_fld (pv 0) (pv 1) rfl)
          (pss_one (ps_fld (pv 0) (pv 2) rfl))), ?_⟩
    refine ⟨_, rfl, _, rfl, x, _, d, _, rfl, hx, T.Sheet.cl, T.Sheet_no_minus, (by show 0 < 1000; decide), ?_⟩
    refine ⟨_, rfl, _, rfl, x, _, d, _, rfl, upd_same, T.Sheet.cl, T.Sheet_no_wide, (by show 1 < 1000; decide), ?_⟩
    rw [upd_upd]
    rw [show putF "minus" (V.bl m) [] = ([("minus", V.bl m)] : List (Str × V)) from F_Sheet_new_minus (x0 := .bl m) (x1 := .non), show putF "wide" (V.int (wd : Int)) ([("minus", V.bl m)] : List (Str × V)) = F_Sheet (.bl m) (.int (wd : Int)) from F_Sheet_new_wide]
    exact k
def sp_shop_init (T : Txt K mg) : Sp := fun vs H Q _ => ∃ (x d : Addr), vs = [.ref x] ∧ H x = some (.ins T.Shop.C d []) ∧ ∀ H' Own', ShopAt T H' x none Own' → (∀ b o, H b = some o → b ≠ x → H' b = some o) → (∀ b, Own' b → b = x ∨ H b = none) → Q .non H'
theorem ok_Shop_init (T : Txt K mg) : FnOk P w K mg base CX0 1 T.Shop_init.f T.Shop_init.fd ["self"] (sp_shop_init T) := by
  refine T.Shop_init.F.ok sc_Shop_init (fun vs H Q E h => ?_) (fun cdv A outer s H vs Q E hr h => ?_)
  · obtain ⟨x, d, rfl, _⟩ := h
    rfl
  · obtain ⟨x, d, rfl, hx, k⟩ := h
    refine ⟨_, (pss_cons (ps_fld (pv 0) pe_non rfl)
          (pss_cons (ps_fld (pv 0) (pe_lst pa_nil) rfl)
          (pss_one (ps_fld (pv 0) pe_dnewK rfl)))), ?_⟩
    refine ⟨_, rfl, x, _, d, _, rfl, hx, T.Shop.cl, T.Shop_no_reach, (by show 0 < 1000; decide), ?_⟩
    refine ⟨(by show 0 ≤ sizeLine; decide), fun l nl => ?_⟩
    have nxl : x ≠ l := ne_of_none upd_same nl
    refine ⟨_, rfl, x, _, d, _, rfl, (by rw [upd_ne nxl]; exact upd_same), T.Shop.cl, T.Shop_no_sheets, (by show 1 < 1000; decide), ?_⟩
    intro dk ndk
    have nxd : x ≠ dk := ne_of_none upd_same ndk
    have nld : l ≠ dk := ne_of_none (o := .lst []) (by rw [upd_ne nxl.symm]; exact upd_same) ndk
    refine ⟨_, rfl, x, _, d, _, rfl, (by rw [upd_ne nxd]; exact upd_same), T.Shop.cl, T.Shop_no_stacks, (by show 2 < 1000; decide), ?_⟩
    rw [show putF "reach" V.non [] = ([("reach", V.non)] : List (Str × V)) from F_Shop_new_reach (x0 := .non) (x1 := .non) (x2 := .non), show putF "sheets" (V.ref l) ([("reach", V.non)] : List (Str × V)) = ([("reach", V.non), ("sheets", V.ref l)] : List (Str × V)) from F_Shop_new_sheets (x2 := .non),
      show putF "stacks" (V.ref dk) ([("reach", V.non), ("sheets", V.ref l)] : List (Str × V)) = F_Shop .non (.ref l) (.ref dk) from F_Shop_new_stacks]
    rw [upd_ne nxl.symm] at nl
    rw [upd_ne nxd.symm, upd_ne nld.symm, upd_ne nxd.symm] at ndk
    refine k _ (fun a => a = x ∨ a = l ∨ a = dk) ⟨d, l, dk, [], [], upd_same, ?_, ?_, List.nodup_nil, rfl, fun i a y e => (by simp at e), ⟨List.nodup_nil, fun n ls => (by simp [stacksOf])⟩, fun e he => (by cases he), fun a => by simp⟩ (fun b o e ne => ?_) (fun b h => ?_)
    · rw [upd_ne nxl.symm, upd_ne nld, upd_ne nxl.symm]
      exact upd_same
    · rw [upd_ne nxd.symm]
      exact upd_same
    · rw [upd_ne ne, upd_ne (ne_of_none e ndk), upd_ne ne, upd_ne (ne_of_none e nl), upd_ne ne]
      exact e
    · rcases h with rfl | rfl | rfl
      · exact .inl rfl
      · exact .inr nl
      · exact .inr ndk
def sp_begin (T : Txt K mg) : Sp := fun vs H Q _ => ∃ (x : Addr) (r : Nat) (s : Option Bench) (Own : Addr → Prop), vs = [.ref x, .int (r : Int)] ∧ ShopAt T H x s Own ∧ ∀ H' Own', ShopAt T H' x (some ⟨r, [], []⟩) Own' → Did H H' Own Own' → Q .non H'
theorem ok_Shop_begin (T : Txt K mg) : FnOk P w K mg base CX0 1 T.Shop_begin.f T.Shop_begin.fd ["self", "reach"] (sp_begin T) := by
  refine T.Shop_begin.F.ok sc_Shop_begin (fun vs H Q E h => ?_) (fun cdv A outer s H vs Q E hr h => ?_)
  · obtain ⟨x, r, s, Own, rfl, _⟩ := h
    rfl
  · obtain ⟨x, r, b, Own, rfl, ⟨d, l0, dk0, as0, Z0, S⟩, k⟩ := h
    refine ⟨_, (pss_cons (ps_fld (pv 0) (pv 1) rfl)
          (pss_cons (ps_fld (pv 0) (pe_lst pa_nil) rfl)
          (pss_one (ps_fld (pv 0) pe_dnewK rfl)))), ?_⟩
    refine ⟨_, rfl, _, rfl, x, _, d, _, rfl, S.obj, T.Shop.cl, T.Shop_no_reach, (by show 3 < 1000; decide), ?_⟩
    refine ⟨(by show 0 ≤ sizeLine; decide), fun l nl => ?_⟩
    have nxl : x ≠ l := ne_of_none upd_same nl
    rw [F_Shop_put_reach]
    refine ⟨_, rfl, x, _, d, _, rfl, (by rw [upd_ne nxl]; exact upd_same), T.Shop.cl, T.Shop_no_sheets, (by show 3 < 1000; decide), ?_⟩
    rw [F_Shop_put_sheets]
    intro dk ndk
    have nxd : x ≠ dk := ne_of_none upd_same ndk
    have nld : l ≠ dk := ne_of_none (o := .lst []) (by rw [upd_ne nxl.symm]; exact upd_same) ndk
    refine ⟨_, rfl, x, _, d, _, rfl, (by rw [upd_ne nxd]; exact upd_same), T.Shop.cl, T.Shop_no_stacks, (by show 3 < 1000; decide), ?_⟩
    rw [F_Shop_put_stacks]
    rw [upd_ne nxl.symm] at nl
    rw [upd_ne nxd.symm, upd_ne nld.symm, upd_ne nxd.symm] at ndk
    refine k _ (fun a => a = x ∨ a = l ∨ a = dk) ⟨d, l, dk, [], [], upd_same, ?_, ?_, List.nodup_nil, rfl, fun i a y e => (by simp at e), ⟨List.nodup_nil, fun n ls => (by simp [stacksOf])⟩, fun e he => (by cases he), fun a => by simp⟩ ⟨fun b o e ne => ?_, fun b h => ?_, fun b o e => ?_⟩
    · rw [upd_ne nxl.symm, upd_ne nld, upd_ne nxl.symm]
      exact upd_same
    · rw [upd_ne nxd.symm]
      exact upd_same
    · have nb : b ≠ x := fun q => ne (q ▸ S.own_x)
      rw [upd_ne nb, upd_ne (ne_of_none e ndk), upd_ne nb, upd_ne (ne_of_none e nl), upd_ne nb]
      exact e
    · rcases h with rfl | rfl | rfl
      · exact .inl S.own_x
      · exact .inr nl
      · exact .inr ndk
    · obtain ⟨o1, h1⟩ := upd_trk (a := x) (o := .ins T.Shop.C d (F_Shop (V.int (r : Int)) (V.ref l0) (V.ref dk0))) e
      obtain ⟨o2, h2⟩ := upd_trk (a := l) (o := .lst []) h1
      obtain ⟨o3, h3⟩ := upd_trk (a := x) (o := .ins T.Shop.C d (F_Shop (V.int (r : Int)) (V.ref l) (V.ref dk0))) h2
      obtain ⟨o4, h4⟩ := upd_trk (a := dk) (o := .dK []) h3
      exact upd_trk h4
def sp_has_begun (T : Txt K mg) : Sp := fun vs H Q _ => ∃ (x : Addr) (s : Option Bench) (Own : Addr → Prop), vs = [.ref x] ∧ ShopAt T H x s Own ∧ Q (.bl s.isSome) H
theorem ok_Shop_has_begun (T : Txt K mg) : FnOk P w K mg base CX0 1 T.Shop_has_begun.f T.Shop_has_begun.fd ["self"] (sp_has_begun T) := by
  refine T.Shop_has_begun.F.ok sc_Shop_has_begun (fun vs H Q E h => ?_) (fun cdv A outer s H vs Q E hr h => ?_)
  · obtain ⟨x, s, Own, rfl, _⟩ := h
    rfl
  · obtain ⟨x, b, Own, rfl, ⟨d, l, dk, as, Z, S⟩, k⟩ := h
    refine ⟨_, (pss_one (ps_ret (pe_cmpR op_notN (pe_fld (pv 0) rfl) pe_non (nomark _)))), ?_⟩
    refine ⟨_, rfl, x, _, d, _, _, rfl, S.obj, T.Shop.cl, T.Shop_no_reach, F_Shop_reach, rfl, ?_⟩
    cases b with
    | none => exact k
    | some b => exact k
def sp_has_sheet (T : Txt K mg) : Sp := fun vs H Q _ => ∃ (x : Addr) (i : Nat) (s : Option Bench) (Own : Addr → Prop), vs = [.ref x, .int (i : Int)] ∧ ShopAt T H x s Own ∧ Q (.bl (decide (i < (sheetsOf s).length))) H
theorem dec_lt (a b : Nat) : decide ((a : Int) < (b : Int)) = decide (a < b) := by
  by_cases c : a < b
  · rw [decide_eq_true c, decide_eq_true (by omega)]
  · rw [decide_eq_false c, decide_eq_false (by omega)]
theorem dec_le (a b : Nat) : decide ((a : Int) ≤ (b : Int)) = decide (a ≤ b) := by
  by_cases c : a ≤ b
  · rw [decide_eq_true c, decide_eq_true (by omega)]
  · rw [decide_eq_false c, decide_eq_false (by omega)]
theorem ok_Shop_has_sheet (T : Txt K mg) : FnOk P w K mg base CX0 1 T.Shop_has_sheet.f T.Shop_has_sheet.fd ["self", "i"] (sp_has_sheet T) := by
  refine T.Shop_has_sheet.F.ok sc_Shop_has_sheet (fun vs H Q E h => ?_) (fun cdv A outer s H vs Q E hr h => ?_)
  · obtain ⟨x, i, s, Own, rfl, _⟩ := h
    rfl
  · obtain ⟨x, i, b, Own, rfl, ⟨d, l, dk, as, Z, S⟩, k⟩ := h
    refine ⟨_, (pss_one (ps_ret (pe_cmpR op_lt (pv 1) (pe_callB call_len_seq (by rfl) T.b_len PySem.boot_len (pa_cons (pe_fld (pv 0) rfl) pa_nil)) (nomark _)))), ?_⟩
    refine ⟨_, rfl, _, rfl, x, _, d, _, _, rfl, S.obj, T.Shop.cl, T.Shop_no_sheets, F_Shop_sheets, _, _, rfl, .inl (.inl (.inl S.lst)), _, _, rfl, rfl, ?_⟩
    show Q (.bl (decide ((i : Int) < ((as.map V.ref).length : Int)))) H
    rw [List.length_map, S.len, dec_lt]
    exact k
def sp_is_full (T : Txt K mg) : Sp := fun vs H Q _ => ∃ (x : Addr) (s : Option Bench) (Own : Addr → Prop), vs = [.ref x] ∧ ShopAt T H x s Own ∧ Q (.bl (decide (14 ≤ (sheetsOf s).length))) H
theorem ok_Shop_is_full (T : Txt K mg) : FnOk P w K mg base CX0 1 T.Shop_is_full.f T.Shop_is_full.fd ["self"] (sp_is_full T) := by
  refine T.Shop_is_full.F.ok sc_Shop_is_full (fun vs H Q E h => ?_) (fun cdv A outer s H vs Q E hr h => ?_)
  · obtain ⟨x, s, Own, rfl, _⟩ := h
    rfl
  · obtain ⟨x, b, Own, rfl, ⟨d, l, dk, as, Z, S⟩, k⟩ := h
    refine ⟨_, (pss_one (ps_ret (pe_cmpR op_ge (pe_callB call_len_seq (by rfl) T.b_len PySem.boot_len (pa_cons (pe_fld (pv 0) rfl) pa_nil)) (pe_glob (v := V.int (14)) rfl T.MOST_SHEETS.g ⟨_, rfl⟩) (nomark _)))), ?_⟩
    refine ⟨_, rfl, x, _, d, _, _, rfl, S.obj, T.Shop.cl, T.Shop_no_sheets, F_Shop_sheets, _, _, rfl, .inl (.inl (.inl S.lst)), _, _, rfl, rfl, ?_⟩
    show Q (.bl (decide (((14 : Nat) : Int) ≤ ((as.map V.ref).length : Int)))) H
    rw [List.length_map, S.len, dec_le]
    exact k
end
section
variable {P : Program} {w : World} {K : PySem.W.Frag} {mg : Str → Option Value} {base : Heap}
open Kqb2 (Bench)
theorem as_snoc {as : List Addr} {a : Addr} {i : Nat} {c : Addr} (h : (as ++ [a])[i]? = some c) : (i < as.length ∧ as[i]? = some c) ∨ (i = as.length ∧ c = a) := by
  by_cases q : i < as.length
  · rw [List.getElem?_append_left q] at h
    exact .inl ⟨q, h⟩
  · have hi := (List.getElem?_eq_some_iff.mp h).1
    rw [List.length_append] at hi
    have e : i = as.length := by simp at hi; omega
    subst e
    rw [List.getElem?_append_right (Nat.le_refl _), Nat.sub_self] at h
    exact .inr ⟨rfl, (Option.some.inj h).symm⟩
def sp_lay_sheet (T : Txt K mg) : Sp := fun vs H Q _ => ∃ (x : Addr) (m : Bool) (wd : Nat) (b : Bench) (Own : Addr → Prop), vs = [.ref x, .bl m, .int (wd : Int)] ∧ ShopAt T H x (some b) Own ∧ b.sheets.length ≤ 14 ∧
  ∀ H' Own', ShopAt T H' x (some { b with sheets := b.sheets ++ [⟨m, wd, 0⟩] }) Own' → Did H H' Own Own' → Q (.int (b.sheets.length : Int)) H'
theorem ok_Shop_lay_sheet (T : Txt K mg) : FnOk P w K mg base CX0 3 T.Shop_lay_sheet.f T.Shop_lay_sheet.fd ["self", "minus", "wide"] (sp_lay_sheet T) := by
  refine T.Shop_lay_sheet.F.ok sc_Shop_lay_sheet (fun vs H Q E h => ?_) (fun cdv A outer s H vs Q E hr h => ?_)
  · obtain ⟨x, m, wd, b, Own, rfl, _⟩ := h
    rfl
  · obtain ⟨x, m, wd, b, Own, rfl, ⟨d, l, dk, as, Z, S⟩, hb, k⟩ := h
    refine ⟨_, (pss_cons (ps_expr (pe_bm PySem.F.plainAttrs_list PySem.F.slot_list_append PySem.F.type_list_append mt_append (pe_fld (pv 0) rfl) (pa_cons (pe_make T.Sheet_init.m (ok_Sheet_init T) (hr.mono (by decide)) rfl T.Sheet.g T.Sheet_init.b .nil pass0 (pa_cons (pv 1) (pa_cons (pv 2) pa_nil))) pa_nil)))
          (pss_one (ps_ret (pe_op op_sub (pe_callB call_len_seq (by rfl) T.b_len PySem.boot_len (pa_cons (pe_fld (pv 0) rfl) pa_nil)) pe_int)))), ?_⟩
    refine ⟨_, rfl, x, _, d, _, _, rfl, S.obj, T.Shop.cl, T.Shop_no_sheets, F_Shop_sheets, .inl ⟨rfl, _, SqL.of S.lst⟩, _, rfl, _, rfl, ?_⟩
    intro y dy ny ndy ne
    refine ⟨y, dy, m, wd, rfl, upd_same, ⟨rfl, ?_⟩⟩
    rw [upd_upd]
    have nly : l ≠ y := ne_of_none S.lst ny
    have nld : l ≠ dy := ne_of_none S.lst ndy
    have nxy : x ≠ y := ne_of_none S.obj ny
    have nxd : x ≠ dy := ne_of_none S.obj ndy
    have nxl : x ≠ l := ne_of S.obj S.lst (by intro q; cases q)
    have la := S.len
    refine ⟨l, _, _, rfl, rfl, (by rw [upd_ne nly, upd_ne nld]; exact S.lst), sz64 (by rw [List.length_map, la]; show b.sheets.length ≤ 100000; omega), ?_⟩
    rw [← List.map_singleton (f := V.ref), ← List.map_append]
    refine ⟨_, rfl, x, _, d, _, _, rfl, (by rw [upd_ne nxl, upd_ne nxy, upd_ne nxd]; exact S.obj), T.Shop.cl, T.Shop_no_sheets, F_Shop_sheets, _, _, rfl, .inl (.inl (.inl upd_same)), _, _, rfl, rfl, ?_⟩
    have e : (((as ++ [y]).map V.ref).length : Int) - 1 = (b.sheets.length : Int) := by
      rw [List.length_map, List.length_append, la]
      show ((b.sheets.length + 1 : Nat) : Int) - 1 = _
      omega
    show Q (.int ((((as ++ [y]).map V.ref).length : Int) - 1)) _
    rw [e]
    have kp : ∀ c o, c ≠ l → H c = some o → (upd (upd (upd H dy (.own y)) y (.ins T.Sheet.C dy (F_Sheet (.bl m) (.int (wd : Int))))) l (.lst ((as ++ [y]).map V.ref))) c = some o := fun c o nc e => by
      rw [upd_ne nc, upd_ne (ne_of_none e ny), upd_ne (ne_of_none e ndy)]
      exact e
    have tr : ∀ a ∈ as, ∃ o, H a = some o := fun a ha => S.tracked (S.own_a ha)
    refine k _ (fun a => a = x ∨ a = l ∨ a = dk ∨ a ∈ as ++ [y] ∨ ∃ e ∈ Z, e.2.2 = a) ⟨d, l, dk, as ++ [y], Z, kp _ _ nxl S.obj, upd_same, kp _ _ S.n_ld.symm S.dic, ?_, ?_, ?_, S.ents, fun e he => ⟨kp _ _ (S.lists e he).2 (S.lists e he).1, (S.lists e he).2⟩, fun a => Iff.rfl⟩ ⟨fun c o e ne => ?_, fun c h => ?_, fun c o e => ?_⟩
    · refine List.nodup_append.mpr ⟨S.nd, by simp, fun a ha c hc e => ?_⟩
      have : c = y := by simpa using hc
      obtain ⟨o, ho⟩ := tr a ha
      rw [e, this, ny] at ho
      cases ho
    · rw [List.length_append, la]
      show _ = (b.sheets ++ [_]).length
      rw [List.length_append]
      rfl
    · intro i a z h1 h2
      rcases as_snoc h1 with ⟨q, h1⟩ | ⟨rfl, rfl⟩
      · have h2' : b.sheets[i]? = some z := by
          have h2 : (b.sheets ++ [_])[i]? = some z := h2
          rw [List.getElem?_append_left (by rw [la] at q; exact q)] at h2
          exact h2
        obtain ⟨dz, hz⟩ := S.at_ i a z h1 h2'
        have nal : a ≠ l := ne_of hz S.lst (by intro q; cases q)
        exact ⟨dz, kp _ _ nal hz⟩
      · have h2 : (b.sheets ++ [(⟨m, wd, 0⟩ : Kqb2.Sheet)])[as.length]? = some z := h2
        rw [show as.length = b.sheets.length from la, List.getElem?_append_right (Nat.le_refl _), Nat.sub_self] at h2
        have := Option.some.inj h2
        subst this
        exact ⟨dy, by rw [upd_ne nly.symm]; exact upd_same⟩
    · exact kp _ _ (fun q => ne (q ▸ S.own_l)) e
    · rcases h with rfl | rfl | rfl | h | ⟨e, he, rfl⟩
      · exact .inl S.own_x
      · exact .inl S.own_l
      · exact .inl S.own_d
      · rcases List.mem_append.mp h with h | h
        · exact .inl (S.own_a h)
        · have : c = y := by simpa using h
          exact .inr (this ▸ ny)
      · exact .inl (S.own_e he)
    · by_cases q : c = l
      · subst q
        exact ⟨_, upd_same⟩
      · exact ⟨o, kp c o q e⟩
/-! ### what fits -/
theorem isMinus_at {b : Bench} {i : Nat} {y : Kqb2.Sheet} (h : b.sheets[i]? = some y) : Kqb2.isMinus b i = y.minus := by
  unfold Kqb2.isMinus
  rw [h]
  rfl
theorem isPlus_at {b : Bench} {i : Nat} {y : Kqb2.Sheet} (h : b.sheets[i]? = some y) : Kqb2.isPlus b i = !y.minus := by
  unfold Kqb2.isPlus
  rw [h]
  rfl
theorem wide_at {b : Bench} {i : Nat} {y : Kqb2.Sheet} (h : b.sheets[i]? = some y) : Kqb2.wide b i = y.wide := by
  unfold Kqb2.wide
  rw [h]
  rfl
theorem fit_at {b : Bench} {i j : Nat} {y z : Kqb2.Sheet} (hi : b.sheets[i]? = some y) (hj : b.sheets[j]? = some z) :
    Kqb2.fit b i j = if y.minus = z.minus then false else if y.minus = true then decide (z.wide + 2 * b.reach ≤ y.wide) else decide (y.wide + 2 * b.reach ≤ z.wide) := by
  unfold Kqb2.fit Kqb2.over
  rw [isMinus_at hi, isMinus_at hj, isPlus_at hi, isPlus_at hj, wide_at hi, wide_at hj]
  cases y.minus <;> cases z.minus <;> simp
def sp_fits (T : Txt K mg) : Sp := fun vs H Q _ => ∃ (x : Addr) (i j : Nat) (b : Bench) (Own : Addr → Prop), vs = [.ref x, .int (i : Int), .int (j : Int)] ∧ ShopAt T H x (some b) Own ∧ i < b.sheets.length ∧ j < b.sheets.length ∧ Q (.bl (Kqb2.fit b i j)) H
theorem ok_Shop_fits (T : Txt K mg) : FnOk P w K mg base CX0 3 T.Shop_fits.f T.Shop_fits.fd ["self", "i", "j"] (sp_fits T) := by
  refine T.Shop_fits.F.ok sc_Shop_fits (fun vs H Q E h => ?_) (fun cdv A outer s H vs Q E hr h => ?_)
  · obtain ⟨x, i, j, b, Own, rfl, _⟩ := h
    rfl
  · obtain ⟨x, i, j, b, Own, rfl, ⟨d, l, dk, as, Z, S⟩, hi, hj, k⟩ := h
    refine ⟨_, (pss_cons (ps_set (i := 3) sc_Shop_fits.nd rfl (Or.inl rfl) (pe_ix ix_list (pe_fld (pv 0) rfl) (pv 1) (fun _ _ => rfl)))
          (pss_cons (ps_set (i := 4) sc_Shop_fits.nd rfl (Or.inl rfl) (pe_ix ix_list (pe_fld (pv 0) rfl) (pv 2) (fun _ _ => rfl)))
          (pss_cons (ps_if (pt_cmpR op_eq (pe_fld (pv 3) rfl) (pe_fld (pv 4) rfl) (nomark _))
          (pss_one (ps_ret pe_bl))
          pss_nil)
          (pss_cons (ps_if (pt_val (pe_fld (pv 3) rfl))
          (pss_one (ps_ret (pe_call (ok_reaches_over T) (hr.mono (by decide)) rfl T.reaches_over.g T.reaches_over.F.kp T.reaches_over.b .nil pass0 (pa_cons (pe_fld (pv 3) rfl) (pa_cons (pe_fld (pv 4) rfl) (pa_cons (pe_fld (pv 0) rfl) pa_nil))))))
          pss_nil)
          (pss_one (ps_ret (pe_call (ok_reaches_over T) (hr.mono (by decide)) rfl T.reaches_over.g T.reaches_over.F.kp T.reaches_over.b .nil pass0 (pa_cons (pe_fld (pv 4) rfl) (pa_cons (pe_fld (pv 3) rfl) (pa_cons (pe_fld (pv 0) rfl) pa_nil)))))))))), ?_⟩
    have ei : b.sheets[i]? = some b.sheets[i] := List.getElem?_eq_getElem hi
    have ej : b.sheets[j]? = some b.sheets[j] := List.getElem?_eq_getElem hj
    obtain ⟨a, ha, da, Ha⟩ := S.addr (i := i) ei
    obtain ⟨c, hc, dc, Hc⟩ := S.addr (i := j) ej
    rw [fit_at ei ej] at k
    refine ⟨_, rfl, x, _, d, _, _, rfl, S.obj, T.Shop.cl, T.Shop_no_sheets, F_Shop_sheets, _, rfl, l, _, _, _, rfl, rfl, SqL.of S.lst, atI_map ha, ?_⟩
    refine ⟨_, rfl, x, _, d, _, _, rfl, S.obj, T.Shop.cl, T.Shop_no_sheets, F_Shop_sheets, _, rfl, l, _, _, _, rfl, rfl, SqL.of S.lst, atI_map hc, ?_⟩
    refine ⟨_, rfl, a, _, da, _, _, rfl, Ha, T.Sheet.cl, T.Sheet_no_minus, F_Sheet_minus, _, rfl, c, _, dc, _, _, rfl, Hc, T.Sheet.cl, T.Sheet_no_minus, F_Sheet_minus, rfl, _, rfl, ifb (fun e => ?_) (fun e => ?_)⟩
    · have e' : b.sheets[i].minus = b.sheets[j].minus := by
        have := of_decide_eq_true e
        injection this
      rw [if_pos e'] at k
      exact k
    have e' : ¬ b.sheets[i].minus = b.sheets[j].minus := fun q => by
      rw [q] at e
      simp at e
    rw [if_neg e'] at k
    refine ⟨_, rfl, a, _, da, _, _, rfl, Ha, T.Sheet.cl, T.Sheet_no_minus, F_Sheet_minus, _, rfl, ifb (fun e2 => ?_) (fun e2 => ?_)⟩
    · rw [if_pos e2] at k
      refine ⟨_, rfl, a, _, da, _, _, rfl, Ha, T.Sheet.cl, T.Sheet_no_wide, F_Sheet_wide, _, rfl, c, _, dc, _, _, rfl, Hc, T.Sheet.cl, T.Sheet_no_wide, F_Sheet_wide, _, rfl, x, _, d, _, _, rfl, S.obj, T.Shop.cl, T.Shop_no_reach, F_Shop_reach, _, _, _, rfl, ?_⟩
      rw [← dec_le] at k
      exact k
    · rw [if_neg (by rw [e2]; exact Bool.false_ne_true)] at k
      refine ⟨_, rfl, c, _, dc, _, _, rfl, Hc, T.Sheet.cl, T.Sheet_no_wide, F_Sheet_wide, _, rfl, a, _, da, _, _, rfl, Ha, T.Sheet.cl, T.Sheet_no_wide, F_Sheet_wide, _, rfl, x, _, d, _, _, rfl, S.obj, T.Shop.cl, T.Shop_no_reach, F_Shop_reach, _, _, _, rfl, ?_⟩
      rw [← dec_le] at k
      exact k
end
section
variable {P : Program} {w : World} {K : PySem.W.Frag} {mg : Str → Option Value} {base : Heap}
open Kqb2 (Bench)
def sp_fitting (T : Txt K mg) : Sp := fun vs H Q _ => ∃ (x : Addr) (i : Nat) (b : Bench) (Own : Addr → Prop), vs = [.ref x, .int (i : Int)] ∧ ShopAt T H x (some b) Own ∧ i < b.sheets.length ∧ b.sheets.length ≤ 14 ∧
  ∀ H' p, Same H H' → H p = none → LstAt H' p ((List.range b.sheets.length).filter fun j => Kqb2.fit b i j) → Q (.ref p) H'
theorem no_k {X Y : Hp → Prop} {σ : L2.St} {H : Hp} {b : Bool} (e : b = false) (h : Y H) : if b = true then X H else Y H := by
  rw [e, if_neg Bool.false_ne_true]
  exact h
theorem not_t {b : Bool} (h : (!b) = true) : b = false := by
  cases b with
  | false => rfl
  | true => exact h.symm
theorem not_f {b : Bool} (h : (!b) = false) : b = true := by
  cases b with
  | true => rfl
  | false => exact h.symm
theorem filter_range_succ (p : Nat → Bool) (i : Nat) : (List.range (i + 1)).filter p = (List.range i).filter p ++ if p i = true then [i] else [] := by
  rw [List.range_succ, List.filter_append]
  congr 1
  rw [List.filter_cons, List.filter_nil]
theorem ok_Shop_fitting (T : Txt K mg) : FnOk P w K mg base CX0 4 T.Shop_fitting.f T.Shop_fitting.fd ["self", "i"] (sp_fitting T) := by
  refine T.Shop_fitting.F.ok sc_Shop_fitting (fun vs H Q E h => ?_) (fun cdv A outer s H vs Q E hr h => ?_)
  · obtain ⟨x, i, b, Own, rfl, _⟩ := h
    rfl
  · obtain ⟨x, i, b, Own, rfl, ⟨d, l, dk, as, Z, S⟩, hi, hb, k⟩ := h
    refine ⟨_, (pss_one (ps_ret (pe_lc (own := [("j", 2)]) (g := gName 2) rfl sc_Shop_fitting.nd (pi_range1 rfl T.b_range (pa_cons (pe_callB call_len_seq (by rfl) T.b_len PySem.boot_len (pa_cons (pe_fld (pv 0) rfl) pa_nil)) pa_nil)) (blkOk_by (own := [("j", 2)]) (N := N_Shop_fitting) (sc := defScope s_Shop_fitting) (by decide +kernel)) (fun _ _ _ _ _ => pg_name (i := 2) sc_Shop_fitting.nd rfl (Or.inl rfl)) (fun _ _ _ _ _ => pts_one (pt_val (pe_meth (pv 0) T.Shop.cl T.Shop_fits.m (ok_Shop_fits T) (hr.mono (by decide)) T.Shop_fits.b .nil pass0 (pa_cons (pv 1) (pa_cons (pv 2) pa_nil))))) (fun _ _ _ _ _ => (pv 2))))), ?_⟩
    have la : as.length = b.sheets.length := S.len
    refine ⟨_, rfl, x, _, d, _, _, rfl, S.obj, T.Shop.cl, T.Shop_no_sheets, F_Shop_sheets, _, _, rfl, .inl (.inl (.inl S.lst)), _, rfl, ?_, ?_, fun D nD => ?_⟩
    · omega
    · rw [List.length_map, la]
      omega
    have en : ((as.map V.ref).length : Int).toNat = b.sheets.length := by
      rw [List.length_map, la]
      exact Int.toNat_natCast _
    show ∃ W : Nat → Nat → Hp → Prop, _
    rw [en]
    refine lc_range (lo := 0) (n := b.sheets.length) (fun j H' => Same H H' ∧ LstAt H' D ((List.range j).filter fun j => Kqb2.fit b i j)) ⟨same_upd nD, upd_same⟩ ?_ ?_
    · rintro j H' hj ⟨s1, hD⟩
      refine ⟨rfl, ?_⟩
      refine ⟨_, rfl, x, d, _, rfl, s1 _ _ S.obj, F_Shop_not_fits, _, rfl, _, rfl, x, i, j, b, Own, ?_, ⟨d, l, dk, as, Z, S.keep fun a o _ e => s1 a o e⟩, hi, hj, ?_⟩
      · show [V.ref x, V.int (i : Int), V.int ((0 : Int) + (j : Int))] = _
        rw [Int.zero_add]
      refine ⟨_, rfl, ifb (fun e => ?_) (fun e => ?_)⟩
      · refine ⟨_, rfl, _, hD, sz64 ?_, fun c o e2 => ?_, ?_⟩
        · rw [nints_length]
          have := List.length_filter_le (fun j => Kqb2.fit b i j) (List.range j)
          rw [List.length_range] at this
          omega
        · rw [upd_ne (ne_of_none e2 nD)]
          exact s1 _ _ e2
        · show upd H' D _ D = _
          rw [upd_same, filter_range_succ, if_pos e, nints_append, List.map_append, Int.zero_add]
          rfl
      · refine ⟨s1, ?_⟩
        rw [filter_range_succ, if_neg (by rw [e]; exact Bool.false_ne_true), List.append_nil]
        exact hD
    · rintro H' ⟨s1, hD⟩
      exact k H' D s1 nD hD
def sp_are_sheets (T : Txt K mg) : Sp := fun vs H Q _ => ∃ (x a : Addr) (ls : List Nat) (b : Bench) (Own : Addr → Prop), vs = [.ref x, .ref a] ∧ ShopAt T H x (some b) Own ∧ LstAt H a ls ∧ ls.length ≤ 60 ∧ Q (.bl (Kqb2.okList b ls)) H
theorem ok_Shop_are_sheets (T : Txt K mg) : FnOk P w K mg base CX0 2 T.Shop_are_sheets.f T.Shop_are_sheets.fd ["self", "listed"] (sp_are_sheets T) := by
  refine T.Shop_are_sheets.F.ok sc_Shop_are_sheets (fun vs H Q E h => ?_) (fun cdv A outer s H vs Q E hr h => ?_)
  · obtain ⟨x, a, ls, b, Own, rfl, _⟩ := h
    rfl
  · obtain ⟨x, a, ls, b, Own, rfl, S, ha, hl, k⟩ := h
    refine ⟨_, (pss_cons (ps_for PassesOwn.never rfl (pi_list (pv 1)) (pg_name (i := 2) sc_Shop_are_sheets.nd rfl (Or.inl rfl))
          (pss_one (ps_if (pt_not (pt_val (pe_meth (pv 0) T.Shop.cl T.Shop_has_sheet.m (ok_Shop_has_sheet T) (hr.mono (by decide)) T.Shop_has_sheet.b .nil pass0 (pa_cons (pv 2) pa_nil))))
            (pss_one (ps_ret pe_bl))
            pss_nil)))
          (pss_one (ps_ret (pe_cmpR op_eq (pe_lenSetA rfl T.b_len rfl T.b_set (pv 1)) (pe_callB call_len_seq (by rfl) T.b_len PySem.boot_len (pa_cons (pv 1) pa_nil)) (nomark _))))), ?_⟩
    refine ⟨_, rfl, a, rfl, ⟨_, ha.nats⟩, for_list (K := K) (a := a) (xs := (nints ls).map V.int)
      (fun i σ H' => ∃ v, σ = [some (.ref x), some (.ref a), v] ∧ H' = H ∧ ∀ j < i, ∀ n, ls[j]? = some n → n < b.sheets.length)
      ⟨none, rfl, rfl, fun j h => absurd h (Nat.not_lt_zero j)⟩ (fun i σ H' _ ⟨_, _, e, _⟩ => e ▸ ha.nats) ?_ ?_⟩
    · rintro i y σ H' hy ⟨v, rfl, rfl, hj⟩
      obtain ⟨n, en, rfl⟩ := at_nints hy
      obtain ⟨d, l, dk, as, Z, S'⟩ := id S
      refine ⟨_, rfl, x, d, _, rfl, S'.obj, F_Shop_not_has_sheet, _, rfl, x, n, some b, Own, rfl, S, ?_⟩
      refine ⟨_, rfl, ifb (fun e => ?_) (fun e => ?_)⟩
      · show Q (.bl false) H'
        have c : Kqb2.okList b ls = false := by
          cases c : Kqb2.okList b ls with
          | false => rfl
          | true =>
            have := ((okList_iff b ls).mp c).1 n (List.mem_of_getElem? en)
            have e' : decide (n < b.sheets.length) = false := not_t e
            exact absurd this (of_decide_eq_false e')
        rw [← c]
        exact k
      · refine ⟨_, rfl, rfl, fun j hj2 m em => ?_⟩
        by_cases q : j = i
        · subst q
          rw [en] at em
          have : n = m := Option.some.inj em
          subst this
          have e' : decide (n < b.sheets.length) = true := not_f e
          exact of_decide_eq_true e'
        · exact hj j (by omega) m em
    · rintro σ H' ⟨v, rfl, rfl, hj⟩
      refine ⟨_, rfl, a, nints ls, rfl, ha.nats, (by rw [List.length_map]; omega), _, rfl, _, _, rfl, .inl ha.nats, rfl, ?_⟩
      have all : ∀ i ∈ ls, i < b.sheets.length := fun i hi => by
        obtain ⟨j, h1, e⟩ := List.mem_iff_getElem.mp hi
        exact hj j (by rw [nints_length]; exact h1) i (by rw [List.getElem?_eq_getElem h1, e])
      have c : decide (V.int ((dedup (nints ls)).length : Nat) = V.int (((nints ls).map V.int).length : Nat)) = Kqb2.okList b ls := by
        rw [Bool.eq_iff_iff, okList_iff, decide_eq_true_eq]
        have h1 := dedup_len (nints ls)
        rw [nints_nodup] at h1
        have h2 : ((nints ls).map V.int).length = (nints ls).length := List.length_map ..
        rw [h2]
        constructor
        · intro e
          injection e with e
          exact ⟨all, h1.mp (by omega)⟩
        · rintro ⟨_, e⟩
          rw [h1.mpr e]
      show Q (.bl (decide (V.int ((dedup (nints ls)).length : Nat) = V.int (((nints ls).map V.int).length : Nat)))) H'
      rw [c]
      exact k
end
section
variable {P : Program} {w : World} {K : PySem.W.Frag} {mg : Str → Option Value} {base : Heap}
open Kqb2 (Bench)
/-! ### the dict of stacks -/
theorem inV_nints (n : Nat) (l : List Nat) : inV (.int (n : Int)) ((nints l).map V.int) = l.contains n := by
  unfold inV
  rw [List.any_map, List.any_map, Bool.eq_iff_iff, List.any_eq_true, List.contains_iff_mem]
  constructor
  · rintro ⟨m, hm, e⟩
    have e : ((m : Int) == (n : Int)) = true := e
    rw [beq_iff_eq] at e
    have : m = n := by omega
    exact this ▸ hm
  · intro h
    exact ⟨n, h, show ((n : Int) == (n : Int)) = true from beq_self_eq_true _⟩
theorem flat_nints (l : List Nat) : ((nints l).map V.int).all flatV = true := by
  rw [List.all_map, List.all_eq_true]
  intro z _
  rfl
theorem unlock_same {H H' : Hp} {d : Addr} {u : HO} {od : Obj} (h : H d = some u) (s : Same (upd H d (.frz od u)) H') : Same H (upd H' d u) := fun b o e => by
  by_cases c : b = d
  · rw [c, upd_same]
    rw [c, h] at e
    exact e
  · rw [upd_ne c]
    exact s b o (by rw [upd_ne c]; exact e)
theorem lock_get {H H' : Hp} {d b : Addr} {u o : HO} {od : Obj} (s : Same (upd H d (.frz od u)) H') (h : H b = some o) (ne : b ≠ d) : H' b = some o := s b o (by rw [upd_ne ne]; exact h)
theorem lst_ne_dic {H : Hp} {a d : Addr} {l : List Nat} {kvs : List (L2.Key × V)} (h : LstAt H a l) (hd : H d = some (.dK kvs)) : a ≠ d := ne_of h hd (by intro q; cases q)
theorem kvs_at {Z : List Ent} {i : Nat} {x y : V} (h1 : ((kvsOf Z)[i]?.map fun kv => kV kv.1) = some x) (h2 : ((kvsOf Z)[i]?.map Prod.snd) = some y) : ∃ e, Z[i]? = some e ∧ x = .int (e.1 : Int) ∧ y = .ref e.2.2 := by
  unfold kvsOf at h1 h2
  rw [List.getElem?_map] at h1 h2
  cases e : Z[i]? with
  | none =>
    rw [e] at h1
    cases h1
  | some z =>
    rw [e] at h1 h2
    exact ⟨z, rfl, (Option.some.inj h1).symm, (Option.some.inj h2).symm⟩
theorem kvs_len (Z : List Ent) : (kvsOf Z).length = Z.length := List.length_map _
def sp_has_stack (T : Txt K mg) : Sp := fun vs H Q _ => ∃ (x : Addr) (n : Nat) (s : Option Bench) (Own : Addr → Prop), vs = [.ref x, .int (n : Int)] ∧ ShopAt T H x s Own ∧ Q (.bl ((stacksOf s).getD n none).isSome) H
theorem ok_Shop_has_stack (T : Txt K mg) : FnOk P w K mg base CX0 1 T.Shop_has_stack.f T.Shop_has_stack.fd ["self", "number"] (sp_has_stack T) := by
  refine T.Shop_has_stack.F.ok sc_Shop_has_stack (fun vs H Q E h => ?_) (fun cdv A outer s H vs Q E hr h => ?_)
  · obtain ⟨x, n, s, Own, rfl, _⟩ := h
    rfl
  · obtain ⟨x, n, s, Own, rfl, ⟨d, l, dk, as, Z, S⟩, k⟩ := h
    refine ⟨_, (pss_one (ps_ret (pe_cmp (pc_din (hu_of hr) (pv 1) (pe_fld (pv 0) rfl)) rfl))), ?_⟩
    refine ⟨_, rfl, _, rfl, x, _, d, _, _, rfl, S.obj, T.Shop.cl, T.Shop_no_stacks, F_Shop_stacks, dk, _, rfl, DGet.k (k := Sum.inl (n : Int)) S.dic, ?_⟩
    rcases S.ents.get n with ⟨e1, e2, _⟩ | ⟨ls, c, e1, _, _, e2⟩
    · rw [e1] at k
      rw [e2]
      exact k
    · rw [e1] at k
      rw [e2]
      exact k
def sp_stack_of (T : Txt K mg) : Sp := fun vs H Q _ => ∃ (x : Addr) (i : Nat) (y : Kqb2.Sheet) (b : Bench) (Own : Addr → Prop), vs = [.ref x, .int (i : Int)] ∧ ShopAt T H x (some b) Own ∧ WF b ∧ b.sheets[i]? = some y ∧ ∀ H', Same H H' → Q (stackV y.stack) H'
theorem ok_Shop_stack_of (T : Txt K mg) : FnOk P w K mg base CX0 1 T.Shop_stack_of.f T.Shop_stack_of.fd ["self", "i"] (sp_stack_of T) := by
  refine T.Shop_stack_of.F.ok sc_Shop_stack_of (fun vs H Q E h => ?_) (fun cdv A outer s H vs Q E hr h => ?_)
  · obtain ⟨x, i, y, b, Own, rfl, _⟩ := h
    rfl
  · obtain ⟨x, i, y, b, Own, rfl, ⟨d, l, dk, as, Z, S⟩, w1, hy, k⟩ := h
    refine ⟨_, (pss_cons (ps_lock (ps_for PassesOwn.never rfl (pi_items (pe_fld (pv 0) rfl)) (pg_tup rfl (pgs_cons (pg_name (i := 2) sc_Shop_stack_of.nd rfl (Or.inl rfl)) (pgs_cons (pg_name (i := 3) sc_Shop_stack_of.nd rfl (Or.inl rfl)) pgs_nil)))
          (pss_one (ps_if (pt_cmpR op_in_seq (pv 1) (pv 3) (by rfl))
            (pss_one (ps_ret (pv 2)))
            pss_nil))))
          (pss_one (ps_ret pe_non))), ?_⟩
    refine ⟨dk, _, S.dic, True.intro, fun od => ?_⟩
    refine ⟨_, rfl, x, _, d, _, _, rfl, (by rw [upd_ne S.n_xd]; exact S.obj), T.Shop.cl, T.Shop_no_stacks, F_Shop_stacks, dk, od, kvsOf Z, rfl, upd_same, ?_⟩
    refine for_it walk_items
      (fun j σ H' => ∃ v2 v3, σ = [some (.ref x), some (.int (i : Int)), v2, v3] ∧ Same (upd H dk (.frz od (.dK (kvsOf Z)))) H' ∧ ∀ m < j, ∀ e, Z[m]? = some e → i ∉ e.2.1)
      ⟨none, none, rfl, Same.refl _, fun m h => absurd h (Nat.not_lt_zero m)⟩ (fun j σ H' _ ⟨_, _, _, s1, _⟩ => s1 _ _ upd_same) ?_ ?_
    · rintro j v σ H0 H1 hj ⟨v2, v3, rfl, s1, hm⟩ ⟨t, u1, u2, rfl, nt, rfl, h1, h2⟩
      obtain ⟨e, he, rfl, rfl⟩ := kvs_at h1 h2
      have hz := List.mem_of_getElem? he
      have s2 : Same H0 (upd H0 t (.tup [.int (e.1 : Int), .ref e.2.2])) := same_upd nt
      have hl : LstAt (upd H0 t (.tup [.int (e.1 : Int), .ref e.2.2])) e.2.2 e.2.1 := s2 _ _ (lock_get s1 (S.lists e hz).1 (lst_ne_dic (S.lists e hz).1 S.dic))
      have hst := (S.ents.rel e.1 e.2.1).mp ⟨e.2.2, hz⟩
      refine ⟨t, _, rfl, .inl (.inl upd_same), rfl, _, _, rfl, _, _, rfl, rfl, ?_⟩
      refine ⟨_, rfl, _, rfl, e.2.2, _, rfl, .inl hl.nats, rfl, flat_nints _, ?_⟩
      rw [inV_nints]
      refine ⟨_, rfl, ifb (fun q => ?_) (fun q => ?_)⟩
      · have hi : i ∈ e.2.1 := List.contains_iff_mem.mp q
        have hs := (w1.mark i y hy e.1).mpr ⟨e.2.1, hst, hi⟩
        refine ⟨_, rfl, s2 _ _ (s1 _ _ upd_same), ?_⟩
        have := k (upd (upd H0 t (.tup [.int (e.1 : Int), .ref e.2.2])) dk (.dK (kvsOf Z))) (unlock_same S.dic (s1.trans s2))
        rw [hs] at this
        exact this
      · refine ⟨_, _, rfl, s1.trans s2, fun m hm2 e' he' => ?_⟩
        by_cases c : m = j
        · subst c
          rw [he] at he'
          have := Option.some.inj he'
          subst this
          exact fun hi => by
            rw [List.contains_iff_mem.mpr hi] at q
            cases q
        · exact hm m (by omega) e' he'
    · rintro σ H1 ⟨v2, v3, rfl, s1, hm⟩
      refine ⟨s1 _ _ upd_same, ?_⟩
      have hs : y.stack = 0 := by
        cases e : y.stack with
        | zero => rfl
        | succ n =>
          obtain ⟨ls, h1, h2⟩ := (w1.mark i y hy n).mp e
          obtain ⟨c, hc⟩ := (S.ents.rel n ls).mpr h1
          obtain ⟨m, hm1, hm2⟩ := List.mem_iff_getElem.mp hc
          exact absurd h2 (hm m (by rw [kvs_len]; exact hm1) (n, ls, c) (by rw [List.getElem?_eq_getElem hm1, hm2]))
      have := k _ (unlock_same S.dic s1)
      rw [hs] at this
      exact this
def sp_is_loose (T : Txt K mg) : Sp := fun vs H Q _ => ∃ (x : Addr) (i : Nat) (y : Kqb2.Sheet) (b : Bench) (Own : Addr → Prop), vs = [.ref x, .int (i : Int)] ∧ ShopAt T H x (some b) Own ∧ WF b ∧ b.sheets[i]? = some y ∧ ∀ H', Same H H' → Q (.bl (decide (y.stack = 0))) H'
theorem stack_isnon (n : Nat) : decide (stackV n = V.non) = decide (n = 0) := by
  unfold stackV
  by_cases c : n = 0
  · rw [if_pos c, decide_eq_true rfl, decide_eq_true c]
  · rw [if_neg c, decide_eq_false (by intro h; cases h), decide_eq_false c]
theorem ok_Shop_is_loose (T : Txt K mg) : FnOk P w K mg base CX0 2 T.Shop_is_loose.f T.Shop_is_loose.fd ["self", "i"] (sp_is_loose T) := by
  refine T.Shop_is_loose.F.ok sc_Shop_is_loose (fun vs H Q E h => ?_) (fun cdv A outer s H vs Q E hr h => ?_)
  · obtain ⟨x, i, y, b, Own, rfl, _⟩ := h
    rfl
  · obtain ⟨x, i, y, b, Own, rfl, S, w1, hy, k⟩ := h
    obtain ⟨d, l, dk, as, Z, S'⟩ := id S
    refine ⟨_, (pss_one (ps_ret (pe_cmpR op_isN (pe_meth (pv 0) T.Shop.cl T.Shop_stack_of.m (ok_Shop_stack_of T) (hr.mono (by decide)) T.Shop_stack_of.b .nil pass0 (pa_cons (pv 1) pa_nil)) pe_non (nomark _)))), ?_⟩
    refine ⟨_, rfl, x, d, _, rfl, S'.obj, F_Shop_not_stack_of, _, rfl, x, i, y, b, Own, rfl, S, w1, hy, fun H1 s1 => ⟨rfl, ?_⟩⟩
    rw [stack_isnon]
    exact k H1 s1
end
section
variable {P : Program} {w : World} {K : PySem.W.Frag} {mg : Str → Option Value} {base : Heap}
open Kqb2 (Bench)
def sizeOk (n : Nat) : Bool := decide (3 ≤ n) && decide (n % 2 = 1)
def sp_size_ok : Sp := fun vs H Q _ => ∃ n : Nat, vs = [.int (n : Int)] ∧ Q (.bl (sizeOk n)) H
theorem ok_is_size_of_stack (T : Txt K mg) : FnOk P w K mg base CX0 1 T.is_size_of_stack.f T.is_size_of_stack.fd ["count"] sp_size_ok := by
  refine T.is_size_of_stack.F.ok sc_is_size_of_stack (fun vs H Q E h => ?_) (fun cdv A outer s H vs Q E hr h => ?_)
  · obtain ⟨n, rfl, _⟩ := h
    rfl
  · obtain ⟨n, rfl, k⟩ := h
    refine ⟨_, (pss_one (ps_ret (pe_and (pe_cmpR op_ge (pv 0) (pe_glob (v := V.int (3)) rfl T.LEAST_IN_STACK.g ⟨_, rfl⟩) (nomark _)) (pe_one (pe_cmpR op_eq (pe_op op_mod (pv 0) pe_int) pe_int (nomark _)))))), ?_⟩
    refine ⟨_, rfl, _, _, rfl, rfl, _, rfl, ifb (fun e => ?_) (fun e => ?_)⟩
    · have e1 : 3 ≤ n := by
        have : (3 : Int) ≤ (n : Int) := of_decide_eq_true e
        omega
      refine ⟨_, rfl, _, _, rfl, rfl, (by show (0 : Int) < 2; decide), rfl, ?_⟩
      have e2 : decide (V.int ((n : Int) % 2) = V.int 1) = decide (n % 2 = 1) := by
        by_cases c : n % 2 = 1
        · have : (n : Int) % 2 = 1 := by omega
          rw [decide_eq_true c, this, decide_eq_true rfl]
        · rw [decide_eq_false c, decide_eq_false (fun q => c (by have := V.int.inj q; omega))]
      show Q (.bl (decide (V.int ((n : Int) % 2) = V.int 1))) H
      rw [e2]
      unfold sizeOk at k
      rw [decide_eq_true e1] at k
      exact k
    · have e1 : ¬ 3 ≤ n := by
        have : ¬ (3 : Int) ≤ (n : Int) := of_decide_eq_false e
        omega
      unfold sizeOk at k
      rw [decide_eq_false e1] at k
      exact k
theorem nints_at {l : List Nat} {i n : Nat} (h : l[i]? = some n) : (nints l)[i]? = some (n : Int) := by
  rw [List.getElem?_map, h]
  rfl
theorem cut_tail (ls : List Nat) : cutV ((nints ls).map V.int) (some 1) none = (nints (ls.drop 1)).map V.int := by
  unfold cutV
  rw [HT.sIx_none, show (some 1 : Option Int) = some ((1 : Nat) : Int) from rfl, HT.sIx_nat, nints_length]
  cases ls with
  | nil => rfl
  | cons x l =>
    rw [show min 1 (x :: l).length = 1 by rw [List.length_cons]; omega]
    rw [List.take_of_length_le (by rw [List.length_drop, nints_length]; exact Nat.le_refl _)]
    rfl
theorem stack_eq (b : Bench) (ls : List Nat) : Kqb2.stack b ls = (sizeOk ls.length && Kqb2.isMinus b (ls.headD 0) && ((ls.zip (ls.drop 1)).map fun p => Kqb2.fit b p.1 p.2).all id) := by
  unfold Kqb2.stack sizeOk
  rw [List.all_map, Bool.and_comm (decide (ls.length % 2 = 1))]
  rfl
def sp_is_stack (T : Txt K mg) : Sp := fun vs H Q _ => ∃ (x a : Addr) (ls : List Nat) (b : Bench) (Own : Addr → Prop), vs = [.ref x, .ref a] ∧ ShopAt T H x (some b) Own ∧ LstAt H a ls ∧ ls.length ≤ 60 ∧ (∀ i ∈ ls, i < b.sheets.length) ∧ ∀ H', Same H H' → Q (.bl (Kqb2.stack b ls)) H'
theorem ok_Shop_is_stack (T : Txt K mg) : FnOk P w K mg base CX0 4 T.Shop_is_stack.f T.Shop_is_stack.fd ["self", "listed"] (sp_is_stack T) := by
  refine T.Shop_is_stack.F.ok sc_Shop_is_stack (fun vs H Q E h => ?_) (fun cdv A outer s H vs Q E hr h => ?_)
  · obtain ⟨x, a, ls, b, Own, rfl, _⟩ := h
    rfl
  · obtain ⟨x, a, ls, b, Own, rfl, S, ha, hl, bl, k⟩ := h
    refine ⟨_, (pss_cons (ps_if (PW.pt (pw_or (pt_not (pt_val (pe_call (ok_is_size_of_stack T) (hr.mono (by decide)) rfl T.is_size_of_stack.g T.is_size_of_stack.F.kp T.is_size_of_stack.b .nil pass0 (pa_cons (pe_callB call_len_seq (by rfl) T.b_len PySem.boot_len (pa_cons (pv 1) pa_nil)) pa_nil)))) (pw_or1 (pt_not (pt_val (pe_fld (pe_ix ix_list (pe_fld (pv 0) rfl) (pe_ix ix_list (pv 1) pe_int (fun _ _ => rfl)) (fun _ _ => rfl)) rfl))))))
          (pss_one (ps_ret pe_bl))
          pss_nil)
          (pss_one (ps_ret (pe_callB (cr_all rfl) (by rfl) T.b_all (by decide +kernel) (pa_cons (pe_lc (own := [("lower", 2), ("upper", 3)]) (g := gTup K 2 (gCons (gName 2) (gCons (gName 3) gNil))) (tt := tYes) rfl sc_Shop_is_stack.nd (pi_zip (by rfl) T.b_zip (pa_cons (pv 1) (pa_cons (pe_slice sl_list (pv 1) (po_some pe_int) po_none) pa_nil))) (blkOk_by (own := [("lower", 2), ("upper", 3)]) (N := N_Shop_is_stack) (sc := defScope s_Shop_is_stack) (by decide +kernel)) (fun _ _ _ _ _ => (pg_tup rfl (pgs_cons (pg_name (i := 2) sc_Shop_is_stack.nd rfl (Or.inl rfl)) (pgs_cons (pg_name (i := 3) sc_Shop_is_stack.nd rfl (Or.inl rfl)) pgs_nil)))) (fun _ _ _ _ _ => pts_nil) (fun _ _ _ _ _ => (pe_meth (pv 0) T.Shop.cl T.Shop_fits.m (ok_Shop_fits T) (hr.mono (by decide)) T.Shop_fits.b .nil pass0 (pa_cons (pv 2) (pa_cons (pv 3) pa_nil))))) pa_nil))))), ?_⟩
    obtain ⟨d, l, dk, as, Z, S'⟩ := id S
    refine ⟨_, rfl, _, _, rfl, .inl ha.nats, ls.length, by rw [nints_length]; rfl, _, rfl, ifb (fun e => iteT ?_) (fun e => ?_)⟩
    · have := k H (Same.refl H)
      rw [stack_eq, not_t e] at this
      exact this
    have e1 := not_f e
    have h3 : 3 ≤ ls.length := by
      unfold sizeOk at e1
      rw [Bool.and_eq_true, decide_eq_true_eq] at e1
      exact e1.1
    have h0 : ls[0]? = some ls[0] := List.getElem?_eq_getElem (by omega)
    have hd : ls.headD 0 = ls[0] := by
      cases ls with
      | nil => exact absurd h3 (by decide)
      | cons z l => rfl
    have b0 : ls[0] < b.sheets.length := bl _ (List.mem_of_getElem? h0)
    have y0 : b.sheets[ls[0]]? = some b.sheets[ls[0]] := List.getElem?_eq_getElem b0
    obtain ⟨c, hc, dc, Hc⟩ := S'.addr (i := ls[0]) y0
    refine ⟨_, rfl, x, _, d, _, _, rfl, S'.obj, T.Shop.cl, T.Shop_no_sheets, F_Shop_sheets, _, rfl, a, _, _, _, rfl, rfl, ha.nats, atI_map (i := 0) (nints_at h0), ?_⟩
    refine ⟨l, _, _, _, rfl, rfl, SqL.of S'.lst, atI_map hc, c, _, dc, _, _, rfl, Hc, T.Sheet.cl, T.Sheet_no_minus, F_Sheet_minus, _, rfl, ifb (fun e => ?_) (fun e => ?_)⟩
    · have := k H (Same.refl H)
      rw [stack_eq, e1, hd, isMinus_at y0, not_t e] at this
      exact this
    have e2 := not_f e
    refine ⟨_, rfl, _, rfl, _, rfl, a, _, rfl, ha.nats, fun q nq => ?_⟩
    rw [cut_tail]
    have s1 : Same H (upd H q (.lst ((nints (ls.drop 1)).map V.int))) := same_upd nq
    refine ⟨a, q, _, _, rfl, (ha.same s1).nats, .inl (.inl upd_same), fun D nD => ?_⟩
    have s2 := s1.trans (same_upd (o := .lst []) nD)
    refine lc_it (walk_zip (n := ls.length - 1) (by rw [nints_length, nints_length, List.length_drop]; omega))
      (fun j H' => Same (upd H q (.lst ((nints (ls.drop 1)).map V.int))) H' ∧ H' D = some (.lst ((((ls.zip (ls.drop 1)).take j).map fun p => Kqb2.fit b p.1 p.2).map V.bl)))
      ⟨same_upd nD, upd_same⟩ (fun j H' _ ⟨s', _⟩ => ⟨(ha.same (s1.trans s')).nats, .inl (.inl (s' _ _ upd_same))⟩) ?_ ?_
    · rintro j v H0 H1 hj ⟨s', hD⟩ ⟨t, u1, u2, rfl, nt, rfl, h1, h2⟩
      obtain ⟨n, en, rfl⟩ := at_nints h1
      obtain ⟨m, em, rfl⟩ := at_nints h2
      have s3 : Same H0 (upd H0 t (.tup [.int (n : Int), .int (m : Int)])) := same_upd nt
      have bn := bl n (List.mem_of_getElem? en)
      have bm := bl m (List.mem_of_mem_drop (List.mem_of_getElem? em))
      have ez : (ls.zip (ls.drop 1))[j]? = some (n, m) := List.getElem?_zip_eq_some.mpr ⟨en, em⟩
      refine ⟨t, _, rfl, .inl (.inl upd_same), rfl, _, _, rfl, _, _, rfl, rfl, ⟨rfl, yes_k ?_⟩⟩
      have s4 := (s1.trans s').trans s3
      refine ⟨_, rfl, x, d, _, rfl, s4 _ _ S'.obj, F_Shop_not_fits, _, rfl, _, rfl, x, n, m, b, Own, rfl, S.same s4, bn, bm, ?_⟩
      have ntD : D ≠ t := ne_of_none hD nt
      refine ⟨_, by rw [upd_ne ntD]; exact hD, sz64 (by rw [List.length_map, List.length_map, List.length_take, List.length_zip]; omega), fun b' o' e4 => ?_, ?_⟩
      · rw [upd_ne (ne_of_none e4 nD), upd_ne (ne_of_none (s' _ _ e4) nt)]
        exact s' _ _ e4
      · rw [upd_same, take_snoc ez, List.map_append, List.map_append]
        rfl
    · rintro H' ⟨s', hD⟩
      rw [List.take_of_length_le (by rw [List.length_zip, List.length_drop]; omega)] at hD
      refine ⟨D, _, rfl, .inl (.inl hD), ?_⟩
      have := k H' (s1.trans s')
      rw [stack_eq, e1, hd, isMinus_at y0, e2] at this
      exact this
end
section
variable {P : Program} {w : World} {K : PySem.W.Frag} {mg : Str → Option Value} {base : Heap}
open Kqb2 (Bench)
theorem ents_new {Z : List Ent} {ss : List (Option (List Nat))} (h : Ents Z ss) (ls : List Nat) (c : Addr) : Ents (Z ++ [(Kqb2.slot ss, ls, c)]) (Kqb2.putIn ss ls) := by
  have hs := slot_spec ss
  have free : ∀ e ∈ Z, e.1 ≠ Kqb2.slot ss := fun ⟨n, l', c'⟩ he q => by
    have q : n = Kqb2.slot ss := q
    subst q
    exact hs.2.1 l' ((h.rel _ l').mp ⟨c', he⟩)
  refine ⟨?_, fun n l' => ?_⟩
  · rw [List.map_append]
    refine List.nodup_append.mpr ⟨h.keys, by simp, fun a ha b hb e => ?_⟩
    obtain ⟨z, hz, rfl⟩ := List.mem_map.mp ha
    have : b = Kqb2.slot ss := by simpa using hb
    exact free z hz (e.trans this)
  · rw [putIn_get]
    by_cases c1 : n = Kqb2.slot ss
    · rw [if_pos c1]
      subst c1
      constructor
      · rintro ⟨c', hc⟩
        rcases List.mem_append.mp hc with hc | hc
        · exact absurd rfl (free _ hc)
        · have : ((Kqb2.slot ss, l', c') : Ent) = (Kqb2.slot ss, ls, c) := by simpa using hc
          rw [(Prod.mk.inj (Prod.mk.inj this).2).1]
      · intro e
        have := Option.some.inj (Option.some.inj e)
        subst this
        exact ⟨c, List.mem_append_right _ List.mem_cons_self⟩
    · rw [if_neg c1, ← h.rel n l']
      constructor
      · rintro ⟨c', hc⟩
        rcases List.mem_append.mp hc with hc | hc
        · exact ⟨c', hc⟩
        · have : ((n, l', c') : Ent) = (Kqb2.slot ss, ls, c) := by simpa using hc
          exact absurd (Prod.mk.inj this).1 c1
      · rintro ⟨c', hc⟩
        exact ⟨c', List.mem_append_left _ hc⟩
theorem ents_len {Z : List Ent} {ss : List (Option (List Nat))} (h : Ents Z ss) : Z.length ≤ ss.length := by
  have := nodup_sub (Z.map (·.1)) (List.range ss.length) h.keys fun n hn => by
    obtain ⟨⟨m, l, c⟩, hz, rfl⟩ := List.mem_map.mp hn
    exact List.mem_range.mpr (List.getElem?_eq_some_iff.mp ((h.rel m l).mp ⟨c, hz⟩)).1
  rw [List.length_map, List.length_range] at this
  exact this
theorem mark_sheets {T : Txt K mg} {H H' : Hp} {as : List Addr} {b : Bench} {l : List Nat} {n : Nat} (h : ∀ (i : Nat) (a : Addr) (y : Kqb2.Sheet), as[i]? = some a → b.sheets[i]? = some y → SheetAt T H a y) (k : ∀ a ∈ as, ∀ o, H a = some o → H' a = some o) :
    ∀ (i : Nat) (a : Addr) (y : Kqb2.Sheet), as[i]? = some a → (Kqb2.mark b l n)[i]? = some y → SheetAt T H' a y := fun i a y h1 h2 => by
  obtain ⟨u, hu, e1, e2, _⟩ := mark_at h2
  obtain ⟨d, hd⟩ := h i a u h1 hu
  rw [← e1, ← e2] at hd
  exact ⟨d, k a (List.mem_of_getElem? h1) _ hd⟩
def sp_lay_stack (T : Txt K mg) : Sp := fun vs H Q _ => ∃ (x a : Addr) (ls : List Nat) (b : Bench) (Own : Addr → Prop), vs = [.ref x, .ref a] ∧ ShopAt T H x (some b) Own ∧ WF b ∧ LstAt H a ls ∧
  ∀ H' Own', ShopAt T H' x (some { b with sheets := Kqb2.mark b ls (Kqb2.slot b.stacks + 1), stacks := Kqb2.putIn b.stacks ls }) Own' → Did H H' Own Own' → Q (.int (Kqb2.slot b.stacks : Int)) H'
theorem ok_Shop_lay_stack (T : Txt K mg) : FnOk P w K mg base CX0 1 T.Shop_lay_stack.f T.Shop_lay_stack.fd ["self", "listed"] (sp_lay_stack T) := by
  refine T.Shop_lay_stack.F.ok sc_Shop_lay_stack (fun vs H Q E h => ?_) (fun cdv A outer s H vs Q E hr h => ?_)
  · obtain ⟨x, a, ls, b, Own, rfl, _⟩ := h
    rfl
  · obtain ⟨x, a, ls, b, Own, rfl, ⟨d, l, dk, as, Z, S⟩, w1, ha, k⟩ := h
    refine ⟨_, (pss_cons (ps_set (i := 2) sc_Shop_lay_stack.nd rfl (Or.inl rfl) pe_int)
          (pss_cons (ps_while PassesOwn.never (pt_cmp (pc_din (hu_of hr) (pv 2) (pe_fld (pv 0) rfl)))
          (pss_one (ps_aug (i := 2) sc_Shop_lay_stack.nd rfl (.inl rfl) pe_int ip_add)))
          (pss_cons (ps_dput (hu_of hr) (pe_fld (pv 0) rfl) (pv 2) (pe_callTy call_list_of (by rfl) T.b_list (by decide +kernel) (pa_cons (pv 1) pa_nil)) rfl)
          (pss_one (ps_ret (pv 2)))))), ?_⟩
    have hs := slot_spec b.stacks
    have hget := S.ents.get
    refine ⟨fun m σ H' => ∃ n : Nat, σ = [some (.ref x), some (.ref a), some (.int (n : Int))] ∧ H' = H ∧ n ≤ Kqb2.slot b.stacks ∧ m = Kqb2.slot b.stacks - n, ⟨_, 0, rfl, rfl, Nat.zero_le _, rfl⟩, ?_⟩
    rintro m σ H' ⟨n, rfl, rfl, hn, rfl⟩
    refine ⟨_, rfl, _, rfl, x, _, d, _, _, rfl, S.obj, T.Shop.cl, T.Shop_no_stacks, F_Shop_stacks, dk, _, rfl, DGet.k (k := Sum.inl (n : Int)) S.dic, ?_⟩
    rcases hget n with ⟨e1, e2, e3⟩ | ⟨l1, c, e1, e4, e3, e2⟩
    · rw [e2]
      have en : n = Kqb2.slot b.stacks := by
        by_cases c : n < Kqb2.slot b.stacks
        · obtain ⟨l2, h2⟩ := hs.2.2 n c
          have e1 : b.stacks.getD n none = none := e1
          rw [getD_some.mpr h2] at e1
          cases e1
        · omega
      subst en
      refine ⟨_, rfl, iteF ?_⟩
      refine ⟨_, rfl, a, _, rfl, .inl ha.nats, fun c nc => ?_⟩
      have s1 : Same H' (upd H' c (.lst ((nints ls).map V.int))) := same_upd nc
      refine ⟨_, rfl, x, _, d, _, _, rfl, s1 _ _ S.obj, T.Shop.cl, T.Shop_no_stacks, F_Shop_stacks, _, rfl, dk, _, rfl, DPut.k (k := Sum.inl (Kqb2.slot b.stacks : Int)) (s1 _ _ S.dic) (sz64 ?_), ?_⟩
      · rw [kvs_len]
        have h1 : Z.length ≤ b.stacks.length := ents_len S.ents
        have := w1.room
        omega
      rw [putK_new _ e2]
      have ek : kvsOf Z ++ [((Sum.inl (Kqb2.slot b.stacks : Int) : L2.Key), V.ref c)] = kvsOf (Z ++ [(Kqb2.slot b.stacks, ls, c)]) := by
        unfold kvsOf
        rw [List.map_append]
        rfl
      rw [ek]
      have ncd : c ≠ dk := (ne_of_none S.dic nc).symm
      have kp : ∀ q o, q ≠ dk → H' q = some o → (upd (upd H' c (.lst ((nints ls).map V.int))) dk (.dK (kvsOf (Z ++ [(Kqb2.slot b.stacks, ls, c)])))) q = some o := fun q o ne e => by
        rw [upd_ne ne]
        exact s1 _ _ e
      refine ⟨_, rfl, k _ (fun q => q = x ∨ q = l ∨ q = dk ∨ q ∈ as ∨ ∃ e ∈ Z ++ [(Kqb2.slot b.stacks, ls, c)], e.2.2 = q) ⟨d, l, dk, as, Z ++ [(Kqb2.slot b.stacks, ls, c)], kp _ _ S.n_xd S.obj, kp _ _ S.n_ld S.lst, upd_same, S.nd, ?_, ?_, ents_new S.ents ls c, fun e he => ?_, fun q => Iff.rfl⟩ ⟨fun q o e ne => ?_, fun q hq => ?_, fun q o e => ?_⟩⟩
      · show as.length = (Kqb2.mark b ls _).length
        rw [mark_length]
        exact S.len
      · refine mark_sheets (H := H') S.at_ fun q hq o e => kp q o ?_ e
        obtain ⟨y, hy⟩ := S.sheet hq
        exact SheetAt.ne_dic hy S.dic
      · rcases List.mem_append.mp he with he | he
        · exact ⟨kp _ _ (lst_ne_dic (S.lists e he).1 S.dic) (S.lists e he).1, (S.lists e he).2⟩
        · have : e = (Kqb2.slot b.stacks, ls, c) := by simpa using he
          subst this
          refine ⟨?_, (ne_of_none S.lst nc).symm⟩
          show upd _ dk _ c = _
          rw [upd_ne ncd, upd_same]
      · exact kp _ _ (fun z => ne (z ▸ S.own_d)) e
      · rcases hq with rfl | rfl | rfl | h | ⟨e, he, rfl⟩
        · exact .inl S.own_x
        · exact .inl S.own_l
        · exact .inl S.own_d
        · exact .inl (S.own_a h)
        · rcases List.mem_append.mp he with he | he
          · exact .inl (S.own_e he)
          · have : e = (Kqb2.slot b.stacks, ls, c) := by simpa using he
            subst this
            exact .inr nc
      · by_cases z : q = dk
        · subst z
          exact ⟨_, upd_same⟩
        · exact ⟨o, kp q o z e⟩
    · rw [e2]
      have hn2 : n < Kqb2.slot b.stacks := by
        by_cases c : n = Kqb2.slot b.stacks
        · subst c
          exact absurd e4 (hs.2.1 l1)
        · omega
      refine ⟨_, rfl, iteT ?_⟩
      refine ⟨fun σ' H'' => ∃ m', m' < Kqb2.slot b.stacks - n ∧ _, fun σ' H'' h => h, ?_⟩
      exact ⟨_, rfl, _, _, rfl, rfl, _, by omega, n + 1, rfl, rfl, hn2, rfl⟩
theorem filter_kvs (Z : List Ent) (n : Nat) : dropK (kvsOf Z) (Sum.inl (n : Int) : L2.Key) = kvsOf (Z.filter fun e => decide (e.1 ≠ n)) := by
  unfold dropK kvsOf
  rw [List.filter_map]
  congr 1
  refine List.filter_congr fun e _ => ?_
  show decide ((Sum.inl (e.1 : Int) : L2.Key) ≠ Sum.inl (n : Int)) = decide (e.1 ≠ n)
  exact decide_eq_decide.mpr ⟨fun h q => h (by rw [q]), fun h q => h (by have := Sum.inl.inj q; omega)⟩
theorem ents_drop {Z : List Ent} {ss : List (Option (List Nat))} (h : Ents Z ss) (n : Nat) : Ents (Z.filter fun e => decide (e.1 ≠ n)) (ss.set n none) := by
  refine ⟨h.keys.sublist (List.filter_sublist.map _), fun m l => ?_⟩
  constructor
  · rintro ⟨c, hc⟩
    obtain ⟨h1, h2⟩ := List.mem_filter.mp hc
    have h2 : m ≠ n := of_decide_eq_true h2
    rw [List.getElem?_set_ne (fun q => h2 q.symm)]
    exact (h.rel m l).mp ⟨c, h1⟩
  · intro e
    rcases list_at_set e with ⟨_, q⟩ | ⟨h2, e⟩
    · cases q
    · obtain ⟨c, hc⟩ := (h.rel m l).mpr e
      exact ⟨c, List.mem_filter.mpr ⟨hc, decide_eq_true h2⟩⟩
def sp_take_stack (T : Txt K mg) : Sp := fun vs H Q _ => ∃ (x : Addr) (n : Nat) (ls : List Nat) (b : Bench) (Own : Addr → Prop), vs = [.ref x, .int (n : Int)] ∧ ShopAt T H x (some b) Own ∧ b.stacks[n]? = some (some ls) ∧
  ∀ H' Own' c, ShopAt T H' x (some { b with sheets := Kqb2.mark b ls 0, stacks := b.stacks.set n none }) Own' → Did H H' Own Own' → LstAt H' c ls → Q (.ref c) H'
theorem ok_Shop_take_stack (T : Txt K mg) : FnOk P w K mg base CX0 1 T.Shop_take_stack.f T.Shop_take_stack.fd ["self", "number"] (sp_take_stack T) := by
  refine T.Shop_take_stack.F.ok sc_Shop_take_stack (fun vs H Q E h => ?_) (fun cdv A outer s H vs Q E hr h => ?_)
  · obtain ⟨x, n, ls, b, Own, rfl, _⟩ := h
    rfl
  · obtain ⟨x, n, ls, b, Own, rfl, ⟨d, l, dk, as, Z, S⟩, hn, k⟩ := h
    refine ⟨_, (pss_one (ps_ret (pe_dpop1 (pe_fld (pv 0) rfl) (pv 1) ⟨rfl, rfl, rfl, rfl⟩))), ?_⟩
    obtain ⟨c, hc⟩ := (S.ents.rel n ls).mpr hn
    have hv := valV_hit S.ents.keys hc
    refine ⟨_, rfl, x, _, d, _, _, rfl, S.obj, T.Shop.cl, T.Shop_no_stacks, F_Shop_stacks, dk, rfl, .inl ⟨_, .inl S.dic⟩, _, rfl, _, (Sum.inl (n : Int) : L2.Key), _, S.dic, rfl, hv, ?_⟩
    rw [filter_kvs]
    have kp : ∀ q o, q ≠ dk → H q = some o → (upd H dk (.dK (kvsOf (Z.filter fun e => decide (e.1 ≠ n))))) q = some o := fun q o ne e => by
      rw [upd_ne ne]
      exact e
    have sub : ∀ e ∈ Z.filter (fun e => decide (e.1 ≠ n)), e ∈ Z := fun e he => (List.mem_filter.mp he).1
    refine k _ (fun q => q = x ∨ q = l ∨ q = dk ∨ q ∈ as ∨ ∃ e ∈ Z.filter (fun e => decide (e.1 ≠ n)), e.2.2 = q) c ⟨d, l, dk, as, Z.filter (fun e => decide (e.1 ≠ n)), kp _ _ S.n_xd S.obj, kp _ _ S.n_ld S.lst, upd_same, S.nd, ?_, ?_, ents_drop S.ents n, fun e he => ⟨kp _ _ (lst_ne_dic (S.lists e (sub e he)).1 S.dic) (S.lists e (sub e he)).1, (S.lists e (sub e he)).2⟩, fun q => Iff.rfl⟩ ⟨fun q o e ne => ?_, fun q hq => ?_, fun q o e => ?_⟩ ?_
    · show as.length = (Kqb2.mark b ls _).length
      rw [mark_length]
      exact S.len
    · refine mark_sheets (H := H) S.at_ fun q hq o e => kp q o ?_ e
      obtain ⟨y, hy⟩ := S.sheet hq
      exact SheetAt.ne_dic hy S.dic
    · exact kp _ _ (fun z => ne (z ▸ S.own_d)) e
    · rcases hq with rfl | rfl | rfl | h | ⟨e, he, rfl⟩
      · exact .inl S.own_x
      · exact .inl S.own_l
      · exact .inl S.own_d
      · exact .inl (S.own_a h)
      · exact .inl (S.own_e (sub e he))
    · by_cases z : q = dk
      · subst z
        exact ⟨_, upd_same⟩
      · exact ⟨o, kp q o z e⟩
    · exact kp _ _ (lst_ne_dic (S.lists _ hc).1 S.dic) (S.lists _ hc).1
end
section
variable {P : Program} {w : World} {K : PySem.W.Frag} {mg : Str → Option Value} {base : Heap}
open Kqb2 (Bench)
theorem ents_map {Z Z' : List Ent} {ss : List (Option (List Nat))} {i j : Nat} (h : Ents Z ss) (e : Z'.map (fun e => (e.1, e.2.1)) = Z.map fun e => (e.1, Kqb2.exchanged i j e.2.1)) : Ents Z' (ss.map fun k => k.map (Kqb2.exchanged i j)) := by
  have e1 : Z'.map (·.1) = Z.map (·.1) := by
    have := congrArg (List.map Prod.fst) e
    rw [List.map_map, List.map_map] at this
    exact this
  refine ⟨e1 ▸ h.keys, fun n l => ?_⟩
  rw [map_exchanged]
  constructor
  · rintro ⟨c, hc⟩
    have : (n, l) ∈ Z'.map (fun e => (e.1, e.2.1)) := List.mem_map.mpr ⟨_, hc, rfl⟩
    rw [e] at this
    obtain ⟨⟨m, l0, c0⟩, h0, q⟩ := List.mem_map.mp this
    obtain ⟨q1, q2⟩ := Prod.mk.inj q
    have q1 : m = n := q1
    subst q1
    exact ⟨l0, (h.rel m l0).mp ⟨c0, h0⟩, q2.symm⟩
  · rintro ⟨l0, h0, rfl⟩
    obtain ⟨c0, hc⟩ := (h.rel n l0).mpr h0
    have : (n, Kqb2.exchanged i j l0) ∈ Z.map (fun e => (e.1, Kqb2.exchanged i j e.2.1)) := List.mem_map.mpr ⟨_, hc, rfl⟩
    rw [← e] at this
    obtain ⟨⟨m, l1, c1⟩, h1, q⟩ := List.mem_map.mp this
    obtain ⟨q1, q2⟩ := Prod.mk.inj q
    have q1 : m = n := q1
    have q2 : l1 = Kqb2.exchanged i j l0 := q2
    subst q1 q2
    exact ⟨c1, h1⟩
theorem instead_get {i j : Nat} (hij : i ≠ j) (m : Nat) : (valV (mergeK [] [((Sum.inl (i : Int) : L2.Key), V.int (j : Int)), (Sum.inl (j : Int), V.int (i : Int))]) (Sum.inl (m : Int) : L2.Key)).getD (.int (m : Int)) = .int (swp i j m : Nat) := by
  show (valV (putK (putK [] (Sum.inl (i : Int) : L2.Key) (V.int (j : Int))) (Sum.inl (j : Int)) (V.int (i : Int))) (Sum.inl (m : Int) : L2.Key)).getD (.int (m : Int)) = _
  rw [valV_put, valV_put]
  have e : ∀ n : Nat, ((Sum.inl (m : Int) : L2.Key) = Sum.inl (n : Int)) ↔ m = n := fun n => ⟨fun q => by have := Sum.inl.inj q; omega, fun q => by rw [q]⟩
  unfold swp
  by_cases c1 : m = j
  · rw [if_pos ((e j).mpr c1), if_neg (fun q => hij (q.symm.trans c1)), if_pos c1]
    rfl
  · rw [if_neg (fun q => c1 ((e j).mp q)), if_neg c1]
    by_cases c2 : m = i
    · rw [if_pos ((e i).mpr c2), if_pos c2]
      rfl
    · rw [if_neg (fun q => c2 ((e i).mp q)), if_neg c2]
      rfl
def sp_swapped (T : Txt K mg) : Sp := fun vs H Q _ => ∃ (x : Addr) (i j : Nat) (b : Bench) (Own : Addr → Prop), vs = [.ref x, .int (i : Int), .int (j : Int)] ∧ ShopAt T H x (some b) Own ∧ WF b ∧ i ≠ j ∧
  ∀ H' p Z', Same H H' → H p = none → H' p = some (.dK (kvsOf Z')) → Ents Z' (b.stacks.map fun k => k.map (Kqb2.exchanged i j)) → (∀ e ∈ Z', LstAt H' e.2.2 e.2.1 ∧ H e.2.2 = none) → Q (.ref p) H'
theorem ok_Shop_stacks_with_swapped (T : Txt K mg) : FnOk P w K mg base CX0 1 T.Shop_stacks_with_swapped.f T.Shop_stacks_with_swapped.fd ["self", "i", "j"] (sp_swapped T) := by
  refine T.Shop_stacks_with_swapped.F.ok sc_Shop_stacks_with_swapped (fun vs H Q E h => ?_) (fun cdv A outer s H vs Q E hr h => ?_)
  · obtain ⟨x, i, j, b, Own, rfl, _⟩ := h
    rfl
  · obtain ⟨x, i, j, b, Own, rfl, ⟨d, l, dk, as, Z, S⟩, w1, hij, k⟩ := h
    refine ⟨_, (pss_cons (ps_set (i := 3) sc_Shop_stacks_with_swapped.nd rfl (Or.inr rfl) (pe_disp (pps_cons (pv 1) (pv 2) (pps_cons (pv 2) (pv 1) pps_nil)) (by rfl) (by rfl) (fun z => by cases z) (by decide)))
          (pss_cons (ps_set (i := 4) sc_Shop_stacks_with_swapped.nd rfl (Or.inl rfl) pe_dnewK)
          (pss_cons (ps_lock (ps_for PassesOwn.never rfl (pi_items (pe_fld (pv 0) rfl)) (pg_tup rfl (pgs_cons (pg_name (i := 5) sc_Shop_stacks_with_swapped.nd rfl (Or.inl rfl)) (pgs_cons (pg_name (i := 6) sc_Shop_stacks_with_swapped.nd rfl (Or.inl rfl)) pgs_nil)))
          (pss_one (ps_dput (hu_of hr) (pv 4) (pv 5) (pe_lc (own := [("one", 7)]) (g := gName 7) (tt := tYes) rfl sc_Shop_stacks_with_swapped.nd (pi_list (pv 6)) (blkOk_by (own := [("one", 7)]) (N := N_Shop_stacks_with_swapped) (sc := defScope s_Shop_stacks_with_swapped) (by decide +kernel)) (fun _ _ _ _ _ => pg_name (i := 7) sc_Shop_stacks_with_swapped.nd rfl (Or.inl rfl)) (fun _ _ _ _ _ => pts_nil) (fun _ _ _ _ _ => (pe_dget2 (hu_of hr) (pv 3) (pv 7) (pv 7) ⟨rfl, rfl, rfl, rfl⟩))) rfl))))
          (pss_one (ps_ret (pv 4)))))), ?_⟩
    refine fun ins nins => ⟨_, rfl, _, rfl, _, rfl, _, rfl, upd_same, [((Sum.inl (i : Int) : L2.Key), V.int (j : Int)), (Sum.inl (j : Int), V.int (i : Int))], rfl, (by show 2 ≤ 15; decide), ?_⟩
    rw [upd_upd]
    generalize hK : mergeK [] [((Sum.inl (i : Int) : L2.Key), V.int (j : Int)), (Sum.inl (j : Int), V.int (i : Int))] = KI
    have hget := instead_get hij
    rw [hK] at hget
    have s1 : Same H (upd H ins (.dK KI)) := same_upd nins
    intro p np
    have ndi : dk ≠ ins := ne_of_none S.dic nins
    have npi : ins ≠ p := ne_of_none upd_same np
    have hp0 : H p = none := s1.free np
    have ndp : dk ≠ p := ne_of_none S.dic hp0
    have dic2 : (upd (upd H ins (.dK KI)) p (.dK [])) dk = some (.dK (kvsOf Z)) := by
      rw [upd_ne ndp, upd_ne ndi]
      exact S.dic
    refine ⟨dk, _, dic2, True.intro, fun od => ?_⟩
    have nxp : x ≠ p := ne_of_none S.obj hp0
    have nxi : x ≠ ins := ne_of_none S.obj nins
    refine ⟨_, rfl, x, _, d, _, _, rfl, (by rw [upd_ne S.n_xd, upd_ne nxp, upd_ne nxi]; exact S.obj), T.Shop.cl, T.Shop_no_stacks, F_Shop_stacks, dk, od, kvsOf Z, rfl, upd_same, ?_⟩
    refine for_it walk_items
      (fun m σ H' => ∃ v5 v6 v7 Z', σ = [some (.ref x), some (.int (i : Int)), some (.int (j : Int)), some (.ref ins), some (.ref p), v5, v6, v7] ∧ Same (upd (upd H ins (.dK KI)) dk (.frz od (.dK (kvsOf Z)))) H' ∧ H' p = some (.dK (kvsOf Z')) ∧
        Z'.map (fun e => (e.1, e.2.1)) = (Z.take m).map (fun e => (e.1, Kqb2.exchanged i j e.2.1)) ∧ ∀ e ∈ Z', LstAt H' e.2.2 e.2.1 ∧ H e.2.2 = none)
      ⟨none, none, none, [], rfl, fun c o e => ?_, ?_, rfl, fun e he => (by cases he)⟩ (fun m σ H' _ ⟨_, _, _, _, _, s2, _⟩ => s2 _ _ upd_same) ?_ ?_
    · by_cases c1 : c = dk
      · subst c1
        rw [upd_same] at e ⊢
        exact e
      · rw [upd_ne c1] at e ⊢
        rw [upd_ne (ne_of_none e np)]
        exact e
    · rw [upd_ne ndp.symm, upd_same]
      rfl
    · rintro m v σ H0 H1 hm ⟨v5, v6, v7, Z', rfl, s2, hP, hZ, hL⟩ ⟨t, u1, u2, rfl, nt, rfl, h1, h2⟩
      obtain ⟨e, he, rfl, rfl⟩ := kvs_at h1 h2
      have hz := List.mem_of_getElem? he
      have s3 : Same H0 (upd H0 t (.tup [.int (e.1 : Int), .ref e.2.2])) := same_upd nt
      have nptt : p ≠ t := ne_of_none hP nt
      have hle : LstAt H e.2.2 e.2.1 := (S.lists e hz).1
      have hle2 : LstAt (upd H0 t (.tup [.int (e.1 : Int), .ref e.2.2])) e.2.2 e.2.1 := s3 _ _ (s2 _ _ (by rw [upd_ne (lst_ne_dic hle S.dic)]; exact s1 _ _ hle))
      have hins : (upd H0 t (.tup [.int (e.1 : Int), .ref e.2.2])) ins = some (.dK KI) := s3 _ _ (s2 _ _ (by rw [upd_ne ndi.symm, upd_same]))
      have hst := (S.ents.rel e.1 e.2.1).mp ⟨e.2.2, hz⟩
      have l14 : e.2.1.length ≤ 14 := by
        obtain ⟨n1, n2⟩ := w1.ok e.1 e.2.1 hst
        have := nodup_sub e.2.1 (List.range b.sheets.length) n1 fun q hq => List.mem_range.mpr (n2 q hq)
        rw [List.length_range] at this
        have := w1.few
        omega
      refine ⟨t, _, rfl, .inl (.inl upd_same), rfl, _, _, rfl, _, _, rfl, rfl, ?_⟩
      refine ⟨_, rfl, e.2.2, rfl, ⟨_, hle2.nats⟩, fun D nD => ?_⟩
      refine lc_list (K := K) (a := e.2.2) (xs := (nints e.2.1).map V.int)
        (fun q H' => Same (upd H0 t (.tup [.int (e.1 : Int), .ref e.2.2])) H' ∧ LstAt H' D (Kqb2.exchanged i j (e.2.1.take q)))
        ⟨same_upd nD, upd_same⟩ (fun q H' _ ⟨s4, _⟩ => (hle2.same s4).nats) ?_ ?_
      · rintro q y H2 hy ⟨s4, hD⟩
        obtain ⟨n, en, rfl⟩ := at_nints hy
        refine ⟨rfl, yes_k ?_⟩
        refine ⟨_, rfl, ins, rfl, .inl ⟨_, .inl (s4 _ _ hins)⟩, _, rfl, _, rfl, _, DGet.k (k := Sum.inl (n : Int)) (s4 _ _ hins), ?_⟩
        rw [hget n]
        refine ⟨_, hD, sz64 ?_, fun c o e4 => ?_, ?_⟩
        · rw [nints_length, exchanged_eq, List.length_map, List.length_take]
          omega
        · by_cases c1 : c = D
          · subst c1
            rw [e4] at nD
            cases nD
          · rw [upd_ne c1]
            exact s4 _ _ e4
        · show upd H2 D _ D = _
          rw [upd_same, exchanged_eq, exchanged_eq, take_snoc en, List.map_append, nints_append, List.map_append]
          rfl
      · rintro H2 ⟨s4, hD⟩
        rw [nints_length, List.take_length] at hD
        have hP2 : H2 p = some (.dK (kvsOf Z')) := s4 _ _ (s3 _ _ hP)
        have nDp : D ≠ p := fun q => by
          rw [q, upd_ne nptt, hP] at nD
          cases nD
        have fresh : ∀ e' ∈ Z', e'.1 ≠ e.1 := fun e' he' q => by
          have : (e'.1, e'.2.1) ∈ Z'.map (fun e => (e.1, e.2.1)) := List.mem_map.mpr ⟨e', he', rfl⟩
          rw [hZ] at this
          obtain ⟨z, hz2, q2⟩ := List.mem_map.mp this
          obtain ⟨r, hr1, hr2⟩ := List.mem_iff_getElem.mp hz2
          rw [List.length_take] at hr1
          rw [List.getElem_take] at hr2
          have q3 : z.1 = e'.1 := (Prod.mk.inj q2).1
          have nk := List.pairwise_iff_getElem.mp S.ents.keys
          have hm2 := (List.getElem?_eq_some_iff.mp he).1
          have := nk r m (by rw [List.length_map]; omega) (by rw [List.length_map]; exact hm2) (by omega)
          refine this ?_
          rw [List.getElem_map, List.getElem_map, hr2, (List.getElem?_eq_some_iff.mp he).2, q3, q]
        have hzl : Z'.length ≤ 14 := by
          have e1 := congrArg List.length hZ
          rw [List.length_map, List.length_map, List.length_take] at e1
          have e2 : Z.length ≤ b.stacks.length := ents_len S.ents
          have := w1.room
          omega
        refine ⟨_, rfl, _, rfl, p, _, rfl, DPut.k (k := Sum.inl (e.1 : Int)) hP2 (sz64 (by rw [kvs_len]; omega)), ?_⟩
        rw [putK_new _ (valV_miss fresh)]
        have ek : kvsOf Z' ++ [((Sum.inl (e.1 : Int) : L2.Key), V.ref D)] = kvsOf (Z' ++ [(e.1, Kqb2.exchanged i j e.2.1, D)]) := by
          unfold kvsOf
          rw [List.map_append]
          rfl
        rw [ek]
        have kp : ∀ c o, c ≠ p → H2 c = some o → (upd H2 p (.dK (kvsOf (Z' ++ [(e.1, Kqb2.exchanged i j e.2.1, D)])))) c = some o := fun c o ne h => by
          rw [upd_ne ne]
          exact h
        have hHp : ∀ c o, (upd (upd H ins (.dK KI)) dk (.frz od (.dK (kvsOf Z)))) c = some o → c ≠ p := fun c o h q => by
          rw [q, upd_ne ndp.symm, upd_ne npi.symm, hp0] at h
          cases h
        refine ⟨_, _, _, Z' ++ [(e.1, Kqb2.exchanged i j e.2.1, D)], rfl, fun c o h => kp _ _ (hHp c o h) (s4 _ _ (s3 _ _ (s2 _ _ h))), upd_same, ?_, fun e' he' => ?_⟩
        · rw [List.map_append, hZ, take_snoc he, List.map_append]
          rfl
        · rcases List.mem_append.mp he' with he' | he'
          · have hl' := s4 _ _ (s3 _ _ (hL e' he').1)
            exact ⟨kp _ _ (lst_ne_dic hl' hP2) hl', (hL e' he').2⟩
          · have : e' = (e.1, Kqb2.exchanged i j e.2.1, D) := by simpa using he'
            subst this
            refine ⟨kp _ _ nDp hD, ?_⟩
            show H D = none
            cases q : H D with
            | none => rfl
            | some o =>
              exfalso
              by_cases c1 : D = dk
              · subst c1
                have := s3 _ _ (s2 _ _ upd_same)
                rw [this] at nD
                cases nD
              · have := s3 _ _ (s2 D o (by rw [upd_ne c1]; exact s1 _ _ q))
                rw [this] at nD
                cases nD
    · rintro σ H1 ⟨v5, v6, v7, Z', rfl, s2, hP, hZ, hL⟩
      refine ⟨s2 _ _ upd_same, ?_⟩
      rw [kvs_len, List.take_length] at hZ
      refine ⟨_, rfl, k _ p Z' (fun c o h => ?_) hp0 (by rw [upd_ne ndp.symm]; exact hP) (ents_map S.ents hZ) fun e he => ⟨?_, (hL e he).2⟩⟩
      · by_cases c1 : c = dk
        · rw [c1, S.dic] at h
          rw [c1, upd_same]
          exact h
        · rw [upd_ne c1]
          exact s2 _ _ (by rw [upd_ne c1]; exact s1 _ _ h)
      · have hl := (hL e he).1
        have hd1 : H1 dk = some (.frz od (.dK (kvsOf Z))) := s2 _ _ upd_same
        show upd H1 dk _ e.2.2 = _
        rw [upd_ne (ne_of hl hd1 (by intro q; cases q))]
        exact hl
end
section
variable {P : Program} {w : World} {K : PySem.W.Frag} {mg : Str → Option Value} {base : Heap}
/-! ### most, by widths -/
def sp_least_minus (K : PySem.W.Frag) : Sp := fun vs H Q _ => ∃ (a : Addr) (ns : List Int) (k r : Nat), vs = [.ref a, .int (k : Int), .int (r : Int)] ∧ SqL K H a (ns.map V.int) ∧ ns.length ≤ 60 ∧ 1 ≤ k ∧
  ∀ H' p sd, Same H H' → H p = none → sd.Perm ns → sd.Pairwise (· ≥ ·) → H' p = some (.lst ((leastTo k r sd sd.length).map V.int)) → Q (.ref p) H'
theorem ok_least_minus_widths (T : Txt K mg) : FnOk P w K mg base CX0 2 T.least_minus_widths.f T.least_minus_widths.fd ["plus_widths", "k", "reach"] (sp_least_minus K) := by
  refine T.least_minus_widths.F.ok sc_least_minus_widths (fun vs H Q E h => ?_) (fun cdv A outer s H vs Q E hr h => ?_)
  · obtain ⟨a, ns, k, r, rfl, _⟩ := h
    rfl
  · obtain ⟨a, ns, k, r, rfl, hn, ln, k1, K0⟩ := h
    refine ⟨_, (pss_cons (ps_set (i := 3) sc_least_minus_widths.nd rfl (Or.inl rfl) (pe_lst pa_nil))
          (pss_cons (ps_for PassesOwn.never rfl (pi_enum (by rfl) T.b_enumerate (pa_cons (pe_callBK (cr_sortedRev (b := true)) (by rfl) T.b_sorted (by decide +kernel) (pa_cons (pv 0) pa_nil) (pk_cons pe_bl pk_nil)) pa_nil)) (pg_tup rfl (pgs_cons (pg_name (i := 4) sc_least_minus_widths.nd rfl (Or.inl rfl)) (pgs_cons (pg_name (i := 5) sc_least_minus_widths.nd rfl (Or.inl rfl)) pgs_nil)))
          (pss_cons (ps_if (pt_cmpR op_eq (pe_op op_mod (pv 4) (pv 1)) pe_int (nomark _))
            (pss_one (ps_expr (pe_bm PySem.F.plainAttrs_list PySem.F.slot_list_append PySem.F.type_list_append mt_append (pv 3) (pa_cons (pe_call (ok_least_over T) (hr.mono (by decide)) rfl T.least_over.g T.least_over.F.kp T.least_over.b .nil pass0 (pa_cons (pv 5) (pa_cons (pv 2) pa_nil))) pa_nil))))
            pss_nil)
            (pss_one (ps_expr (pe_bm PySem.F.plainAttrs_list PySem.F.slot_list_append PySem.F.type_list_append mt_append (pv 3) (pa_cons (pe_call (ok_least_over T) (hr.mono (by decide)) rfl T.least_over.g T.least_over.F.kp T.least_over.b .nil pass0 (pa_cons (pv 5) (pa_cons (pv 2) pa_nil))) pa_nil))))))
          (pss_one (ps_ret (pv 3))))), ?_⟩
    refine ⟨Nat.zero_le _, fun p np => ?_⟩
    have s0 : Same H (upd H p (.lst [])) := same_upd np
    refine ⟨_, rfl, a, ns, rfl, rfl, s0.seq hn, fun sd q pm od nq => ?_⟩
    have s1 : Same (upd H p (.lst [])) (upd (upd H p (.lst [])) q (.lst (sd.map V.int))) := same_upd nq
    have npq : p ≠ q := ne_of_none upd_same nq
    have hq0 : H q = none := s0.free nq
    have ls : sd.length ≤ 60 := by
      rw [pm.length_eq]
      exact ln
    have od : sd.Pairwise (· ≥ ·) := od
    refine ⟨q, sd.map V.int, rfl, .inl (.inl upd_same), ?_⟩
    refine for_it walk_enum
      (fun i σ H' => ∃ v4 v5, σ = [some (.ref a), some (.int (k : Int)), some (.int (r : Int)), some (.ref p), v4, v5] ∧ Same (upd H q (.lst (sd.map V.int))) H' ∧ H' p = some (.lst ((leastTo k r sd i).map V.int)))
      ⟨none, none, rfl, fun b o e => ?_, by rw [upd_ne npq]; exact upd_same⟩ (fun i σ H' _ ⟨_, _, _, s2, _⟩ => .inl (.inl (s2 _ _ upd_same))) ?_ ?_
    · by_cases c : b = q
      · subst c
        rw [upd_same] at e ⊢
        exact e
      · rw [upd_ne c] at e ⊢
        rw [upd_ne (ne_of_none e np)]
        exact e
    · rintro i v σ H0 H1 hi ⟨v4, v5, rfl, s2, hP⟩ ⟨t, u1, u2, rfl, nt, rfl, h1, h2⟩
      have e1 : u1 = .int (i : Int) := (Option.some.inj h1).symm
      subst e1
      obtain ⟨z, ez, rfl⟩ := map_at h2
      have hget : sd.getD i 0 = z := by
        rw [List.getD_eq_getElem?_getD, ez]
        rfl
      have s3 : Same H0 (upd H0 t (.tup [.int (i : Int), .int z])) := same_upd nt
      have kp : ∀ {H2 : Hp} {L : List Int}, Same (upd H q (.lst (sd.map V.int))) H2 → Same (upd H q (.lst (sd.map V.int))) (upd H2 p (.lst (L.map V.int))) := fun s b o e => by
        have nb : b ≠ p := fun c => by
          rw [c, upd_ne npq, np] at e
          cases e
        rw [upd_ne nb]
        exact s b o e
      have ll : (leastTo k r sd i).length ≤ 120 := by
        have := leastTo_le (r := r) (sd := sd) k1 i
        rw [List.length_map] at hi
        omega
      have e3 : (leastTo k r sd (i + 1)) = (if i % k = 0 then leastTo k r sd i ++ [z + 2 * (r : Int)] else leastTo k r sd i) ++ [z + 2 * (r : Int)] := by
        rw [leastTo_succ, hget]
      refine ⟨t, _, rfl, .inl (.inl upd_same), rfl, _, _, rfl, _, _, rfl, rfl, ?_⟩
      have hP1 := s3 _ _ hP
      refine ⟨_, rfl, _, rfl, _, _, rfl, rfl, (by show (0 : Int) < (k : Int); omega), rfl, _, rfl, ifb (fun e => ?_) (fun e => ?_)⟩
      · have c : i % k = 0 := by
          have : (i : Int) % (k : Int) = 0 := V.int.inj (of_decide_eq_true e)
          omega
        rw [if_pos c] at e3
        refine ⟨_, rfl, .inl ⟨rfl, _, SqL.of hP1⟩, _, rfl, _, rfl, z, r, rfl, p, _, _, rfl, rfl, hP1, sz64 (by rw [List.length_map]; omega), ?_⟩
        have e4 : (leastTo k r sd i).map V.int ++ [V.int (z + 2 * (r : Int))] = (leastTo k r sd i ++ [z + 2 * (r : Int)]).map V.int := by
          rw [List.map_append]
          rfl
        rw [e4]
        refine ⟨_, rfl, .inl ⟨rfl, _, SqL.of upd_same⟩, _, rfl, _, rfl, z, r, rfl, p, _, _, rfl, rfl, upd_same, sz64 (by rw [List.length_map, List.length_append]; show _ + 1 ≤ 100000; omega), ?_⟩
        rw [upd_upd]
        have e5 : (leastTo k r sd i ++ [z + 2 * (r : Int)]).map V.int ++ [V.int (z + 2 * (r : Int))] = (leastTo k r sd (i + 1)).map V.int := by
          rw [e3]
          simp only [List.map_append, List.map_cons, List.map_nil]
        rw [e5]
        exact ⟨_, _, rfl, kp (s2.trans s3), upd_same⟩
      · have c : ¬ i % k = 0 := fun q => by
          have h1 : ¬ V.int ((i : Int) % (k : Int)) = V.int 0 := of_decide_eq_false e
          exact h1 (congrArg V.int (by omega))
        rw [if_neg c] at e3
        refine ⟨_, rfl, .inl ⟨rfl, _, SqL.of hP1⟩, _, rfl, _, rfl, z, r, rfl, p, _, _, rfl, rfl, hP1, sz64 (by rw [List.length_map]; omega), ?_⟩
        have e4 : (leastTo k r sd i).map V.int ++ [V.int (z + 2 * (r : Int))] = (leastTo k r sd (i + 1)).map V.int := by
          rw [e3, List.map_append]
          rfl
        rw [e4]
        exact ⟨_, _, rfl, kp (s2.trans s3), upd_same⟩
    · rintro σ H1 ⟨v4, v5, rfl, s2, hP⟩
      rw [List.length_map] at hP
      refine ⟨_, rfl, K0 H1 p sd (fun b o e => s2 b o ?_) np pm od hP⟩
      rw [upd_ne (ne_of_none e hq0)]
      exact e
theorem cut_head (sp : List Int) (n : Nat) (h : n ≤ sp.length) : cutV (sp.map V.int) none (some (n : Int)) = (sp.take n).map V.int := by
  unfold cutV
  rw [HT.sIx_none, HT.sIx_nat, List.length_map, Nat.min_eq_left h, Nat.sub_zero, List.drop_zero, ← List.map_take]
def sp_can_be_laid : Sp := fun vs H Q _ => ∃ (a c : Addr) (p m : List Nat) (k n r : Nat) (B : Bool), vs = [.ref a, .ref c, .int (k : Int), .int (n : Int), .int (r : Int)] ∧ LstAt H a p ∧ LstAt H c m ∧ p.length ≤ 60 ∧ m.length ≤ 60 ∧ 1 ≤ k ∧ n ≤ 100 ∧
  (B = true ↔ Crit r k n p m) ∧ ∀ H', Same H H' → Q (.bl B) H'
theorem ok_can_be_laid (T : Txt K mg) : FnOk P w K mg base CX0 3 T.can_be_laid.f T.can_be_laid.fd ["plus_widths", "minus_widths", "k", "count", "reach"] sp_can_be_laid := by
  refine T.can_be_laid.F.ok sc_can_be_laid (fun vs H Q E h => ?_) (fun cdv A outer s H vs Q E hr h => ?_)
  · obtain ⟨a, c, p, m, k, n, r, B, rfl, _⟩ := h
    rfl
  · obtain ⟨a, c, p, m, k, n, r, B, rfl, hp, hm, lp, lm, k1, n1, hB, K0⟩ := h
    refine ⟨_, (pss_cons (ps_if (PW.pt (pw_or (pt_cmpR op_lt (pe_callB call_len_seq (by rfl) T.b_len PySem.boot_len (pa_cons (pv 0) pa_nil)) (pe_op op_mul (pv 3) (pv 2)) (nomark _)) (pw_or1 (pt_cmpR op_lt (pe_callB call_len_seq (by rfl) T.b_len PySem.boot_len (pa_cons (pv 1) pa_nil)) (pe_op op_mul (pv 3) (pe_op op_add (pv 2) pe_int)) (nomark _)))))
          (pss_one (ps_ret pe_bl))
          pss_nil)
          (pss_cons (ps_set (i := 5) sc_can_be_laid.nd rfl (Or.inl rfl) (pe_slice sl_list (pe_callB cr_sorted (by rfl) T.b_sorted (by decide +kernel) (pa_cons (pv 0) pa_nil)) po_none (po_some (pe_op op_mul (pv 3) (pv 2)))))
          (pss_cons (ps_set (i := 6) sc_can_be_laid.nd rfl (Or.inl rfl) (pe_callBK (cr_sortedRev (b := true)) (by rfl) T.b_sorted (by decide +kernel) (pa_cons (pv 1) pa_nil) (pk_cons pe_bl pk_nil)))
          (pss_cons (ps_for PassesOwn.never rfl (pi_zip (by rfl) T.b_zip (pa_cons (pe_call (ok_least_minus_widths T) (hr.mono (by decide)) rfl T.least_minus_widths.g T.least_minus_widths.F.kp T.least_minus_widths.b .nil pass0 (pa_cons (pv 5) (pa_cons (pv 2) (pa_cons (pv 4) pa_nil)))) (pa_cons (pv 6) pa_nil))) (pg_tup rfl (pgs_cons (pg_name (i := 7) sc_can_be_laid.nd rfl (Or.inl rfl)) (pgs_cons (pg_name (i := 8) sc_can_be_laid.nd rfl (Or.inl rfl)) pgs_nil)))
          (pss_one (ps_if (pt_cmpR op_lt (pv 8) (pv 7) (nomark _))
            (pss_one (ps_ret pe_bl))
            pss_nil)))
          (pss_one (ps_ret pe_bl)))))), ?_⟩
    have no : ¬ Crit r k n p m → B = false := fun q => by
      cases B with
      | false => rfl
      | true => exact absurd (hB.mp rfl) q
    have bd : -(2 ^ 64 : Int) < (n : Int) ∧ (n : Int) < 2 ^ 64 := ⟨by omega, by omega⟩
    have em : ((n : Int) * (k : Int)) = ((n * k : Nat) : Int) := (Int.natCast_mul n k).symm
    have em2 : ((n : Int) * ((k : Int) + 1)) = ((n * (k + 1) : Nat) : Int) := by
      rw [Int.natCast_mul]
      rfl
    refine ⟨_, rfl, _, _, rfl, .inl (.inl (.inl hp)), _, rfl, _, rfl, _, _, rfl, rfl, .inl bd, _, _, rfl, rfl, _, rfl, ifb (fun e => iteT ?_) (fun e => ?_)⟩
    · have e1 : p.length < n * k := by
        have : (((nints p).map V.int).length : Int) < (n : Int) * (k : Int) := of_decide_eq_true e
        rw [nints_length, em] at this
        omega
      have := K0 H (Same.refl H)
      rw [no fun q => (by have := q.1; omega)] at this
      exact this
    have e1 : n * k ≤ p.length := by
      have : ¬ (((nints p).map V.int).length : Int) < (n : Int) * (k : Int) := of_decide_eq_false e
      rw [nints_length, em] at this
      omega
    refine ⟨_, rfl, _, _, rfl, .inl (.inl (.inl hm)), _, rfl, _, rfl, _, _, rfl, rfl, _, _, rfl, rfl, .inl bd, _, _, rfl, rfl, _, rfl, ifb (fun e => ?_) (fun e => ?_)⟩
    · have e2 : m.length < n * (k + 1) := by
        have : (((nints m).map V.int).length : Int) < (n : Int) * ((k : Int) + 1) := of_decide_eq_true e
        rw [nints_length, em2] at this
        omega
      have := K0 H (Same.refl H)
      rw [no fun q => (by have := q.2.1; omega)] at this
      exact this
    have e2 : n * (k + 1) ≤ m.length := by
      have : ¬ (((nints m).map V.int).length : Int) < (n : Int) * ((k : Int) + 1) := of_decide_eq_false e
      rw [nints_length, em2] at this
      omega
    refine ⟨_, rfl, a, nints p, rfl, hp.nats, (by rw [List.length_map]; omega), fun sp q pp po nq => ?_⟩
    have hsp : Srt sp p := srt_of pp po
    have s1 : Same H (upd H q (.lst (sp.map V.int))) := same_upd nq
    refine ⟨_, rfl, _, rfl, _, _, rfl, rfl, .inl bd, _, rfl, q, _, rfl, .inl (.inl upd_same), fun q2 nq2 => ?_⟩
    rw [em, cut_head sp (n * k) (by rw [hsp.length]; exact e1)]
    have s2 : Same (upd H q (.lst (sp.map V.int))) (upd (upd H q (.lst (sp.map V.int))) q2 (.lst ((sp.take (n * k)).map V.int))) := same_upd nq2
    refine ⟨_, rfl, c, nints m, rfl, rfl, (hm.same (s1.trans s2)).nats, fun w q3 pw ow nq3 => ?_⟩
    have ow : w.Pairwise (· ≥ ·) := ow
    have s3 := same_upd (o := .lst (w.map V.int)) nq3
    have nq23 : q2 ≠ q3 := ne_of_none upd_same nq3
    have l2 : (sp.take (n * k)).length ≤ 60 := by
      rw [List.length_take, hsp.length]
      omega
    have lw : w.length = m.length := by rw [pw.length_eq, List.length_map]
    refine ⟨_, rfl, _, rfl, _, rfl, q2, sp.take (n * k), k, r, rfl, .inl (.inl (s3 _ _ upd_same)), l2, k1, fun H4 q4 sd s4 nq4 pd od h4 => ?_⟩
    have ls : sd.length = n * k := by
      rw [pd.length_eq, List.length_take, hsp.length]
      omega
    have crit := laid_iff (r := r) k1 hsp e1 e2 pd od pw ow
    rw [ls] at h4
    have h3 : H4 q3 = some (.lst (w.map V.int)) := s4 _ _ upd_same
    have sH : Same H H4 := ((s1.trans s2).trans s3).trans s4
    refine ⟨_, rfl, q4, q3, _, _, rfl, .inl (.inl h4), .inl (.inl h3), ?_⟩
    refine for_it (walk_zip (n := min (leastTo k r sd (n * k)).length w.length) (by rw [List.length_map, List.length_map]))
      (fun j σ H' => ∃ v7 v8, σ = [some (.ref a), some (.ref c), some (.int (k : Int)), some (.int (n : Int)), some (.int (r : Int)), some (.ref q2), some (.ref q3), v7, v8] ∧ Same H4 H' ∧ ∀ i < j, ∀ v u, (leastTo k r sd (n * k))[i]? = some v → w[i]? = some u → v ≤ u)
      ⟨none, none, rfl, Same.refl _, fun i h => absurd h (Nat.not_lt_zero i)⟩ (fun j σ H' _ ⟨_, _, _, s5, _⟩ => ⟨.inl (.inl (s5 _ _ h4)), .inl (.inl (s5 _ _ h3))⟩) ?_ ?_
    · rintro j v σ H0 H1 hj ⟨v7, v8, rfl, s5, hj2⟩ ⟨t, u1, u2, rfl, nt, rfl, g1, g2⟩
      obtain ⟨z1, ez1, rfl⟩ := map_at g1
      obtain ⟨z2, ez2, rfl⟩ := map_at g2
      have s6 : Same H0 (upd H0 t (.tup [.int z1, .int z2])) := same_upd nt
      refine ⟨t, _, rfl, .inl (.inl upd_same), rfl, _, _, rfl, _, _, rfl, rfl, ?_⟩
      refine ⟨_, rfl, _, rfl, _, _, rfl, rfl, _, rfl, ifb (fun e => ?_) (fun e => ?_)⟩
      · have e5 : z2 < z1 := of_decide_eq_true e
        have := K0 _ ((sH.trans s5).trans s6)
        rw [no fun q => (by have := crit.mpr q j z1 z2 ez1 ez2; omega)] at this
        exact this
      · have e5 : ¬ z2 < z1 := of_decide_eq_false e
        refine ⟨_, _, rfl, s5.trans s6, fun i hi v u hv hu => ?_⟩
        by_cases c1 : i = j
        · subst c1
          rw [ez1] at hv
          rw [ez2] at hu
          have := Option.some.inj hv
          have := Option.some.inj hu
          omega
        · exact hj2 i (by omega) v u hv hu
    · rintro σ H1 ⟨v7, v8, rfl, s5, hj2⟩
      have yes : B = true := hB.mpr (crit.mp fun i v u hv hu => hj2 i (by have := (List.getElem?_eq_some_iff.mp hv).1; have := (List.getElem?_eq_some_iff.mp hu).1; omega) v u hv hu)
      have := K0 H1 (sH.trans s5)
      rw [yes] at this
      exact this
def sp_most_stacks : Sp := fun vs H Q _ => ∃ (a c : Addr) (p m : List Nat) (k r : Nat), vs = [.ref a, .ref c, .int (k : Int), .int (r : Int)] ∧ LstAt H a p ∧ LstAt H c m ∧ p.length ≤ 60 ∧ m.length ≤ 60 ∧ 1 ≤ k ∧
  ∀ H' n, Same H H' → Crit r k n p m → ¬ Crit r k (n + 1) p m → Q (.int (n : Int)) H'
theorem ok_most_stacks (T : Txt K mg) : FnOk P w K mg base CX0 4 T.most_stacks.f T.most_stacks.fd ["plus_widths", "minus_widths", "k", "reach"] sp_most_stacks := by
  refine T.most_stacks.F.ok sc_most_stacks (fun vs H Q E h => ?_) (fun cdv A outer s H vs Q E hr h => ?_)
  · obtain ⟨a, c, p, m, k, r, rfl, _⟩ := h
    rfl
  · obtain ⟨a, c, p, m, k, r, rfl, hp, hm, lp, lm, k1, K0⟩ := h
    refine ⟨_, (pss_cons (ps_set (i := 4) sc_most_stacks.nd rfl (Or.inl rfl) pe_int)
          (pss_cons (ps_while PassesOwn.never (pt_val (pe_call (ok_can_be_laid T) (hr.mono (by decide)) rfl T.can_be_laid.g T.can_be_laid.F.kp T.can_be_laid.b .nil pass0 (pa_cons (pv 0) (pa_cons (pv 1) (pa_cons (pv 2) (pa_cons (pe_op op_add (pv 4) pe_int) (pa_cons (pv 3) pa_nil)))))))
          (pss_one (ps_aug (i := 4) sc_most_stacks.nd rfl (.inl rfl) pe_int ip_add)))
          (pss_one (ps_ret (pv 4))))), ?_⟩
    have few : ∀ n, Crit r k n p m → n ≤ 60 := fun n q => by
      have h1 := q.1
      have h2 : n ≤ n * k := Nat.le_mul_of_pos_right n k1
      omega
    refine ⟨fun j σ H' => ∃ n : Nat, σ = [some (.ref a), some (.ref c), some (.int (k : Int)), some (.int (r : Int)), some (.int (n : Int))] ∧ Same H H' ∧ Crit r k n p m ∧ j = 100 - n, ⟨_, 0, rfl, Same.refl _, Crit.zero r k p m, rfl⟩, ?_⟩
    rintro j σ H' ⟨n, rfl, s1, hc, rfl⟩
    have hn := few n hc
    have dB : ∃ B : Bool, B = true ↔ Crit r k (n + 1) p m := by
      by_cases q : Crit r k (n + 1) p m
      · exact ⟨true, fun _ => q, fun _ => rfl⟩
      · exact ⟨false, fun z => (by cases z), fun z => absurd z q⟩
    obtain ⟨B, hB⟩ := dB
    refine ⟨_, rfl, _, rfl, _, rfl, _, rfl, _, _, rfl, rfl, _, rfl, a, c, p, m, k, n + 1, r, B, rfl, hp.same s1, hm.same s1, lp, lm, k1, by omega, hB, fun H2 s2 => ?_⟩
    refine ⟨_, rfl, ifb (fun e => ?_) (fun e => ?_)⟩
    · have hc2 := hB.mp e
      have := few _ hc2
      refine ⟨fun σ' H'' => ∃ m', m' < 100 - n ∧ _, fun σ' H'' h => h, ?_⟩
      exact ⟨_, rfl, _, _, rfl, rfl, _, by omega, n + 1, rfl, s1.trans s2, hc2, rfl⟩
    · exact ⟨_, rfl, K0 H2 n (s1.trans s2) hc fun q => by
        rw [hB.mpr q] at e
        cases e⟩
end
section
variable {P : Program} {w : World} {K : PySem.W.Frag} {mg : Str → Option Value} {base : Heap}
open Kqb2 (Bench)
/-- which lie loose and are minus, or plus -/
def looseOf (b : Bench) (m : Bool) (n : Nat) : List Nat := (List.range n).filter fun i => Kqb2.loose b i && (Kqb2.isMinus b i == m)
theorem looseOf_minus (b : Bench) : looseOf b true b.sheets.length = Kqb2.free b (Kqb2.isMinus b) := by
  unfold looseOf Kqb2.free
  refine List.filter_congr fun i _ => ?_
  rw [beq_true]
theorem looseOf_plus (b : Bench) : looseOf b false b.sheets.length = Kqb2.free b (Kqb2.isPlus b) := by
  unfold looseOf Kqb2.free
  refine List.filter_congr fun i hi => ?_
  have hi := List.mem_range.mp hi
  have e := List.getElem?_eq_getElem hi
  rw [isMinus_at e, isPlus_at e]
  congr 1
  cases b.sheets[i].minus <;> rfl
theorem looseOf_succ (b : Bench) (m : Bool) (i : Nat) : looseOf b m (i + 1) = looseOf b m i ++ if (Kqb2.loose b i && (Kqb2.isMinus b i == m)) = true then [i] else [] := by
  unfold looseOf
  exact filter_range_succ _ i
theorem looseOf_length (b : Bench) (m : Bool) (n : Nat) : (looseOf b m n).length ≤ n := by
  have := List.length_filter_le (fun i => Kqb2.loose b i && (Kqb2.isMinus b i == m)) (List.range n)
  rw [List.length_range] at this
  exact this
def sp_loose_widths (T : Txt K mg) : Sp := fun vs H Q _ => ∃ (x : Addr) (m : Bool) (b : Bench) (Own : Addr → Prop), vs = [.ref x, .bl m] ∧ ShopAt T H x (some b) Own ∧ WF b ∧
  ∀ H' p, Same H H' → H p = none → LstAt H' p (Kqb2.widths b (looseOf b m b.sheets.length)) → Q (.ref p) H'
theorem ok_Shop_loose_widths (T : Txt K mg) : FnOk P w K mg base CX0 3 T.Shop_loose_widths.f T.Shop_loose_widths.fd ["self", "minus"] (sp_loose_widths T) := by
  refine T.Shop_loose_widths.F.ok sc_Shop_loose_widths (fun vs H Q E h => ?_) (fun cdv A outer s H vs Q E hr h => ?_)
  · obtain ⟨x, m, b, Own, rfl, _⟩ := h
    rfl
  · obtain ⟨x, m, b, Own, rfl, S, w1, k⟩ := h
    obtain ⟨d, l, dk, as, Z, S'⟩ := id S
    refine ⟨_, (pss_cons (ps_set (i := 2) sc_Shop_loose_widths.nd rfl (Or.inl rfl) (pe_lst pa_nil))
          (pss_cons (ps_for PassesOwn.never rfl (pi_enum (by rfl) T.b_enumerate (pa_cons (pe_fld (pv 0) rfl) pa_nil)) (pg_tup rfl (pgs_cons (pg_name (i := 3) sc_Shop_loose_widths.nd rfl (Or.inl rfl)) (pgs_cons (pg_name (i := 4) sc_Shop_loose_widths.nd rfl (Or.inl rfl)) pgs_nil)))
          (pss_one (ps_if (PW.pt (pw_and (pt_cmpR op_eq (pe_fld (pv 4) rfl) (pv 1) (nomark _)) (pw_and1 (pt_val (pe_meth (pv 0) T.Shop.cl T.Shop_is_loose.m (ok_Shop_is_loose T) (hr.mono (by decide)) T.Shop_is_loose.b .nil pass0 (pa_cons (pv 3) pa_nil))))))
            (pss_one (ps_expr (pe_bm PySem.F.plainAttrs_list PySem.F.slot_list_append PySem.F.type_list_append mt_append (pv 2) (pa_cons (pe_fld (pv 4) rfl) pa_nil))))
            pss_nil)))
          (pss_one (ps_ret (pv 2))))), ?_⟩
    refine ⟨Nat.zero_le _, fun p np => ?_⟩
    have s0 : Same H (upd H p (.lst [])) := same_upd np
    refine ⟨_, rfl, x, _, d, _, _, rfl, s0 _ _ S'.obj, T.Shop.cl, T.Shop_no_sheets, F_Shop_sheets, l, _, rfl, SqL.of (s0 _ _ S'.lst), ?_⟩
    have la : as.length = b.sheets.length := S'.len
    refine for_it walk_enum
      (fun i σ H' => ∃ v3 v4, σ = [some (.ref x), some (.bl m), some (.ref p), v3, v4] ∧ Same H H' ∧ LstAt H' p (Kqb2.widths b (looseOf b m i)))
      ⟨none, none, rfl, s0, upd_same⟩ (fun i σ H' _ ⟨_, _, _, s1, _⟩ => SqL.of (s1 _ _ S'.lst)) ?_ ?_
    · rintro i v σ H0 H1 hi ⟨v3, v4, rfl, s1, hP⟩ ⟨t, u1, u2, rfl, nt, rfl, h1, h2⟩
      have e1 : u1 = .int (i : Int) := (Option.some.inj h1).symm
      subst e1
      obtain ⟨a, ea, rfl⟩ := map_at h2
      have hi2 : i < b.sheets.length := by
        rw [← la]
        exact (List.getElem?_eq_some_iff.mp ea).1
      have ey : b.sheets[i]? = some b.sheets[i] := List.getElem?_eq_getElem hi2
      obtain ⟨da, Ha⟩ := S'.at_ i a _ ea ey
      have s2 : Same H0 (upd H0 t (.tup [.int (i : Int), .ref a])) := same_upd nt
      have s12 := s1.trans s2
      have pre := looseOf_succ b m i
      rw [loose_at ey, isMinus_at ey] at pre
      have few := w1.few
      refine ⟨t, _, rfl, .inl (.inl upd_same), rfl, _, _, rfl, _, _, rfl, rfl, ?_⟩
      refine ⟨_, rfl, a, _, da, _, _, rfl, s12 _ _ Ha, T.Sheet.cl, T.Sheet_no_minus, F_Sheet_minus, _, rfl, rfl, _, rfl, ifb (fun e => ?_) (fun e => ?_)⟩
      · have em : b.sheets[i].minus = m := by
          have := of_decide_eq_true e
          injection this
        refine ⟨_, rfl, x, d, _, rfl, s12 _ _ S'.obj, F_Shop_not_is_loose, _, rfl, x, i, _, b, Own, rfl, S.same s12, w1, ey, fun H2 s3 => ⟨_, rfl, ifb (fun e2 => ?_) (fun e2 => ?_)⟩⟩
        · rw [if_pos (by rw [e2, em]; simp)] at pre
          have hP2 := s3 _ _ (s2 _ _ hP)
          refine ⟨_, rfl, .inl ⟨rfl, _, SqL.of hP2⟩, _, rfl, a, _, da, _, _, rfl, s3 _ _ (s12 _ _ Ha), T.Sheet.cl, T.Sheet_no_wide, F_Sheet_wide, p, _, _, rfl, rfl, hP2, sz64 ?_, ?_⟩
          · rw [nints_length, widths_length]
            have := looseOf_length b m i
            omega
          · refine ⟨_, _, rfl, fun c o e3 => ?_, ?_⟩
            · rw [upd_ne (ne_of_none e3 np)]
              exact s3 _ _ (s12 _ _ e3)
            · show upd H2 p _ p = _
              rw [upd_same, pre, widths_append, nints_append, List.map_append]
              show some (HO.lst (_ ++ [V.int ((b.sheets[i].wide : Nat) : Int)])) = some (HO.lst (_ ++ [V.int ((Kqb2.wide b i : Nat) : Int)]))
              rw [wide_at ey]
        · rw [if_neg (by rw [e2]; simp), List.append_nil] at pre
          refine ⟨_, _, rfl, s12.trans s3, ?_⟩
          rw [pre]
          exact s3 _ _ (s2 _ _ hP)
      · have em : ¬ b.sheets[i].minus = m := fun q => by
          have h1 : ¬ V.bl b.sheets[i].minus = V.bl m := of_decide_eq_false e
          exact h1 (by rw [q])
        rw [if_neg (by simp [em]), List.append_nil] at pre
        refine iteF ⟨_, _, rfl, s12, ?_⟩
        rw [pre]
        exact s2 _ _ hP
    · rintro σ H1 ⟨v3, v4, rfl, s1, hP⟩
      rw [List.length_map, la] at hP
      exact ⟨_, rfl, k H1 p s1 np hP⟩
end
section
variable {P : Program} {w : World} {K : PySem.W.Frag} {mg : Str → Option Value} {base : Heap}
open Kqb2 (Bench)
/-- what is wanted of a call that is answered -/
def Answers (T : Txt K mg) (c : Kqb2.Call) (x : Addr) (s : Option Bench) (Own : Addr → Prop) (H : Hp) (Q : VK) : Prop :=
  ∀ H' Own' p, ShopAt T H' x (Kqb2.step s c).1 Own' → Did H H' Own Own' → H p = none → H' p = some (.lst ((Kqb2Neutral.tell (Kqb2.step s c).2).map V.int)) → Q (.ref p) H'
theorem ans_same {T : Txt K mg} {c : Kqb2.Call} {x : Addr} {s : Option Bench} {Own : Addr → Prop} {H H1 : Hp} {Q : VK} {a : Kqb2.Ans} {zs : List Int} (k : Answers T c x s Own H Q) (e : Kqb2.step s c = (s, a)) (ez : Kqb2Neutral.tell a = zs) (S : ShopAt T H x s Own) (s1 : Same H H1) {p : Addr} (np : H1 p = none) : Q (.ref p) (upd H1 p (.lst (zs.map V.int))) := by
  refine k _ Own p ?_ (Did.same (s1.trans (same_upd np))) (s1.free np) ?_
  · rw [e]
    exact S.same (s1.trans (same_upd np))
  · rw [e, upd_same, ez]
theorem ans_did {T : Txt K mg} {c : Kqb2.Call} {x : Addr} {s s' : Option Bench} {Own Own' : Addr → Prop} {H H1 : Hp} {Q : VK} {a : Kqb2.Ans} {zs : List Int} (k : Answers T c x s Own H Q) (e : Kqb2.step s c = (s', a)) (ez : Kqb2Neutral.tell a = zs) (S : ShopAt T H1 x s' Own') (d : Did H H1 Own Own') {p : Addr} (np : H1 p = none) : Q (.ref p) (upd H1 p (.lst (zs.map V.int))) := by
  refine k _ Own' p ?_ (d.then (same_upd np)) (d.free np) ?_
  · rw [e]
    exact S.same (same_upd np)
  · rw [e, upd_same, ez]
theorem one_size : (1 : Nat) ≤ sizeLine := by decide
def sp_call_start (T : Txt K mg) : Sp := fun vs H Q _ => ∃ (x g : Addr) (r : Nat) (s : Option Bench) (Own : Addr → Prop), vs = [.ref x, .ref g] ∧ ShopAt T H x s Own ∧ LstAt H g [r] ∧ Answers T (.start r) x s Own H Q
theorem ok_call_start (T : Txt K mg) : FnOk P w K mg base CX0 2 T.call_start.f T.call_start.fd ["shop", "given"] (sp_call_start T) := by
  refine T.call_start.F.ok sc_call_start (fun vs H Q E h => ?_) (fun cdv A outer s H vs Q E hr h => ?_)
  · obtain ⟨x, g, r, s, Own, rfl, _⟩ := h
    rfl
  · obtain ⟨x, g, r, s, Own, rfl, S, hg, k⟩ := h
    refine ⟨_, (pss_cons (ps_set (i := 2) sc_call_start.nd rfl (Or.inl rfl) (pe_ix ix_list (pv 1) pe_int (fun _ _ => rfl)))
          (pss_cons (ps_if (pt_cmpR op_gt (pv 2) (pe_glob (v := V.int (100)) rfl T.MOST_REACH.g ⟨_, rfl⟩) (nomark _))
          (pss_one (ps_ret (pe_lst (pa_cons (pe_glob (v := V.int (-22)) rfl T.WRONG_VALUE.g ⟨_, rfl⟩) pa_nil))))
          pss_nil)
          (pss_cons (ps_expr (pe_meth (pv 0) T.Shop.cl T.Shop_begin.m (ok_Shop_begin T) (hr.mono (by decide)) T.Shop_begin.b .nil pass0 (pa_cons (pv 2) pa_nil)))
          (pss_one (ps_ret (pe_lst (pa_cons pe_int pa_nil))))))), ?_⟩
    refine ⟨_, rfl, g, _, _, _, rfl, rfl, SqL.of hg, atI_map (i := 0) rfl, ?_⟩
    refine ⟨_, rfl, _, _, rfl, rfl, _, rfl, ifb (fun e => ?_) (fun e => ?_)⟩
    · have e' : 100 < r := by
        have : (100 : Int) < (r : Int) := of_decide_eq_true e
        omega
      exact ⟨one_size, fun p np => ans_same k (a := .num (-22)) (by rw [step_start, if_pos e']) rfl S (Same.refl _) np⟩
    · have e' : ¬ 100 < r := by
        have : ¬ (100 : Int) < (r : Int) := of_decide_eq_false e
        omega
      obtain ⟨d, l, dk, as, Z, S'⟩ := id S
      refine ⟨_, rfl, x, d, _, rfl, S'.obj, F_Shop_not_begin, _, rfl, x, r, s, Own, rfl, S, fun H1 Own1 S1 D1 => ?_⟩
      exact ⟨one_size, fun p np => ans_did k (s' := some ⟨r, [], []⟩) (a := .num 0) (by rw [step_start, if_neg e']) rfl S1 D1 np⟩
def sp_lay_one (T : Txt K mg) : Sp := fun vs H Q _ => ∃ (x : Addr) (m : Bool) (n : Nat) (b : Bench) (Own : Addr → Prop), vs = [.ref x, .bl m, .int (n : Int)] ∧ ShopAt T H x (some b) Own ∧ WF b ∧ Answers T (if m then .minus n else .plus n) x (some b) Own H Q
theorem ok_lay_one (T : Txt K mg) : FnOk P w K mg base CX0 4 T.lay_one.f T.lay_one.fd ["shop", "minus", "wide"] (sp_lay_one T) := by
  refine T.lay_one.F.ok sc_lay_one (fun vs H Q E h => ?_) (fun cdv A outer s H vs Q E hr h => ?_)
  · obtain ⟨x, m, n, b, Own, rfl, _⟩ := h
    rfl
  · obtain ⟨x, m, n, b, Own, rfl, S, w1, k⟩ := h
    refine ⟨_, (pss_cons (ps_if (pt_not (pt_val (pe_call (ok_is_width T) (hr.mono (by decide)) rfl T.is_width.g T.is_width.F.kp T.is_width.b .nil pass0 (pa_cons (pv 2) pa_nil))))
          (pss_one (ps_ret (pe_lst (pa_cons (pe_glob (v := V.int (-22)) rfl T.WRONG_VALUE.g ⟨_, rfl⟩) pa_nil))))
          pss_nil)
          (pss_cons (ps_if (pt_val (pe_meth0 (pv 0) T.Shop.cl T.Shop_is_full.m (ok_Shop_is_full T) (hr.mono (by decide)) T.Shop_is_full.b .nil pass0))
          (pss_one (ps_ret (pe_lst (pa_cons (pe_glob (v := V.int (-28)) rfl T.FULL.g ⟨_, rfl⟩) pa_nil))))
          pss_nil)
          (pss_one (ps_ret (pe_lst (pa_cons (pe_meth (pv 0) T.Shop.cl T.Shop_lay_sheet.m (ok_Shop_lay_sheet T) (hr.mono (by decide)) T.Shop_lay_sheet.b .nil pass0 (pa_cons (pv 1) (pa_cons (pv 2) pa_nil))) pa_nil)))))), ?_⟩
    have few := w1.few
    refine ⟨_, rfl, n, rfl, ?_⟩
    rw [okWide_int]
    refine ⟨_, rfl, ifb (fun e => ?_) (fun e => ?_)⟩
    · exact ⟨one_size, fun p np => ans_same k (a := .num (-22)) (by rw [step_lay, if_pos (not_t e)]) rfl S (Same.refl _) np⟩
    have e1 : ¬ Kqb2.okWide n = false := by rw [not_f e]; simp
    obtain ⟨d, l, dk, as, Z, S'⟩ := id S
    refine ⟨_, rfl, x, d, _, rfl, S'.obj, F_Shop_not_is_full, x, some b, Own, rfl, S, _, rfl, ifb (fun e2 => ?_) (fun e2 => ?_)⟩
    · exact ⟨one_size, fun p np => ans_same k (a := .num (-28)) (by rw [step_lay, if_neg e1, if_pos (show 14 ≤ b.sheets.length from of_decide_eq_true e2)]) rfl S (Same.refl _) np⟩
    · refine ⟨_, rfl, x, d, _, rfl, S'.obj, F_Shop_not_lay_sheet, _, rfl, _, rfl, x, m, n, b, Own, rfl, S, few, fun H1 Own1 S1 D1 => ?_⟩
      exact ⟨one_size, fun p np => ans_did k (a := .num b.sheets.length) (by rw [step_lay, if_neg e1, if_neg (show ¬ 14 ≤ b.sheets.length from of_decide_eq_false e2)]) rfl S1 D1 np⟩
def sp_call_plus (T : Txt K mg) : Sp := fun vs H Q _ => ∃ (x g : Addr) (n : Nat) (b : Bench) (Own : Addr → Prop), vs = [.ref x, .ref g] ∧ ShopAt T H x (some b) Own ∧ WF b ∧ LstAt H g [n] ∧ Answers T (.plus n) x (some b) Own H Q
theorem ok_call_plus (T : Txt K mg) : FnOk P w K mg base CX0 5 T.call_plus.f T.call_plus.fd ["shop", "given"] (sp_call_plus T) := by
  refine T.call_plus.F.ok sc_call_plus (fun vs H Q E h => ?_) (fun cdv A outer s H vs Q E hr h => ?_)
  · obtain ⟨x, g, n, b, Own, rfl, _⟩ := h
    rfl
  · obtain ⟨x, g, n, b, Own, rfl, S, w1, hg, k⟩ := h
    refine ⟨_, (pss_one (ps_ret (pe_call (ok_lay_one T) (hr.mono (by decide)) rfl T.lay_one.g T.lay_one.F.kp T.lay_one.b .nil pass0 (pa_cons (pv 0) (pa_cons pe_bl (pa_cons (pe_ix ix_list (pv 1) pe_int (fun _ _ => rfl)) pa_nil)))))), ?_⟩
    exact ⟨_, rfl, _, rfl, g, _, _, _, rfl, rfl, SqL.of hg, atI_map (i := 0) rfl, x, false, n, b, Own, rfl, S, w1, k⟩
def sp_call_minus (T : Txt K mg) : Sp := fun vs H Q _ => ∃ (x g : Addr) (n : Nat) (b : Bench) (Own : Addr → Prop), vs = [.ref x, .ref g] ∧ ShopAt T H x (some b) Own ∧ WF b ∧ LstAt H g [n] ∧ Answers T (.minus n) x (some b) Own H Q
theorem ok_call_minus (T : Txt K mg) : FnOk P w K mg base CX0 5 T.call_minus.f T.call_minus.fd ["shop", "given"] (sp_call_minus T) := by
  refine T.call_minus.F.ok sc_call_minus (fun vs H Q E h => ?_) (fun cdv A outer s H vs Q E hr h => ?_)
  · obtain ⟨x, g, n, b, Own, rfl, _⟩ := h
    rfl
  · obtain ⟨x, g, n, b, Own, rfl, S, w1, hg, k⟩ := h
    refine ⟨_, (pss_one (ps_ret (pe_call (ok_lay_one T) (hr.mono (by decide)) rfl T.lay_one.g T.lay_one.F.kp T.lay_one.b .nil pass0 (pa_cons (pv 0) (pa_cons pe_bl (pa_cons (pe_ix ix_list (pv 1) pe_int (fun _ _ => rfl)) pa_nil)))))), ?_⟩
    exact ⟨_, rfl, _, rfl, g, _, _, _, rfl, rfl, SqL.of hg, atI_map (i := 0) rfl, x, true, n, b, Own, rfl, S, w1, k⟩
def sp_call_fit (T : Txt K mg) : Sp := fun vs H Q _ => ∃ (x g : Addr) (i j : Nat) (b : Bench) (Own : Addr → Prop), vs = [.ref x, .ref g] ∧ ShopAt T H x (some b) Own ∧ WF b ∧ LstAt H g [i, j] ∧ Answers T (.fit i j) x (some b) Own H Q
theorem ok_call_fit (T : Txt K mg) : FnOk P w K mg base CX0 4 T.call_fit.f T.call_fit.fd ["shop", "given"] (sp_call_fit T) := by
  refine T.call_fit.F.ok sc_call_fit (fun vs H Q E h => ?_) (fun cdv A outer s H vs Q E hr h => ?_)
  · obtain ⟨x, g, i, j, b, Own, rfl, _⟩ := h
    rfl
  · obtain ⟨x, g, i, j, b, Own, rfl, S, w1, hg, k⟩ := h
    refine ⟨_, (pss_cons (ps_set (i := 2) sc_call_fit.nd rfl (Or.inl rfl) (pe_ix ix_list (pv 1) pe_int (fun _ _ => rfl)))
          (pss_cons (ps_set (i := 3) sc_call_fit.nd rfl (Or.inl rfl) (pe_ix ix_list (pv 1) pe_int (fun _ _ => rfl)))
          (pss_cons (ps_if (PW.pt (pw_or (pt_not (pt_val (pe_meth (pv 0) T.Shop.cl T.Shop_has_sheet.m (ok_Shop_has_sheet T) (hr.mono (by decide)) T.Shop_has_sheet.b .nil pass0 (pa_cons (pv 2) pa_nil)))) (pw_or1 (pt_not (pt_val (pe_meth (pv 0) T.Shop.cl T.Shop_has_sheet.m (ok_Shop_has_sheet T) (hr.mono (by decide)) T.Shop_has_sheet.b .nil pass0 (pa_cons (pv 3) pa_nil)))))))
          (pss_one (ps_ret (pe_lst (pa_cons (pe_glob (v := V.int (-2)) rfl T.NO_SUCH.g ⟨_, rfl⟩) pa_nil))))
          pss_nil)
          (pss_one (ps_ret (pe_lst (pa_cons (pe_callTy call_int1 (by rfl) T.b_int (by decide +kernel) (pa_cons (pe_meth (pv 0) T.Shop.cl T.Shop_fits.m (ok_Shop_fits T) (hr.mono (by decide)) T.Shop_fits.b .nil pass0 (pa_cons (pv 2) (pa_cons (pv 3) pa_nil))) pa_nil)) pa_nil))))))), ?_⟩
    obtain ⟨d, l, dk, as, Z, S'⟩ := id S
    refine ⟨_, rfl, g, _, _, _, rfl, rfl, SqL.of hg, atI_map (i := 0) rfl, ?_⟩
    refine ⟨_, rfl, g, _, _, _, rfl, rfl, SqL.of hg, atI_map (i := 1) rfl, ?_⟩
    have no : ¬ (i < b.sheets.length ∧ j < b.sheets.length) → Kqb2.step (some b) (.fit i j) = (some b, .num (-2)) := fun q => by
      rw [step_fit, if_pos (by omega)]
    refine ⟨_, rfl, x, d, _, rfl, S'.obj, F_Shop_not_has_sheet, _, rfl, x, i, some b, Own, rfl, S, _, rfl, ifb (fun e => iteT ?_) (fun e => ?_)⟩
    · have e' := of_decide_eq_false (not_t e)
      exact ⟨one_size, fun p np => ans_same k (no fun q => e' q.1) rfl S (Same.refl _) np⟩
    have e1 : i < b.sheets.length := of_decide_eq_true (not_f e)
    refine ⟨_, rfl, x, d, _, rfl, S'.obj, F_Shop_not_has_sheet, _, rfl, x, j, some b, Own, rfl, S, _, rfl, ifb (fun e => ?_) (fun e => ?_)⟩
    · have e' := of_decide_eq_false (not_t e)
      exact ⟨one_size, fun p np => ans_same k (no fun q => e' q.2) rfl S (Same.refl _) np⟩
    have e2 : j < b.sheets.length := of_decide_eq_true (not_f e)
    refine ⟨_, rfl, x, d, _, rfl, S'.obj, F_Shop_not_fits, _, rfl, _, rfl, x, i, j, b, Own, rfl, S, e1, e2, ?_⟩
    refine .inr ⟨_, rfl, one_size, fun p np => ?_⟩
    have es : Kqb2.step (some b) (.fit i j) = (some b, .num (if Kqb2.fit b i j then 1 else 0)) := by rw [step_fit, if_neg (by omega)]
    have := ans_same k es rfl S (Same.refl _) np
    cases c : Kqb2.fit b i j with
    | true =>
      rw [c] at this
      exact this
    | false =>
      rw [c] at this
      exact this
end
section
variable {P : Program} {w : World} {K : PySem.W.Frag} {mg : Str → Option Value} {base : Heap}
open Kqb2 (Bench)
/-- one sheet is changed -/
theorem ShopIn.put {T : Txt K mg} {H : Hp} {x dx l dk : Addr} {as : List Addr} {Z : List Ent} {b : Bench} {Own : Addr → Prop} (S : ShopIn T H x dx l dk as Z (some b) Own) {i : Nat} {a d : Addr} {y y' : Kqb2.Sheet} (ha : as[i]? = some a) (hy : b.sheets[i]? = some y)
    (hd : H a = some (.ins T.Sheet.C d (F_Sheet (.bl y.minus) (.int (y.wide : Int))))) :
    ShopIn T (upd H a (.ins T.Sheet.C d (F_Sheet (.bl y'.minus) (.int (y'.wide : Int))))) x dx l dk as Z (some { b with sheets := b.sheets.set i y' }) Own where
  obj := by
    have hs : SheetAt T H a y := ⟨d, hd⟩
    rw [upd_ne (SheetAt.ne_x S hs).symm]
    exact S.obj
  lst := by
    rw [upd_ne (ne_of S.lst hd (by intro q; cases q))]
    exact S.lst
  dic := by
    rw [upd_ne (ne_of S.dic hd (by intro q; cases q))]
    exact S.dic
  nd := S.nd
  len := by
    show as.length = (b.sheets.set i y').length
    rw [List.length_set]
    exact S.len
  at_ := fun j c z h1 h2 => by
    have h2 : (b.sheets.set i y')[j]? = some z := h2
    by_cases q : j = i
    · subst q
      rw [ha] at h1
      cases h1
      rw [List.getElem?_set_self (List.getElem?_eq_some_iff.mp hy).1] at h2
      cases h2
      exact ⟨d, upd_same⟩
    · rw [List.getElem?_set_ne (fun e => q e.symm)] at h2
      obtain ⟨dc, hc⟩ := S.at_ j c z h1 h2
      have nc : c ≠ a := fun e => q (nd_ix S.nd (e ▸ h1) ha)
      exact ⟨dc, by rw [upd_ne nc]; exact hc⟩
  ents := S.ents
  lists := fun e he => ⟨by
    show upd H a _ e.2.2 = _
    rw [upd_ne (ne_of (S.lists e he).1 hd (by intro q; cases q))]
    exact (S.lists e he).1, (S.lists e he).2⟩
  own := S.own
theorem did_put {H : Hp} {Own : Addr → Prop} {a : Addr} {o : HO} (ha : Own a) : Did H (upd H a o) Own Own :=
  ⟨fun b u e n => by rw [upd_ne (fun q => n (by rw [q]; exact ha))]; exact e, fun b h => .inl h, fun b u e => upd_trk e⟩
def sp_call_trim (T : Txt K mg) : Sp := fun vs H Q _ => ∃ (x g : Addr) (i n : Nat) (b : Bench) (Own : Addr → Prop), vs = [.ref x, .ref g] ∧ ShopAt T H x (some b) Own ∧ WF b ∧ LstAt H g [i, n] ∧ Answers T (.trim i n) x (some b) Own H Q
theorem ok_call_trim (T : Txt K mg) : FnOk P w K mg base CX0 3 T.call_trim.f T.call_trim.fd ["shop", "given"] (sp_call_trim T) := by
  refine T.call_trim.F.ok sc_call_trim (fun vs H Q E h => ?_) (fun cdv A outer s H vs Q E hr h => ?_)
  · obtain ⟨x, g, i, n, b, Own, rfl, _⟩ := h
    rfl
  · obtain ⟨x, g, i, n, b, Own, rfl, S, w1, hg, k⟩ := h
    refine ⟨_, (pss_cons (ps_set (i := 2) sc_call_trim.nd rfl (Or.inl rfl) (pe_ix ix_list (pv 1) pe_int (fun _ _ => rfl)))
          (pss_cons (ps_set (i := 3) sc_call_trim.nd rfl (Or.inl rfl) (pe_ix ix_list (pv 1) pe_int (fun _ _ => rfl)))
          (pss_cons (ps_if (pt_not (pt_val (pe_meth (pv 0) T.Shop.cl T.Shop_has_sheet.m (ok_Shop_has_sheet T) (hr.mono (by decide)) T.Shop_has_sheet.b .nil pass0 (pa_cons (pv 2) pa_nil))))
          (pss_one (ps_ret (pe_lst (pa_cons (pe_glob (v := V.int (-2)) rfl T.NO_SUCH.g ⟨_, rfl⟩) pa_nil))))
          pss_nil)
          (pss_cons (ps_if (pt_not (pt_val (pe_meth (pv 0) T.Shop.cl T.Shop_is_loose.m (ok_Shop_is_loose T) (hr.mono (by decide)) T.Shop_is_loose.b .nil pass0 (pa_cons (pv 2) pa_nil))))
          (pss_one (ps_ret (pe_lst (pa_cons (pe_glob (v := V.int (-16)) rfl T.STACK_FORBIDS.g ⟨_, rfl⟩) pa_nil))))
          pss_nil)
          (pss_cons (ps_set (i := 4) sc_call_trim.nd rfl (Or.inl rfl) (pe_ix ix_list (pe_fld (pv 0) rfl) (pv 2) (fun _ _ => rfl)))
          (pss_cons (ps_if (PW.pt (pw_or (pt_cmpR op_eq (pv 3) pe_int (nomark _)) (pw_or1 (pt_cmpR op_ge (pv 3) (pe_fld (pv 4) rfl) (nomark _)))))
          (pss_one (ps_ret (pe_lst (pa_cons (pe_glob (v := V.int (-22)) rfl T.WRONG_VALUE.g ⟨_, rfl⟩) pa_nil))))
          pss_nil)
          (pss_cons (ps_set (i := 5) sc_call_trim.nd rfl (Or.inl rfl) (pe_fld (pv 4) rfl))
          (pss_cons (ps_fld (pv 4) (pv 3) rfl)
          (pss_one (ps_ret (pe_lst (pa_cons (pv 5) pa_nil)))))))))))), ?_⟩
    obtain ⟨d, l, dk, as, Z, S'⟩ := id S
    refine ⟨_, rfl, g, _, _, _, rfl, rfl, SqL.of hg, atI_map (i := 0) rfl, ?_⟩
    refine ⟨_, rfl, g, _, _, _, rfl, rfl, SqL.of hg, atI_map (i := 1) rfl, ?_⟩
    refine ⟨_, rfl, x, d, _, rfl, S'.obj, F_Shop_not_has_sheet, _, rfl, x, i, some b, Own, rfl, S, _, rfl, ifb (fun e => ?_) (fun e => ?_)⟩
    · have e' : ¬ i < b.sheets.length := of_decide_eq_false (not_t e)
      exact ⟨one_size, fun p np => ans_same k (a := .num (-2)) (by rw [step_trim, List.getElem?_eq_none (by omega)]) rfl S (Same.refl _) np⟩
    have hi : i < b.sheets.length := of_decide_eq_true (not_f e)
    have ei : b.sheets[i]? = some b.sheets[i] := List.getElem?_eq_getElem hi
    have st : Kqb2.step (some b) (.trim i n) = if b.sheets[i].stack ≠ 0 then (some b, .num (-16)) else if n = 0 ∨ b.sheets[i].wide ≤ n then (some b, .num (-22)) else (some { b with sheets := b.sheets.set i { b.sheets[i] with wide := n } }, .num b.sheets[i].wide) := by
      rw [step_trim, ei]
    refine ⟨_, rfl, x, d, _, rfl, S'.obj, F_Shop_not_is_loose, _, rfl, x, i, _, b, Own, rfl, S, w1, ei, fun H1 s1 => ⟨_, rfl, ifb (fun e => ?_) (fun e => ?_)⟩⟩
    · have e0 : b.sheets[i].stack ≠ 0 := of_decide_eq_false (not_t e)
      exact ⟨one_size, fun p np => ans_same k (a := .num (-16)) (by rw [st, if_pos e0]) rfl S s1 np⟩
    have e1 : ¬ b.sheets[i].stack ≠ 0 := by
      have := of_decide_eq_true (not_f e)
      omega
    have S0 := S
    have S1 := S'.keep (H' := H1) fun a o _ e => s1 a o e
    obtain ⟨a, ha, da, Ha⟩ := S1.addr (i := i) ei
    have sAt : Same H1 H1 := Same.refl _
    refine ⟨_, rfl, x, _, d, _, _, rfl, S1.obj, T.Shop.cl, T.Shop_no_sheets, F_Shop_sheets, _, rfl, l, _, _, _, rfl, rfl, SqL.of S1.lst, atI_map ha, ?_⟩
    have bad : n = 0 ∨ b.sheets[i].wide ≤ n → Kqb2.step (some b) (.trim i n) = (some b, .num (-22)) := fun q => by rw [st, if_neg e1, if_pos q]
    refine ⟨_, rfl, rfl, _, rfl, ifb (fun e => iteT ?_) (fun e => ?_)⟩
    · have e2 : n = 0 := by
        have : (n : Int) = 0 := V.int.inj (of_decide_eq_true e)
        omega
      exact ⟨one_size, fun p np => ans_same k (bad (.inl e2)) rfl S s1 np⟩
    have e2 : ¬ n = 0 := fun q => by
      subst q
      exact absurd rfl (of_decide_eq_false e)
    refine ⟨_, rfl, _, rfl, a, _, da, _, _, rfl, Ha, T.Sheet.cl, T.Sheet_no_wide, F_Sheet_wide, _, _, rfl, rfl, _, rfl, ifb (fun e => ?_) (fun e => ?_)⟩
    · have e3 : b.sheets[i].wide ≤ n := by
        have : ((b.sheets[i].wide : Nat) : Int) ≤ (n : Int) := of_decide_eq_true e
        omega
      exact ⟨one_size, fun p np => ans_same k (bad (.inr e3)) rfl S s1 np⟩
    have e3 : ¬ b.sheets[i].wide ≤ n := by
      have : ¬ ((b.sheets[i].wide : Nat) : Int) ≤ (n : Int) := of_decide_eq_false e
      omega
    refine ⟨_, rfl, a, _, da, _, _, rfl, Ha, T.Sheet.cl, T.Sheet_no_wide, F_Sheet_wide, ?_⟩
    refine ⟨_, rfl, _, rfl, a, _, da, _, rfl, Ha, T.Sheet.cl, T.Sheet_no_wide, (by show 2 < 1000; decide), ?_⟩
    rw [F_Sheet_put_wide]
    have S2 := S1.put (y' := { b.sheets[i] with wide := n }) ha ei Ha
    refine ⟨_, rfl, one_size, fun p np => ?_⟩
    exact ans_did k (a := .num b.sheets[i].wide) (by rw [st, if_neg e1, if_neg (fun q => q.elim e2 e3)]) rfl ⟨d, l, dk, as, Z, S2⟩ (Did.ahead s1 (did_put (S1.own_a (List.mem_of_getElem? ha)))) np
/-! ### over, under -/
theorem fit_minus {b : Bench} {i : Nat} (h : Kqb2.isMinus b i = true) (j : Nat) : Kqb2.fit b i j = Kqb2.over b i j := by
  have e : Kqb2.isPlus b i = false := by
    unfold Kqb2.isPlus
    unfold Kqb2.isMinus at h
    cases c : b.sheets[i]? with
    | none => rfl
    | some y =>
      rw [c] at h
      have : y.minus = true := h
      show (!y.minus) = false
      rw [this]
      rfl
  unfold Kqb2.fit
  have : Kqb2.over b j i = false := by
    unfold Kqb2.over
    rw [e, Bool.and_false, Bool.false_and]
  rw [this, Bool.or_false]
theorem fit_plus {b : Bench} {i : Nat} (h : Kqb2.isMinus b i = false) (j : Nat) : Kqb2.fit b i j = Kqb2.over b j i := by
  unfold Kqb2.fit
  have : Kqb2.over b i j = false := by
    unfold Kqb2.over
    rw [h, Bool.false_and, Bool.false_and]
  rw [this, Bool.false_or]
def sp_fitting_to (T : Txt K mg) : Sp := fun vs H Q _ => ∃ (x : Addr) (m : Bool) (i : Nat) (b : Bench) (Own : Addr → Prop), vs = [.ref x, .bl m, .int (i : Int)] ∧ ShopAt T H x (some b) Own ∧ WF b ∧ Answers T (if m then .over i else .under i) x (some b) Own H Q
theorem step_reach (m : Bool) (b : Bench) (i : Nat) : Kqb2.step (some b) (if m then .over i else .under i) = (some b, if b.sheets.length ≤ i then .num (-2) else if Kqb2.isMinus b i ≠ m then .num (-13) else Kqb2.row ((List.range b.sheets.length).filter fun j => Kqb2.fit b i j)) := by
  cases m with
  | true =>
    rw [if_pos rfl, step_over]
    by_cases c : Kqb2.isMinus b i = true
    · simp only [c, fit_minus c]
      rfl
    · simp [c]
  | false =>
    rw [if_neg Bool.false_ne_true, step_under]
    by_cases c : Kqb2.isMinus b i = true
    · simp [c]
    · have c' : Kqb2.isMinus b i = false := by simpa using c
      simp only [c', fit_plus c']
      rfl
theorem tell_row (l : List Nat) : Kqb2Neutral.tell (Kqb2.row l) = (l.length : Int) :: nints l := rfl
theorem ok_fitting_to (T : Txt K mg) : FnOk P w K mg base CX0 5 T.fitting_to.f T.fitting_to.fd ["shop", "minus", "i"] (sp_fitting_to T) := by
  refine T.fitting_to.F.ok sc_fitting_to (fun vs H Q E h => ?_) (fun cdv A outer s H vs Q E hr h => ?_)
  · obtain ⟨x, m, i, b, Own, rfl, _⟩ := h
    rfl
  · obtain ⟨x, m, i, b, Own, rfl, S, w1, k⟩ := h
    refine ⟨_, (pss_cons (ps_if (pt_not (pt_val (pe_meth (pv 0) T.Shop.cl T.Shop_has_sheet.m (ok_Shop_has_sheet T) (hr.mono (by decide)) T.Shop_has_sheet.b .nil pass0 (pa_cons (pv 2) pa_nil))))
          (pss_one (ps_ret (pe_lst (pa_cons (pe_glob (v := V.int (-2)) rfl T.NO_SUCH.g ⟨_, rfl⟩) pa_nil))))
          pss_nil)
          (pss_cons (ps_if (pt_cmpR op_ne (pe_fld (pe_ix ix_list (pe_fld (pv 0) rfl) (pv 2) (fun _ _ => rfl)) rfl) (pv 1) (nomark _))
          (pss_one (ps_ret (pe_lst (pa_cons (pe_glob (v := V.int (-13)) rfl T.WRONG_SIGN.g ⟨_, rfl⟩) pa_nil))))
          pss_nil)
          (pss_cons (ps_set (i := 3) sc_fitting_to.nd rfl (Or.inl rfl) (pe_meth (pv 0) T.Shop.cl T.Shop_fitting.m (ok_Shop_fitting T) (hr.mono (by decide)) T.Shop_fitting.b .nil pass0 (pa_cons (pv 2) pa_nil)))
          (pss_one (ps_ret (pe_op op_cat (pe_lst (pa_cons (pe_callB call_len_seq (by rfl) T.b_len PySem.boot_len (pa_cons (pv 3) pa_nil)) pa_nil)) (pv 3))))))), ?_⟩
    obtain ⟨d, l, dk, as, Z, S'⟩ := id S
    refine ⟨_, rfl, x, d, _, rfl, S'.obj, F_Shop_not_has_sheet, _, rfl, x, i, some b, Own, rfl, S, _, rfl, ifb (fun e => ?_) (fun e => ?_)⟩
    · have e' : ¬ i < b.sheets.length := of_decide_eq_false (not_t e)
      exact ⟨one_size, fun p np => ans_same k (a := .num (-2)) (by rw [step_reach, if_pos (by omega)]) rfl S (Same.refl _) np⟩
    have hi : i < b.sheets.length := of_decide_eq_true (not_f e)
    have ei : b.sheets[i]? = some b.sheets[i] := List.getElem?_eq_getElem hi
    obtain ⟨a, ha, da, Ha⟩ := S'.addr (i := i) ei
    have em := isMinus_at ei
    refine ⟨_, rfl, x, _, d, _, _, rfl, S'.obj, T.Shop.cl, T.Shop_no_sheets, F_Shop_sheets, _, rfl, l, _, _, _, rfl, rfl, SqL.of S'.lst, atI_map ha, a, _, da, _, _, rfl, Ha, T.Sheet.cl, T.Sheet_no_minus, F_Sheet_minus, _, rfl, rfl, _, rfl, ifb (fun e => ?_) (fun e => ?_)⟩
    · have e' : Kqb2.isMinus b i ≠ m := fun q => by
        rw [em] at q
        rw [q] at e
        simp at e
      exact ⟨one_size, fun p np => ans_same k (a := .num (-13)) (by rw [step_reach, if_neg (by omega), if_pos e']) rfl S (Same.refl _) np⟩
    have e' : ¬ Kqb2.isMinus b i ≠ m := fun q => by
      have := of_decide_eq_true (not_f e)
      injection this with this
      exact q (em.trans this)
    refine ⟨_, rfl, x, d, _, rfl, S'.obj, F_Shop_not_fitting, _, rfl, x, i, b, Own, rfl, S, hi, w1.few, fun H1 q s1 nq hq => ?_⟩
    refine ⟨_, rfl, _, _, rfl, .inl hq.nats, one_size, fun q2 nq2 => ?_⟩
    have nqq : q ≠ q2 := hq.ne nq2
    refine ⟨_, rfl, q2, q, _, _, rfl, rfl, upd_same, (by rw [upd_ne nqq]; exact hq), ?_, fun p np => ?_⟩
    · rw [nints_length]
      have := List.length_filter_le (fun j => Kqb2.fit b i j) (List.range b.sheets.length)
      rw [List.length_range] at this
      have few := w1.few
      exact Nat.le_trans (show 1 + ((List.range b.sheets.length).filter fun j => Kqb2.fit b i j).length ≤ 100000 by omega) (by decide)
    · rw [nints_length] at np ⊢
      exact ans_same k (a := Kqb2.row ((List.range b.sheets.length).filter fun j => Kqb2.fit b i j)) (by rw [step_reach, if_neg (by omega), if_neg e']) (tell_row _) S (s1.trans (same_upd nq2)) np
def sp_call_over (T : Txt K mg) : Sp := fun vs H Q _ => ∃ (x g : Addr) (i : Nat) (b : Bench) (Own : Addr → Prop), vs = [.ref x, .ref g] ∧ ShopAt T H x (some b) Own ∧ WF b ∧ LstAt H g [i] ∧ Answers T (.over i) x (some b) Own H Q
theorem ok_call_over (T : Txt K mg) : FnOk P w K mg base CX0 6 T.call_over.f T.call_over.fd ["shop", "given"] (sp_call_over T) := by
  refine T.call_over.F.ok sc_call_over (fun vs H Q E h => ?_) (fun cdv A outer s H vs Q E hr h => ?_)
  · obtain ⟨x, g, i, b, Own, rfl, _⟩ := h
    rfl
  · obtain ⟨x, g, i, b, Own, rfl, S, w1, hg, k⟩ := h
    refine ⟨_, (pss_one (ps_ret (pe_call (ok_fitting_to T) (hr.mono (by decide)) rfl T.fitting_to.g T.fitting_to.F.kp T.fitting_to.b .nil pass0 (pa_cons (pv 0) (pa_cons pe_bl (pa_cons (pe_ix ix_list (pv 1) pe_int (fun _ _ => rfl)) pa_nil)))))), ?_⟩
    exact ⟨_, rfl, _, rfl, g, _, _, _, rfl, rfl, SqL.of hg, atI_map (i := 0) rfl, x, true, i, b, Own, rfl, S, w1, k⟩
def sp_call_under (T : Txt K mg) : Sp := fun vs H Q _ => ∃ (x g : Addr) (i : Nat) (b : Bench) (Own : Addr → Prop), vs = [.ref x, .ref g] ∧ ShopAt T H x (some b) Own ∧ WF b ∧ LstAt H g [i] ∧ Answers T (.under i) x (some b) Own H Q
theorem ok_call_under (T : Txt K mg) : FnOk P w K mg base CX0 6 T.call_under.f T.call_under.fd ["shop", "given"] (sp_call_under T) := by
  refine T.call_under.F.ok sc_call_under (fun vs H Q E h => ?_) (fun cdv A outer s H vs Q E hr h => ?_)
  · obtain ⟨x, g, i, b, Own, rfl, _⟩ := h
    rfl
  · obtain ⟨x, g, i, b, Own, rfl, S, w1, hg, k⟩ := h
    refine ⟨_, (pss_one (ps_ret (pe_call (ok_fitting_to T) (hr.mono (by decide)) rfl T.fitting_to.g T.fitting_to.F.kp T.fitting_to.b .nil pass0 (pa_cons (pv 0) (pa_cons pe_bl (pa_cons (pe_ix ix_list (pv 1) pe_int (fun _ _ => rfl)) pa_nil)))))), ?_⟩
    exact ⟨_, rfl, _, rfl, g, _, _, _, rfl, rfl, SqL.of hg, atI_map (i := 0) rfl, x, false, i, b, Own, rfl, S, w1, k⟩
end
section
variable {P : Program} {w : World} {K : PySem.W.Frag} {mg : Str → Option Value} {base : Heap}
open Kqb2 (Bench)
/-- a list of lists of numbers, each its own -/
def ListsAt (H : Hp) (p : Addr) (ll : List (List Nat)) : Prop := ∃ as : List Addr, H p = some (.lst (as.map V.ref)) ∧ as.length = ll.length ∧ ∀ (i : Nat) (a : Addr) (l : List Nat), as[i]? = some a → ll[i]? = some l → LstAt H a l
theorem ListsAt.same {H H' : Hp} {p : Addr} {ll : List (List Nat)} (s : Same H H') (h : ListsAt H p ll) : ListsAt H' p ll := by
  obtain ⟨as, h1, h2, h3⟩ := h
  exact ⟨as, s _ _ h1, h2, fun i a l e1 e2 => s _ _ (h3 i a l e1 e2)⟩
/-- one list more is appended; none of them is empty -/
theorem ListsAt.push {H : Hp} {p a : Addr} {ll : List (List Nat)} {l : List Nat} {as : List Addr} (hp : H p = some (.lst (as.map V.ref))) (hl : as.length = ll.length) (h : ∀ (i : Nat) (a : Addr) (l : List Nat), as[i]? = some a → ll[i]? = some l → LstAt H a l) (ne : ∀ l ∈ ll, l ≠ []) (hn : l ≠ []) (ha : LstAt H a l) : ListsAt (upd H p (.lst ((as ++ [a]).map V.ref))) p (ll ++ [l]) := by
  have apart : ∀ (c : Addr) (m : List Nat), m ≠ [] → LstAt H c m → c ≠ p := fun c m hm hc e => by
    subst e
    have hc : H c = some (.lst ((nints m).map V.int)) := hc
    rw [hp] at hc
    injection hc with hc
    injection hc with hc
    cases m with
    | nil => exact hm rfl
    | cons z m =>
      cases as with
      | nil => cases hc
      | cons q as => cases hc
  refine ⟨as ++ [a], upd_same, by rw [List.length_append, List.length_append, hl]; rfl, fun i c m h1 h2 => ?_⟩
  rcases as_snoc h1 with ⟨q, h1⟩ | ⟨rfl, rfl⟩
  · rw [List.getElem?_append_left (by omega)] at h2
    have h3 := h i c m h1 h2
    show upd H p _ c = _
    rw [upd_ne (apart c m (ne m (List.mem_of_getElem? h2)) h3)]
    exact h3
  · rw [hl, List.getElem?_append_right (Nat.le_refl _), Nat.sub_self] at h2
    have : l = m := Option.some.inj h2
    subst this
    show upd H p _ c = _
    rw [upd_ne (apart c l hn ha)]
    exact ha
theorem last_nints {l : List Nat} (h : l ≠ []) : atI ((nints l).map V.int) (-1) = some (.int (lastOf l : Int)) := by
  have e : l = l.dropLast ++ [lastOf l] := by
    have := (List.dropLast_concat_getLast h).symm
    unfold lastOf
    rw [List.getLastD_eq_getLast?, List.getLast?_eq_some_getLast h]
    exact this
  have e2 : (nints l).map V.int = (nints l.dropLast).map V.int ++ [.int (lastOf l : Int)] := by
    conv =>
      lhs
      rw [e, nints_append, List.map_append]
    rfl
  rw [e2]
  exact atI_last _ _
theorem lastOf_mem {l : List Nat} (h : l ≠ []) : lastOf l ∈ l := by
  unfold lastOf
  rw [List.getLastD_eq_getLast?, List.getLast?_eq_some_getLast h]
  exact List.getLast_mem h
theorem ext_ne {b : Bench} {ls laid l : List Nat} (h : l ∈ ext b ls laid) : l ≠ [] := by
  obtain ⟨i, _, rfl⟩ := List.mem_map.mp h
  simp
theorem higher_ne {b : Bench} {ls : List Nat} {ll : List (List Nat)} {l : List Nat} (h : l ∈ higher b ls ll) : l ≠ [] := by
  obtain ⟨laid, _, h⟩ := List.mem_flatMap.mp h
  exact ext_ne h
theorem higher_take {b : Bench} {ls : List Nat} {ll : List (List Nat)} {j : Nat} {laid : List Nat} (h : ll[j]? = some laid) : higher b ls (ll.take (j + 1)) = higher b ls (ll.take j) ++ ext b ls laid := by
  unfold higher
  rw [take_snoc h, List.flatMap_append, List.flatMap_cons, List.flatMap_nil, List.append_nil]
theorem ext_take {b : Bench} {ls laid : List Nat} {i n : Nat} (h : ls[i]? = some n) : ext b (ls.take (i + 1)) laid = ext b (ls.take i) laid ++ if (!(laid.contains n) && Kqb2.fit b (lastOf laid) n) = true then [laid ++ [n]] else [] := by
  unfold ext
  rw [take_snoc h, List.filter_append, List.map_append]
  congr 1
  rw [List.filter_cons, List.filter_nil]
  by_cases c : (!(laid.contains n) && Kqb2.fit b (lastOf laid) n) = true
  · rw [if_pos c, if_pos c]
    rfl
  · rw [if_neg c, if_neg c]
    rfl
theorem ext_len (b : Bench) (ls laid : List Nat) : (ext b ls laid).length ≤ ls.length := by
  unfold ext
  rw [List.length_map]
  exact List.length_filter_le _ _
def sp_one_higher (T : Txt K mg) : Sp := fun vs H Q _ => ∃ (x B L : Addr) (ll : List (List Nat)) (ls : List Nat) (b : Bench) (Own : Addr → Prop), vs = [.ref x, .ref B, .ref L] ∧ ShopAt T H x (some b) Own ∧ ListsAt H B ll ∧ LstAt H L ls ∧
  ls.length ≤ 7 ∧ ll.length * ls.length ≤ 1000000 ∧ (∀ i ∈ ls, i < b.sheets.length) ∧ (∀ laid ∈ ll, laid ≠ [] ∧ laid.length ≤ 7 ∧ ∀ i ∈ laid, i < b.sheets.length) ∧
  ∀ H' p, Same H H' → H p = none → ListsAt H' p (higher b ls ll) → Q (.ref p) H'
theorem ok_one_higher (T : Txt K mg) : FnOk P w K mg base CX0 4 T.one_higher.f T.one_higher.fd ["shop", "begun", "listed"] (sp_one_higher T) := by
  refine T.one_higher.F.ok sc_one_higher (fun vs H Q E h => ?_) (fun cdv A outer s H vs Q E hr h => ?_)
  · obtain ⟨x, B, L, ll, ls, b, Own, rfl, _⟩ := h
    rfl
  · obtain ⟨x, B, L, ll, ls, b, Own, rfl, S, hB, hL, l7, lll, bs, bll, k⟩ := h
    refine ⟨_, (pss_cons (ps_set (i := 3) sc_one_higher.nd rfl (Or.inl rfl) (pe_lst pa_nil))
          (pss_cons (ps_for PassesOwn.never rfl (pi_list (pv 1)) (pg_name (i := 4) sc_one_higher.nd rfl (Or.inl rfl))
          (pss_one (ps_for PassesOwn.never rfl (pi_list (pv 2)) (pg_name (i := 5) sc_one_higher.nd rfl (Or.inl rfl))
            (pss_one (ps_if (PW.pt (pw_and (pt_cmpR op_notIn_seq (pv 5) (pv 4) (by rfl)) (pw_and1 (pt_val (pe_meth (pv 0) T.Shop.cl T.Shop_fits.m (ok_Shop_fits T) (hr.mono (by decide)) T.Shop_fits.b .nil pass0 (pa_cons (pe_ix ix_list (pv 4) (pe_un un_neg pe_int) (fun _ _ => rfl)) (pa_cons (pv 5) pa_nil)))))))
              (pss_one (ps_expr (pe_bm PySem.F.plainAttrs_list PySem.F.slot_list_append PySem.F.type_list_append mt_append (pv 3) (pa_cons (pe_op op_cat (pv 4) (pe_lst (pa_cons (pv 5) pa_nil))) pa_nil))))
              pss_nil)))))
          (pss_one (ps_ret (pv 3))))), ?_⟩
    obtain ⟨d, l, dk, as, Z, S'⟩ := id S
    obtain ⟨ba, hb1, hb2, hb3⟩ := hB
    refine ⟨Nat.zero_le _, fun p np => ?_⟩
    have s0 : Same H (upd H p (.lst [])) := same_upd np
    refine ⟨_, rfl, B, rfl, ⟨_, SqL.of (s0 _ _ hb1)⟩, for_list (K := K) (a := B) (xs := ba.map V.ref)
      (fun j σ H' => ∃ v4 v5, σ = [some (.ref x), some (.ref B), some (.ref L), some (.ref p), v4, v5] ∧ Same H H' ∧ ListsAt H' p (higher b ls (ll.take j)))
      ⟨none, none, rfl, s0, ⟨[], upd_same, rfl, fun i a l e => (by simp at e)⟩⟩ (fun j σ H' _ ⟨_, _, _, s1, _⟩ => SqL.of (s1 _ _ hb1)) ?_ ?_⟩
    · rintro j y σ H' hy ⟨v4, v5, rfl, s1, hP⟩
      obtain ⟨a, ea, rfl⟩ := map_at hy
      have hj : j < ll.length := by
        rw [← hb2]
        exact (List.getElem?_eq_some_iff.mp ea).1
      have el : ll[j]? = some ll[j] := List.getElem?_eq_getElem hj
      obtain ⟨ne, l7', bl⟩ := bll _ (List.getElem_mem hj)
      have ha := hb3 j a _ ea el
      refine ⟨_, rfl, L, rfl, ⟨_, (hL.same s1).nats⟩, for_list (K := K) (a := L) (xs := (nints ls).map V.int)
        (fun i σ H' => ∃ v5, σ = [some (.ref x), some (.ref B), some (.ref L), some (.ref p), some (.ref a), v5] ∧ Same H H' ∧ ListsAt H' p (higher b ls (ll.take j) ++ ext b (ls.take i) ll[j]))
        ⟨v5, rfl, s1, by rw [List.take_zero, show ext b [] ll[j] = [] from rfl, List.append_nil]; exact hP⟩ (fun i σ H' _ ⟨_, _, s2, _⟩ => (hL.same s2).nats) ?_ ?_⟩
      · rintro i y σ H1 hy ⟨v5, rfl, s2, hP2⟩
        obtain ⟨n, en, rfl⟩ := at_nints hy
        have bn : n < b.sheets.length := bs n (List.mem_of_getElem? en)
        have pre : ext b (ls.take (i + 1)) ll[j] = ext b (ls.take i) ll[j] ++ if (!(ll[j].contains n) && Kqb2.fit b (lastOf ll[j]) n) = true then [ll[j] ++ [n]] else [] := ext_take en
        refine ⟨_, rfl, _, rfl, a, _, rfl, .inl (ha.same s2).nats, rfl, flat_nints _, ?_⟩
        rw [inV_nints]
        refine ⟨_, rfl, ifb (fun e => ?_) (fun e => ?_)⟩
        · have e1 : (!(ll[j].contains n)) = true := e
          refine ⟨_, rfl, x, d, _, rfl, s2 _ _ S'.obj, F_Shop_not_fits, _, rfl, 1, rfl, a, _, _, _, rfl, rfl, (ha.same s2).nats, last_nints ne, _, rfl, x, lastOf ll[j], n, b, Own, rfl, S.same s2, bl _ (lastOf_mem ne), bn, _, rfl, ifb (fun e2 => ?_) (fun e2 => ?_)⟩
          · rw [if_pos (by rw [e1, e2]; rfl)] at pre
            obtain ⟨pa, hp1, hp2, hp3⟩ := hP2
            refine ⟨_, rfl, .inl ⟨rfl, _, SqL.of hp1⟩, _, rfl, _, rfl, one_size, fun q nq => ?_⟩
            have s3 : Same H1 (upd H1 q (.lst [.int (n : Int)])) := same_upd nq
            refine ⟨a, q, _, _, rfl, rfl, ha.same (s2.trans s3), upd_same, (by rw [nints_length]; exact Nat.le_trans (show ll[j].length + 1 ≤ 100000 by omega) (by decide)), fun r nr => ?_⟩
            have e3 : (nints ll[j]).map V.int ++ [V.int (n : Int)] = (nints (ll[j] ++ [n])).map V.int := by
              rw [nints_append, List.map_append]
              rfl
            rw [e3]
            have s4 : Same (upd H1 q (.lst [.int (n : Int)])) (upd (upd H1 q (.lst [.int (n : Int)])) r (.lst ((nints (ll[j] ++ [n])).map V.int))) := same_upd nr
            have s34 := s3.trans s4
            refine ⟨p, _, _, rfl, rfl, s34 _ _ hp1, Nat.lt_of_le_of_lt (m := 2000000) ?_ (by decide), ?_⟩
            · rw [List.length_map, hp2, List.length_append]
              have h1 := higher_length b ls (ll.take j)
              have h2 := ext_len b (ls.take i) ll[j]
              rw [List.length_take] at h1 h2
              have h3 : min j ll.length * ls.length ≤ ll.length * ls.length := Nat.mul_le_mul_right _ (Nat.min_le_right _ _)
              omega
            · rw [← List.map_singleton (f := V.ref), ← List.map_append]
              refine ⟨_, rfl, fun c o e => ?_, ?_⟩
              · rw [upd_ne (ne_of_none e np)]
                exact s34 _ _ (s2 _ _ e)
              · rw [pre, ← List.append_assoc]
                refine ListsAt.push (s34 _ _ hp1) hp2 (fun i a l e1 e2 => (hp3 i a l e1 e2).same s34) (fun l hl => ?_) (by simp) upd_same
                rcases List.mem_append.mp hl with h | h
                · exact higher_ne h
                · exact ext_ne h
          · rw [if_neg (by rw [e1, e2]; exact Bool.false_ne_true), List.append_nil] at pre
            refine ⟨_, rfl, s2, ?_⟩
            rw [pre]
            exact hP2
        · have e1 : (!(ll[j].contains n)) = false := e
          rw [if_neg (by rw [e1]; exact Bool.false_ne_true), List.append_nil] at pre
          refine iteF ⟨_, rfl, s2, ?_⟩
          rw [pre]
          exact hP2
      · rintro σ H1 ⟨v5, rfl, s2, hP2⟩
        rw [List.length_map, List.length_map, List.take_length] at hP2
        exact ⟨_, _, rfl, s2, by rw [higher_take el]; exact hP2⟩
    · rintro σ H' ⟨v4, v5, rfl, s1, hP⟩
      rw [List.length_map, hb2, List.take_length] at hP
      exact ⟨_, rfl, k H' p s1 np hP⟩
end
section
variable {P : Program} {w : World} {K : PySem.W.Frag} {mg : Str → Option Value} {base : Heap}
open Kqb2 (Bench)
theorem higher_mem {b : Bench} {ls : List Nat} {ll : List (List Nat)} {n : Nat} (h : ∀ laid ∈ ll, laid.length = n ∧ ∀ i ∈ laid, i ∈ ls) : ∀ laid ∈ higher b ls ll, laid.length = n + 1 ∧ ∀ i ∈ laid, i ∈ ls := fun laid hl => by
  obtain ⟨l0, h0, hx⟩ := List.mem_flatMap.mp hl
  obtain ⟨i, hi, rfl⟩ := List.mem_map.mp hx
  obtain ⟨h1, h2⟩ := h l0 h0
  refine ⟨by rw [List.length_append, h1]; rfl, fun j hj => ?_⟩
  rcases List.mem_append.mp hj with hj | hj
  · exact h2 j hj
  · have : j = i := by simpa using hj
    exact this ▸ (List.mem_filter.mp hi).1
theorem climb_mem {b : Bench} {ls : List Nat} : ∀ j : Nat, ∀ laid ∈ climb b ls j (begunOf b ls), laid.length = j + 1 ∧ ∀ i ∈ laid, i ∈ ls
  | 0, laid, h => by
    obtain ⟨i, hi, rfl⟩ := List.mem_map.mp h
    exact ⟨rfl, fun j hj => by
      have : j = i := by simpa using hj
      exact this ▸ (List.mem_filter.mp hi).1⟩
  | j + 1, laid, h => by
    rw [climb_succ] at h
    exact higher_mem (climb_mem j) laid h
theorem climb_len {b : Bench} {ls : List Nat} (h7 : ls.length ≤ 7) : ∀ j : Nat, (climb b ls j (begunOf b ls)).length ≤ 7 ^ (j + 1)
  | 0 => by
    show (begunOf b ls).length ≤ 7
    unfold begunOf
    rw [List.length_map]
    exact Nat.le_trans (List.length_filter_le _ _) h7
  | j + 1 => by
    rw [climb_succ]
    have h1 := higher_length b ls (climb b ls j (begunOf b ls))
    have h2 := climb_len (b := b) h7 j
    have h3 : (climb b ls j (begunOf b ls)).length * ls.length ≤ 7 ^ (j + 1) * 7 := Nat.mul_le_mul h2 h7
    rw [Nat.pow_succ]
    omega
theorem begun_take {b : Bench} {ls : List Nat} {i n : Nat} (h : ls[i]? = some n) : begunOf b (ls.take (i + 1)) = begunOf b (ls.take i) ++ if Kqb2.isMinus b n = true then [[n]] else [] := by
  unfold begunOf
  rw [take_snoc h, List.filter_append, List.map_append]
  congr 1
  rw [List.filter_cons, List.filter_nil]
  by_cases c : Kqb2.isMinus b n = true
  · rw [if_pos c, if_pos c]
    rfl
  · rw [if_neg c, if_neg c]
    rfl
def sp_first_order (T : Txt K mg) : Sp := fun vs H Q _ => ∃ (x L : Addr) (ls : List Nat) (b : Bench) (Own : Addr → Prop), vs = [.ref x, .ref L] ∧ ShopAt T H x (some b) Own ∧ LstAt H L ls ∧ ls.length ≤ 7 ∧ ls.Nodup ∧ (∀ i ∈ ls, i < b.sheets.length) ∧
  (Kqb2.order b ls = none → ∀ H', Same H H' → Q .non H') ∧ (∀ r, Kqb2.order b ls = some r → ∀ H' p, Same H H' → LstAt H' p r → Q (.ref p) H')
theorem ok_first_order (T : Txt K mg) : FnOk P w K mg base CX0 5 T.first_order.f T.first_order.fd ["shop", "listed"] (sp_first_order T) := by
  refine T.first_order.F.ok sc_first_order (fun vs H Q E h => ?_) (fun cdv A outer s H vs Q E hr h => ?_)
  · obtain ⟨x, L, ls, b, Own, rfl, _⟩ := h
    rfl
  · obtain ⟨x, L, ls, b, Own, rfl, S, hL, l7, nd, bs, kn, ks⟩ := h
    refine ⟨_, (pss_cons (ps_if (pt_not (pt_val (pe_call (ok_is_size_of_stack T) (hr.mono (by decide)) rfl T.is_size_of_stack.g T.is_size_of_stack.F.kp T.is_size_of_stack.b .nil pass0 (pa_cons (pe_callB call_len_seq (by rfl) T.b_len PySem.boot_len (pa_cons (pv 1) pa_nil)) pa_nil))))
          (pss_one (ps_ret pe_non))
          pss_nil)
          (pss_cons (ps_setLc (i := 2) (own := [("i", 4)]) (g := gName 4) (tt := (tB (tFld K (tOp (rIxL K) (tFld K (tVar 0) "sheets") (tVar 4)) "minus"))) rfl sc_first_order.nd rfl rfl (sw_true rfl rfl rfl (by decide +kernel)) (pi_list (pv 1)) (blkOk_by (own := [("i", 4)]) (N := N_first_order) (sc := defScope s_first_order) (by decide +kernel)) (fun _ _ _ _ _ => pg_name (i := 4) sc_first_order.nd rfl (Or.inl rfl)) (fun _ _ _ _ _ => pts_one (pt_val (pe_fld (pe_ix ix_list (pe_fld (pv 0) (by rfl)) (pv 4) (by exact fun _ _ => rfl)) (by rfl)))) (fun _ _ _ _ _ => (pe_lst (pa_cons (pv 4) pa_nil))))
          (pss_cons (ps_for PassesOwn.never rfl (pi_range2 rfl T.b_range (pa_cons pe_int (pa_cons (pe_callB call_len_seq (by rfl) T.b_len PySem.boot_len (pa_cons (pv 1) pa_nil)) pa_nil))) (pg_name (i := 3) sc_first_order.nd rfl (Or.inl rfl))
          (pss_one (ps_set (i := 2) sc_first_order.nd rfl (Or.inl rfl) (pe_call (ok_one_higher T) (hr.mono (by decide)) rfl T.one_higher.g T.one_higher.F.kp T.one_higher.b .nil pass0 (pa_cons (pv 0) (pa_cons (pv 2) (pa_cons (pv 1) pa_nil)))))))
          (pss_one (ps_ret (pe_ifExp (pt_truth (pv 2) (by intro _; rfl)) (pe_ix ix_list (pv 2) pe_int (fun _ _ => rfl)) pe_non)))))), ?_⟩
    obtain ⟨d, l, dk, as, Z, S'⟩ := id S
    have ll := nints_length ls
    refine ⟨_, rfl, _, _, rfl, .inl hL.nats, ls.length, by rw [ll]; rfl, _, rfl, ifb (fun e => ?_) (fun e => ?_)⟩
    · have e1 := not_t e
      refine kn (order_none b ls fun q => ?_) H (Same.refl H)
      unfold sizeOk at e1
      rw [decide_eq_true q.1, decide_eq_true q.2] at e1
      cases e1
    have e1 := not_f e
    unfold sizeOk at e1
    rw [Bool.and_eq_true, decide_eq_true_eq, decide_eq_true_eq] at e1
    have odd : ls.length % 2 = 1 ∧ 3 ≤ ls.length := ⟨e1.2, e1.1⟩
    have eo := order_climb b ls nd odd
    refine ⟨_, rfl, L, rfl, ⟨_, hL.nats⟩, fun D nD => lc_list (K := K) (a := L) (xs := (nints ls).map V.int) (fun i H' => Same H H' ∧ ListsAt H' D (begunOf b (ls.take i)))
      ⟨same_upd nD, ⟨[], upd_same, rfl, fun i a l e => (by simp at e)⟩⟩ (fun i H' _ ⟨s1, _⟩ => (hL.same s1).nats) ?_ ?_⟩
    · rintro i y H' hy ⟨s1, hD⟩
      obtain ⟨n, en, rfl⟩ := at_nints hy
      have bn : n < b.sheets.length := bs n (List.mem_of_getElem? en)
      have ey : b.sheets[n]? = some b.sheets[n] := List.getElem?_eq_getElem bn
      obtain ⟨a, ha, da, Ha⟩ := S'.addr (i := n) ey
      have em := isMinus_at ey
      have pre := begun_take (b := b) en
      refine ⟨rfl, ?_⟩
      refine ⟨_, rfl, x, _, d, _, _, rfl, s1 _ _ S'.obj, T.Shop.cl, T.Shop_no_sheets, F_Shop_sheets, _, rfl, l, _, _, _, rfl, rfl, SqL.of (s1 _ _ S'.lst), atI_map ha, a, _, da, _, _, rfl, s1 _ _ Ha, T.Sheet.cl, T.Sheet_no_minus, F_Sheet_minus, _, rfl, ifb (fun e => ?_) (fun e => ?_)⟩
      · rw [em, if_pos e] at pre
        obtain ⟨pa, hp1, hp2, hp3⟩ := hD
        refine ⟨_, rfl, one_size, fun q nq => ?_⟩
        have s2 : Same H' (upd H' q (.lst [.int (n : Int)])) := same_upd nq
        refine ⟨_, s2 _ _ hp1, sz64 ?_, fun c o e => ?_, ?_⟩
        · rw [List.length_map, hp2]
          unfold begunOf
          rw [List.length_map]
          have := List.length_filter_le (fun i => Kqb2.isMinus b i) (ls.take i)
          rw [List.length_take] at this
          omega
        · rw [upd_ne (ne_of_none e nD)]
          exact s2 _ _ (s1 _ _ e)
        · rw [pre, ← List.map_singleton (f := V.ref), ← List.map_append]
          refine ListsAt.push (s2 _ _ hp1) hp2 (fun i a l e1 e2 => (hp3 i a l e1 e2).same s2) (fun l hl => ?_) (by simp) upd_same
          obtain ⟨i, _, rfl⟩ := List.mem_map.mp hl
          simp
      · rw [em, if_neg (by rw [e]; exact Bool.false_ne_true), List.append_nil] at pre
        refine ⟨s1, ?_⟩
        rw [pre]
        exact hD
    · rintro H1 ⟨s1, hD⟩
      rw [List.length_map, List.length_map, List.take_length] at hD
      refine ⟨_, rfl, _, _, rfl, .inl (hL.same s1).nats, 1, ((ls.length : Nat) : Int), by rw [ll], by omega, ?_⟩
      have en : ((ls.length : Int) - 1).toNat = ls.length - 1 := by omega
      show ∃ W : Nat → Nat → L2.St → Hp → Prop, _
      rw [en]
      refine for_range (lo := 1) (n := ls.length - 1) (fun j σ H' => ∃ B v3 v4, σ = [some (.ref x), some (.ref L), some (.ref B), v3, v4] ∧ Same H H' ∧ ListsAt H' B (climb b ls j (begunOf b ls)))
        ⟨D, none, none, rfl, s1, hD⟩ ?_ ?_
      · rintro j σ H' hj ⟨B, v3, v4, rfl, s2, hB⟩
        have hlen := climb_len (b := b) l7 j
        have hp : 7 ^ (j + 1) ≤ 7 ^ 6 := Nat.pow_le_pow_right (by decide) (by omega)
        have hm := climb_mem (b := b) (ls := ls) j
        refine ⟨_, rfl, _, rfl, _, rfl, x, B, L, _, ls, b, Own, rfl, S.same s2, hB, hL.same s2, l7, ?_, bs, fun laid hl => ?_, fun H2 p s3 np hP => ?_⟩
        · have : (climb b ls j (begunOf b ls)).length * ls.length ≤ 7 ^ 6 * 7 := Nat.mul_le_mul (Nat.le_trans hlen hp) l7
          exact Nat.le_trans this (by decide)
        · obtain ⟨h1, h2⟩ := hm laid hl
          refine ⟨fun q => (by rw [q] at h1; cases h1), by omega, fun i hi => bs i (h2 i hi)⟩
        · refine ⟨p, _, _, rfl, s2.trans s3, ?_⟩
          rw [climb_succ]
          exact hP
      · rintro σ H' ⟨B, v3, v4, rfl, s2, hB⟩
        obtain ⟨ba, hb1, hb2, hb3⟩ := hB
        refine ⟨_, rfl, _, .inl ⟨_, SqL.of hb1, rfl⟩, ifb (fun e => ?_) (fun e => ?_)⟩
        · cases c : climb b ls (ls.length - 1) (begunOf b ls) with
          | nil =>
            rw [c] at hb2
            have : ba = [] := List.eq_nil_of_length_eq_zero hb2
            subst this
            exact absurd e (by decide)
          | cons r more =>
            rw [c] at hb2 hb3 eo
            have h0 : 0 < ba.length := by
              rw [hb2, List.length_cons]
              omega
            have ea : ba[0]? = some ba[0] := List.getElem?_eq_getElem h0
            refine ⟨_, rfl, B, _, _, _, rfl, rfl, SqL.of hb1, atI_map (i := 0) ea, ?_⟩
            exact ks r eo H' _ s2 (hb3 0 _ r ea rfl)
        · have : climb b ls (ls.length - 1) (begunOf b ls) = [] := by
            cases ba with
            | nil => exact List.eq_nil_of_length_eq_zero hb2.symm
            | cons a ba => exact Bool.noConfusion (show true = false from e)
          rw [this] at eo
          exact kn eo H' s2
end
section
variable {P : Program} {w : World} {K : PySem.W.Frag} {mg : Str → Option Value} {base : Heap}
open Kqb2 (Bench)
/-- one list alone, two lists are given -/
def Given1 (H : Hp) (g : Addr) (l : List Nat) : Prop := ∃ a, H g = some (.lst [.ref a]) ∧ LstAt H a l
def Given2 (H : Hp) (g : Addr) (l m : List Nat) : Prop := ∃ a b, H g = some (.lst [.ref a, .ref b]) ∧ LstAt H a l ∧ LstAt H b m
theorem goOn_len {b : Bench} : ∀ (k : Nat) (top : Option Nat) (l r : List Nat), Kqb2.goOn b k top l = some r → r.length ≤ k
  | 0, top, l, r, h => by
    unfold Kqb2.goOn at h
    split at h
    · cases h
      exact Nat.le_refl _
    · cases h
  | k + 1, top, l, r, h => by
    unfold Kqb2.goOn at h
    by_cases c : l = []
    · rw [if_pos c] at h
      cases h
      exact Nat.zero_le _
    · rw [if_neg c] at h
      obtain ⟨i, _, hi⟩ := List.exists_of_findSome?_eq_some h
      have key : ∀ (t : Bool), (if t = true then (Kqb2.goOn b k (some i) (Kqb2.remove i l)).map fun r => i :: r else none) = some r → r.length ≤ k + 1 := fun t ht => by
        cases t with
        | false => cases ht
        | true =>
          rw [if_pos rfl] at ht
          cases e : Kqb2.goOn b k (some i) (Kqb2.remove i l) with
          | none =>
            rw [e] at ht
            cases ht
          | some q =>
            rw [e] at ht
            cases ht
            have := goOn_len k _ _ q e
            rw [List.length_cons]
            omega
      exact key _ hi
theorem order_len {b : Bench} {ls r : List Nat} (h : Kqb2.order b ls = some r) : r.length ≤ ls.length := by
  unfold Kqb2.order at h
  split at h
  · exact goOn_len _ _ _ _ h
  · cases h
def sp_call_order (T : Txt K mg) : Sp := fun vs H Q _ => ∃ (x g : Addr) (ls : List Nat) (b : Bench) (Own : Addr → Prop), vs = [.ref x, .ref g] ∧ ShopAt T H x (some b) Own ∧ WF b ∧ Given1 H g ls ∧ ls.length ≤ 7 ∧ Answers T (.order ls) x (some b) Own H Q
theorem ok_call_order (T : Txt K mg) : FnOk P w K mg base CX0 6 T.call_order.f T.call_order.fd ["shop", "given"] (sp_call_order T) := by
  refine T.call_order.F.ok sc_call_order (fun vs H Q E h => ?_) (fun cdv A outer s H vs Q E hr h => ?_)
  · obtain ⟨x, g, ls, b, Own, rfl, _⟩ := h
    rfl
  · obtain ⟨x, g, ls, b, Own, rfl, S, w1, ⟨a, hg, ha⟩, l7, k⟩ := h
    refine ⟨_, (pss_cons (ps_set (i := 2) sc_call_order.nd rfl (Or.inl rfl) (pe_ix ix_list (pv 1) pe_int (fun _ _ => rfl)))
          (pss_cons (ps_if (pt_not (pt_val (pe_meth (pv 0) T.Shop.cl T.Shop_are_sheets.m (ok_Shop_are_sheets T) (hr.mono (by decide)) T.Shop_are_sheets.b .nil pass0 (pa_cons (pv 2) pa_nil))))
          (pss_one (ps_ret (pe_lst (pa_cons (pe_glob (v := V.int (-22)) rfl T.WRONG_VALUE.g ⟨_, rfl⟩) pa_nil))))
          pss_nil)
          (pss_cons (ps_set (i := 3) sc_call_order.nd rfl (Or.inl rfl) (pe_call (ok_first_order T) (hr.mono (by decide)) rfl T.first_order.g T.first_order.F.kp T.first_order.b .nil pass0 (pa_cons (pv 0) (pa_cons (pv 2) pa_nil))))
          (pss_cons (ps_if (pt_cmpR op_isN (pv 3) pe_non (nomark _))
          (pss_one (ps_ret (pe_lst (pa_cons (pe_glob (v := V.int (-33)) rfl T.NO_WAY.g ⟨_, rfl⟩) pa_nil))))
          pss_nil)
          (pss_one (ps_ret (pe_op op_cat (pe_lst (pa_cons (pe_callB call_len_seq (by rfl) T.b_len PySem.boot_len (pa_cons (pv 3) pa_nil)) pa_nil)) (pv 3)))))))), ?_⟩
    obtain ⟨d, l, dk, as, Z, S'⟩ := id S
    refine ⟨_, rfl, g, _, _, _, rfl, rfl, SqL.of hg, atI_nat (j := 0) rfl, ?_⟩
    refine ⟨_, rfl, x, d, _, rfl, S'.obj, F_Shop_not_are_sheets, _, rfl, x, a, ls, b, Own, rfl, S, ha, by omega, _, rfl, ifb (fun e => ?_) (fun e => ?_)⟩
    · exact ⟨one_size, fun p np => ans_same k (a := .num (-22)) (by rw [step_order, if_pos (not_t e)]) rfl S (Same.refl _) np⟩
    have e1 := not_f e
    obtain ⟨h1, h2⟩ := (okList_iff b ls).mp e1
    have st : Kqb2.step (some b) (.order ls) = (some b, match Kqb2.order b ls with
        | none => .num (-33)
        | some r => Kqb2.row r) := by
      rw [step_order, if_neg (by rw [e1]; simp)]
      try (cases Kqb2.order b ls <;> rfl)
    refine ⟨_, rfl, _, rfl, x, a, ls, b, Own, rfl, S, ha, l7, h2, h1, fun eo H1 s1 => ?_, fun r eo H1 q s1 hq => ?_⟩
    · refine ⟨_, rfl, rfl, _, rfl, iteT ⟨one_size, fun p np => ?_⟩⟩
      exact ans_same k (a := .num (-33)) (by rw [st, eo]) rfl S s1 np
    · refine ⟨_, rfl, rfl, _, rfl, iteF ?_⟩
      refine ⟨_, rfl, _, _, rfl, .inl hq.nats, one_size, fun q2 nq2 => ?_⟩
      have nqq : q ≠ q2 := hq.ne nq2
      refine ⟨_, rfl, q2, q, _, _, rfl, rfl, upd_same, (by rw [upd_ne nqq]; exact hq), ?_, fun p np => ?_⟩
      · rw [nints_length]
        have := order_len eo
        exact Nat.le_trans (show 1 + r.length ≤ 100000 by omega) (by decide)
      · rw [nints_length] at np ⊢
        exact ans_same k (a := Kqb2.row r) (by rw [st, eo]) (tell_row _) S (s1.trans (same_upd nq2)) np
theorem okW_iff (p m : List Nat) : okW p m = false ↔ (p.all Kqb2.okWide = false ∨ m.all Kqb2.okWide = false ∨ 7 < p.length ∨ 8 < m.length) := by
  unfold okW
  rw [List.all_append]
  by_cases a : p.length ≤ 7
  · by_cases c : m.length ≤ 8
    · rw [decide_eq_true a, decide_eq_true c]
      have h1 : ¬ 7 < p.length := by omega
      have h2 : ¬ 8 < m.length := by omega
      simp only [h1, h2, or_false, Bool.true_and, Bool.and_eq_false_iff]
    · rw [decide_eq_false c]
      have : 8 < m.length := by omega
      simp [this]
  · rw [decide_eq_false a]
    have : 7 < p.length := by omega
    simp [this]
def sp_call_could (T : Txt K mg) : Sp := fun vs H Q _ => ∃ (x g : Addr) (p m : List Nat) (b : Bench) (Own : Addr → Prop), vs = [.ref x, .ref g] ∧ ShopAt T H x (some b) Own ∧ WF b ∧ Given2 H g p m ∧ p.length ≤ 60 ∧ m.length ≤ 60 ∧ Answers T (.could p m) x (some b) Own H Q
theorem ok_call_could (T : Txt K mg) : FnOk P w K mg base CX0 4 T.call_could.f T.call_could.fd ["shop", "given"] (sp_call_could T) := by
  refine T.call_could.F.ok sc_call_could (fun vs H Q E h => ?_) (fun cdv A outer s H vs Q E hr h => ?_)
  · obtain ⟨x, g, p, m, b, Own, rfl, _⟩ := h
    rfl
  · obtain ⟨x, g, p, m, b, Own, rfl, S, w1, ⟨a, c, hg, ha, hc⟩, lp, lm, k⟩ := h
    refine ⟨_, (pss_cons (ps_set (i := 2) sc_call_could.nd rfl (Or.inl rfl) (pe_ix ix_list (pv 1) pe_int (fun _ _ => rfl)))
          (pss_cons (ps_set (i := 3) sc_call_could.nd rfl (Or.inl rfl) (pe_ix ix_list (pv 1) pe_int (fun _ _ => rfl)))
          (pss_cons (ps_if (pt_not (pt_val (pe_call (ok_are_widths T) (hr.mono (by decide)) rfl T.are_widths.g T.are_widths.F.kp T.are_widths.b .nil pass0 (pa_cons (pv 2) (pa_cons (pv 3) pa_nil)))))
          (pss_one (ps_ret (pe_lst (pa_cons (pe_glob (v := V.int (-22)) rfl T.WRONG_VALUE.g ⟨_, rfl⟩) pa_nil))))
          pss_nil)
          (pss_one (ps_ret (pe_lst (pa_cons (pe_callTy call_int1 (by rfl) T.b_int (by decide +kernel) (pa_cons (pe_call (ok_can_be_stacked T) (hr.mono (by decide)) rfl T.can_be_stacked.g T.can_be_stacked.F.kp T.can_be_stacked.b .nil pass0 (pa_cons (pv 2) (pa_cons (pv 3) (pa_cons (pe_fld (pv 0) rfl) pa_nil)))) pa_nil)) pa_nil))))))), ?_⟩
    obtain ⟨d, l, dk, as, Z, S'⟩ := id S
    refine ⟨_, rfl, g, _, _, _, rfl, rfl, SqL.of hg, atI_nat (j := 0) rfl, ?_⟩
    refine ⟨_, rfl, g, _, _, _, rfl, rfl, SqL.of hg, atI_nat (j := 1) rfl, ?_⟩
    refine ⟨_, rfl, _, rfl, a, c, p, m, rfl, ha, hc, lp, lm, fun H1 s1 => ?_⟩
    refine ⟨_, rfl, ifb (fun e => ?_) (fun e => ?_)⟩
    · exact ⟨one_size, fun q nq => ans_same k (a := .num (-22)) (by rw [step_could, if_pos ((okW_iff p m).mp (not_t e))]) rfl S s1 nq⟩
    have e1 : ¬ okW p m = false := by rw [not_f e]; simp
    rw [okW_iff] at e1
    refine ⟨_, rfl, _, rfl, _, rfl, x, _, d, _, _, rfl, s1 _ _ S'.obj, T.Shop.cl, T.Shop_no_reach, F_Shop_reach, a, c, p, m, b.reach, rfl, (ha.same s1).nats, (hc.same s1).nats, by omega, by omega, fun H2 s2 => ?_⟩
    refine .inr ⟨_, rfl, one_size, fun q nq => ?_⟩
    have := ans_same k (a := .num (if Kqb2.could b.reach p m then 1 else 0)) (by rw [step_could, if_neg e1]) rfl S (s1.trans s2) nq
    cases cc : Kqb2.could b.reach p m with
    | true =>
      rw [cc] at this
      exact this
    | false =>
      rw [cc] at this
      exact this
def sp_call_need (T : Txt K mg) : Sp := fun vs H Q _ => ∃ (x g : Addr) (p m : List Nat) (b : Bench) (Own : Addr → Prop), vs = [.ref x, .ref g] ∧ ShopAt T H x (some b) Own ∧ WF b ∧ Given2 H g p m ∧ p.length ≤ 60 ∧ m.length ≤ 60 ∧ Answers T (.need p m) x (some b) Own H Q
theorem ok_call_need (T : Txt K mg) : FnOk P w K mg base CX0 5 T.call_need.f T.call_need.fd ["shop", "given"] (sp_call_need T) := by
  refine T.call_need.F.ok sc_call_need (fun vs H Q E h => ?_) (fun cdv A outer s H vs Q E hr h => ?_)
  · obtain ⟨x, g, p, m, b, Own, rfl, _⟩ := h
    rfl
  · obtain ⟨x, g, p, m, b, Own, rfl, S, w1, ⟨a, c, hg, ha, hc⟩, lp, lm, k⟩ := h
    refine ⟨_, (pss_cons (ps_set (i := 2) sc_call_need.nd rfl (Or.inl rfl) (pe_ix ix_list (pv 1) pe_int (fun _ _ => rfl)))
          (pss_cons (ps_set (i := 3) sc_call_need.nd rfl (Or.inl rfl) (pe_ix ix_list (pv 1) pe_int (fun _ _ => rfl)))
          (pss_cons (ps_if (pt_not (pt_val (pe_call (ok_are_widths T) (hr.mono (by decide)) rfl T.are_widths.g T.are_widths.F.kp T.are_widths.b .nil pass0 (pa_cons (pv 2) (pa_cons (pv 3) pa_nil)))))
          (pss_one (ps_ret (pe_lst (pa_cons (pe_glob (v := V.int (-22)) rfl T.WRONG_VALUE.g ⟨_, rfl⟩) pa_nil))))
          pss_nil)
          (pss_cons (ps_set (i := 4) sc_call_need.nd rfl (Or.inl rfl) (pe_call (ok_least_more T) (hr.mono (by decide)) rfl T.least_more.g T.least_more.F.kp T.least_more.b .nil pass0 (pa_cons (pv 2) (pa_cons (pv 3) (pa_cons (pe_fld (pv 0) rfl) pa_nil)))))
          (pss_cons (ps_if (pt_cmpR op_isN (pv 4) pe_non (nomark _))
          (pss_one (ps_ret (pe_lst (pa_cons (pe_glob (v := V.int (-33)) rfl T.NO_WAY.g ⟨_, rfl⟩) pa_nil))))
          pss_nil)
          (pss_one (ps_ret (pe_lst (pa_cons (pv 4) pa_nil))))))))), ?_⟩
    obtain ⟨d, l, dk, as, Z, S'⟩ := id S
    refine ⟨_, rfl, g, _, _, _, rfl, rfl, SqL.of hg, atI_nat (j := 0) rfl, ?_⟩
    refine ⟨_, rfl, g, _, _, _, rfl, rfl, SqL.of hg, atI_nat (j := 1) rfl, ?_⟩
    refine ⟨_, rfl, _, rfl, a, c, p, m, rfl, ha, hc, lp, lm, fun H1 s1 => ?_⟩
    refine ⟨_, rfl, ifb (fun e => ?_) (fun e => ?_)⟩
    · exact ⟨one_size, fun q nq => ans_same k (a := .num (-22)) (by rw [step_need, if_pos ((okW_iff p m).mp (not_t e))]) rfl S s1 nq⟩
    have e1 : ¬ okW p m = false := by rw [not_f e]; simp
    rw [okW_iff] at e1
    have st : Kqb2.step (some b) (.need p m) = (some b, match Kqb2.need b.reach p m with
        | none => .num (-33)
        | some n => .num n) := by
      rw [step_need, if_neg e1]
      try (cases Kqb2.need b.reach p m <;> rfl)
    refine ⟨_, rfl, _, rfl, _, rfl, x, _, d, _, _, rfl, s1 _ _ S'.obj, T.Shop.cl, T.Shop_no_reach, F_Shop_reach, a, c, p, m, b.reach, rfl, ha.same s1, hc.same s1, lp, lm, fun H2 s2 => ?_⟩
    cases en : Kqb2.need b.reach p m with
    | none =>
      refine ⟨_, rfl, rfl, _, rfl, iteT ⟨one_size, fun q nq => ?_⟩⟩
      exact ans_same k (a := .num (-33)) (by rw [st, en]) rfl S (s1.trans s2) nq
    | some n =>
      refine ⟨_, rfl, rfl, _, rfl, iteF ?_⟩
      refine ⟨_, rfl, one_size, fun q nq => ?_⟩
      exact ans_same k (a := .num n) (by rw [st, en]) rfl S (s1.trans s2) nq
end
section
variable {P : Program} {w : World} {K : PySem.W.Frag} {mg : Str → Option Value} {base : Heap}
open Kqb2 (Bench)
theorem all_take {α : Type} (f : α → Bool) (l : List α) : ((l.take l.length).map f).all id = l.all f := by
  rw [List.take_length, List.all_map]
  rfl
def sp_call_check (T : Txt K mg) : Sp := fun vs H Q _ => ∃ (x g : Addr) (ls : List Nat) (b : Bench) (Own : Addr → Prop), vs = [.ref x, .ref g] ∧ ShopAt T H x (some b) Own ∧ WF b ∧ Given1 H g ls ∧ ls.length ≤ 60 ∧ Answers T (.check ls) x (some b) Own H Q
theorem ok_call_check (T : Txt K mg) : FnOk P w K mg base CX0 5 T.call_check.f T.call_check.fd ["shop", "given"] (sp_call_check T) := by
  refine T.call_check.F.ok sc_call_check (fun vs H Q E h => ?_) (fun cdv A outer s H vs Q E hr h => ?_)
  · obtain ⟨x, g, ls, b, Own, rfl, _⟩ := h
    rfl
  · obtain ⟨x, g, ls, b, Own, rfl, S, w1, ⟨a, hg, ha⟩, l60, k⟩ := h
    refine ⟨_, (pss_cons (ps_set (i := 2) sc_call_check.nd rfl (Or.inl rfl) (pe_ix ix_list (pv 1) pe_int (fun _ _ => rfl)))
          (pss_cons (ps_if (pt_not (pt_val (pe_meth (pv 0) T.Shop.cl T.Shop_are_sheets.m (ok_Shop_are_sheets T) (hr.mono (by decide)) T.Shop_are_sheets.b .nil pass0 (pa_cons (pv 2) pa_nil))))
          (pss_one (ps_ret (pe_lst (pa_cons (pe_glob (v := V.int (-22)) rfl T.WRONG_VALUE.g ⟨_, rfl⟩) pa_nil))))
          pss_nil)
          (pss_one (ps_ret (pe_lst (pa_cons (pe_callTy call_int1 (by rfl) T.b_int (by decide +kernel) (pa_cons (pe_meth (pv 0) T.Shop.cl T.Shop_is_stack.m (ok_Shop_is_stack T) (hr.mono (by decide)) T.Shop_is_stack.b .nil pass0 (pa_cons (pv 2) pa_nil)) pa_nil)) pa_nil)))))), ?_⟩
    obtain ⟨d, l, dk, as, Z, S'⟩ := id S
    refine ⟨_, rfl, g, _, _, _, rfl, rfl, SqL.of hg, atI_nat (j := 0) rfl, ?_⟩
    refine ⟨_, rfl, x, d, _, rfl, S'.obj, F_Shop_not_are_sheets, _, rfl, x, a, ls, b, Own, rfl, S, ha, l60, _, rfl, ifb (fun e => ?_) (fun e => ?_)⟩
    · exact ⟨one_size, fun p np => ans_same k (a := .num (-22)) (by rw [step_check, if_pos (not_t e)]) rfl S (Same.refl _) np⟩
    have e1 := not_f e
    obtain ⟨h1, h2⟩ := okList_ok e1
    refine ⟨_, rfl, x, d, _, rfl, S'.obj, F_Shop_not_is_stack, _, rfl, x, a, ls, b, Own, rfl, S, ha, l60, h1, fun H1 s1 => ?_⟩
    refine .inr ⟨_, rfl, one_size, fun p np => ?_⟩
    have := ans_same k (a := .num (if Kqb2.stack b ls then 1 else 0)) (by rw [step_check, if_neg (by rw [e1]; simp)]) rfl S s1 np
    cases c : Kqb2.stack b ls with
    | true =>
      rw [c] at this
      exact this
    | false =>
      rw [c] at this
      exact this
def sp_call_press (T : Txt K mg) : Sp := fun vs H Q _ => ∃ (x g : Addr) (ls : List Nat) (b : Bench) (Own : Addr → Prop), vs = [.ref x, .ref g] ∧ ShopAt T H x (some b) Own ∧ WF b ∧ Given1 H g ls ∧ ls.length ≤ 60 ∧ Answers T (.press ls) x (some b) Own H Q
theorem ok_call_press (T : Txt K mg) : FnOk P w K mg base CX0 5 T.call_press.f T.call_press.fd ["shop", "given"] (sp_call_press T) := by
  refine T.call_press.F.ok sc_call_press (fun vs H Q E h => ?_) (fun cdv A outer s H vs Q E hr h => ?_)
  · obtain ⟨x, g, ls, b, Own, rfl, _⟩ := h
    rfl
  · obtain ⟨x, g, ls, b, Own, rfl, S, w1, ⟨a, hg, ha⟩, l60, k⟩ := h
    refine ⟨_, (pss_cons (ps_set (i := 2) sc_call_press.nd rfl (Or.inl rfl) (pe_ix ix_list (pv 1) pe_int (fun _ _ => rfl)))
          (pss_cons (ps_if (pt_not (pt_val (pe_meth (pv 0) T.Shop.cl T.Shop_are_sheets.m (ok_Shop_are_sheets T) (hr.mono (by decide)) T.Shop_are_sheets.b .nil pass0 (pa_cons (pv 2) pa_nil))))
          (pss_one (ps_ret (pe_lst (pa_cons (pe_glob (v := V.int (-22)) rfl T.WRONG_VALUE.g ⟨_, rfl⟩) pa_nil))))
          pss_nil)
          (pss_cons (ps_if (pt_not (pt_val (pe_callB (cr_all rfl) (by rfl) T.b_all (by decide +kernel) (pa_cons (pe_lc (own := [("i", 3)]) (g := gName 3) (tt := tYes) rfl sc_call_press.nd (pi_list (pv 2)) (blkOk_by (own := [("i", 3)]) (N := N_call_press) (sc := defScope s_call_press) (by decide +kernel)) (fun _ _ _ _ _ => pg_name (i := 3) sc_call_press.nd rfl (Or.inl rfl)) (fun _ _ _ _ _ => pts_nil) (fun _ _ _ _ _ => (pe_meth (pv 0) T.Shop.cl T.Shop_is_loose.m (ok_Shop_is_loose T) (hr.mono (by decide)) T.Shop_is_loose.b .nil pass0 (pa_cons (pv 3) pa_nil)))) pa_nil))))
          (pss_one (ps_ret (pe_lst (pa_cons (pe_glob (v := V.int (-17)) rfl T.IN_A_STACK.g ⟨_, rfl⟩) pa_nil))))
          pss_nil)
          (pss_cons (ps_if (pt_not (pt_val (pe_meth (pv 0) T.Shop.cl T.Shop_is_stack.m (ok_Shop_is_stack T) (hr.mono (by decide)) T.Shop_is_stack.b .nil pass0 (pa_cons (pv 2) pa_nil))))
          (pss_one (ps_ret (pe_lst (pa_cons (pe_glob (v := V.int (-16)) rfl T.STACK_FORBIDS.g ⟨_, rfl⟩) pa_nil))))
          pss_nil)
          (pss_one (ps_ret (pe_lst (pa_cons (pe_meth (pv 0) T.Shop.cl T.Shop_lay_stack.m (ok_Shop_lay_stack T) (hr.mono (by decide)) T.Shop_lay_stack.b .nil pass0 (pa_cons (pv 2) pa_nil)) pa_nil)))))))), ?_⟩
    obtain ⟨d, l, dk, as, Z, S'⟩ := id S
    refine ⟨_, rfl, g, _, _, _, rfl, rfl, SqL.of hg, atI_nat (j := 0) rfl, ?_⟩
    refine ⟨_, rfl, x, d, _, rfl, S'.obj, F_Shop_not_are_sheets, _, rfl, x, a, ls, b, Own, rfl, S, ha, l60, _, rfl, ifb (fun e => ?_) (fun e => ?_)⟩
    · exact ⟨one_size, fun p np => ans_same k (a := .num (-22)) (by rw [step_press, if_pos (not_t e)]) rfl S (Same.refl _) np⟩
    have e1 : ¬ Kqb2.okList b ls = false := by rw [not_f e]; simp
    obtain ⟨h1, h2⟩ := okList_ok (not_f e)
    refine ⟨_, rfl, a, rfl, ⟨_, ha.nats⟩, fun D nD => ?_⟩
    refine lc_list (K := K) (a := a) (xs := (nints ls).map V.int) (fun i H' => Same H H' ∧ H' D = some (.lst (((ls.take i).map (Kqb2.loose b)).map V.bl)))
      ⟨same_upd nD, upd_same⟩ (fun i H' _ ⟨s1, _⟩ => (ha.same s1).nats) ?_ ?_
    · rintro i y H' hy ⟨s1, hD⟩
      obtain ⟨n, en, rfl⟩ := at_nints hy
      have bn := h1 n (List.mem_of_getElem? en)
      have ey : b.sheets[n]? = some b.sheets[n] := List.getElem?_eq_getElem bn
      refine ⟨rfl, yes_k ?_⟩
      refine ⟨_, rfl, x, d, _, rfl, s1 _ _ S'.obj, F_Shop_not_is_loose, _, rfl, x, n, _, b, Own, rfl, S.same s1, w1, ey, fun H2 s2 => ?_⟩
      refine ⟨_, s2 _ _ hD, sz64 (by rw [List.length_map, List.length_map, List.length_take]; omega), fun c o e4 => ?_, ?_⟩
      · rw [upd_ne (ne_of_none e4 nD)]
        exact s2 _ _ (s1 _ _ e4)
      · rw [upd_same, take_snoc en, List.map_append, List.map_append]
        show some (HO.lst (_ ++ [V.bl _])) = some (HO.lst (_ ++ [V.bl (Kqb2.loose b n)]))
        rw [loose_at ey]
    · rintro H1 ⟨s1, hD⟩
      rw [nints_length] at hD
      refine ⟨D, _, rfl, .inl (.inl hD), ?_⟩
      rw [all_take]
      refine ⟨_, rfl, ifb (fun e => ?_) (fun e => ?_)⟩
      · exact ⟨one_size, fun p np => ans_same k (a := .num (-17)) (by rw [step_press, if_neg e1, if_pos (not_t e)]) rfl S s1 np⟩
      have e2 : ¬ ls.all (Kqb2.loose b) = false := by rw [not_f e]; simp
      refine ⟨_, rfl, x, d, _, rfl, s1 _ _ S'.obj, F_Shop_not_is_stack, _, rfl, x, a, ls, b, Own, rfl, S.same s1, ha.same s1, l60, h1, fun H2 s2 => ?_⟩
      refine ⟨_, rfl, ifb (fun e => ?_) (fun e => ?_)⟩
      · exact ⟨one_size, fun p np => ans_same k (a := .num (-16)) (by rw [step_press, if_neg e1, if_neg e2, if_pos (not_t e)]) rfl S (s1.trans s2) np⟩
      have e3 : ¬ Kqb2.stack b ls = false := by rw [not_f e]; simp
      have s12 := s1.trans s2
      refine ⟨_, rfl, x, d, _, rfl, s12 _ _ S'.obj, F_Shop_not_lay_stack, _, rfl, x, a, ls, b, Own, rfl, S.same s12, w1, ha.same s12, fun H3 Own3 S3 D3 => ?_⟩
      exact ⟨one_size, fun p np => ans_did k (a := .num (Kqb2.slot b.stacks)) (by rw [step_press, if_neg e1, if_neg e2, if_neg e3]) rfl S3 (Did.ahead s12 D3) np⟩
def sp_call_take (T : Txt K mg) : Sp := fun vs H Q _ => ∃ (x g : Addr) (n : Nat) (b : Bench) (Own : Addr → Prop), vs = [.ref x, .ref g] ∧ ShopAt T H x (some b) Own ∧ WF b ∧ LstAt H g [n] ∧ Answers T (.take n) x (some b) Own H Q
theorem ok_call_take (T : Txt K mg) : FnOk P w K mg base CX0 2 T.call_take.f T.call_take.fd ["shop", "given"] (sp_call_take T) := by
  refine T.call_take.F.ok sc_call_take (fun vs H Q E h => ?_) (fun cdv A outer s H vs Q E hr h => ?_)
  · obtain ⟨x, g, n, b, Own, rfl, _⟩ := h
    rfl
  · obtain ⟨x, g, n, b, Own, rfl, S, w1, hg, k⟩ := h
    refine ⟨_, (pss_cons (ps_set (i := 2) sc_call_take.nd rfl (Or.inl rfl) (pe_ix ix_list (pv 1) pe_int (fun _ _ => rfl)))
          (pss_cons (ps_if (pt_not (pt_val (pe_meth (pv 0) T.Shop.cl T.Shop_has_stack.m (ok_Shop_has_stack T) (hr.mono (by decide)) T.Shop_has_stack.b .nil pass0 (pa_cons (pv 2) pa_nil))))
          (pss_one (ps_ret (pe_lst (pa_cons (pe_glob (v := V.int (-2)) rfl T.NO_SUCH.g ⟨_, rfl⟩) pa_nil))))
          pss_nil)
          (pss_one (ps_ret (pe_lst (pa_cons (pe_callB call_len_seq (by rfl) T.b_len PySem.boot_len (pa_cons (pe_meth (pv 0) T.Shop.cl T.Shop_take_stack.m (ok_Shop_take_stack T) (hr.mono (by decide)) T.Shop_take_stack.b .nil pass0 (pa_cons (pv 2) pa_nil)) pa_nil)) pa_nil)))))), ?_⟩
    obtain ⟨d, l, dk, as, Z, S'⟩ := id S
    refine ⟨_, rfl, g, _, _, _, rfl, rfl, SqL.of hg, atI_map (i := 0) rfl, ?_⟩
    refine ⟨_, rfl, x, d, _, rfl, S'.obj, F_Shop_not_has_stack, _, rfl, x, n, some b, Own, rfl, S, ?_⟩
    show ∃ k, _
    cases en : b.stacks.getD n none with
    | none =>
      have : ((stacksOf (some b)).getD n none) = none := en
      rw [this]
      exact ⟨_, rfl, iteT ⟨one_size, fun p np => ans_same k (a := .num (-2)) (by rw [step_take, en]) rfl S (Same.refl _) np⟩⟩
    | some ls =>
      have : ((stacksOf (some b)).getD n none) = some ls := en
      rw [this]
      refine ⟨_, rfl, iteF ?_⟩
      refine ⟨_, rfl, x, d, _, rfl, S'.obj, F_Shop_not_take_stack, _, rfl, x, n, ls, b, Own, rfl, S, getD_some.mp en, fun H1 Own1 c S1 D1 hc => ?_⟩
      refine ⟨_, _, rfl, .inl hc.nats, one_size, fun p np => ?_⟩
      rw [nints_length]
      exact ans_did k (a := .num ls.length) (by rw [step_take, en]) rfl S1 D1 np
end
section
variable {P : Program} {w : World} {K : PySem.W.Frag} {mg : Str → Option Value} {base : Heap}
open Kqb2 (Bench)
theorem swap_face (b : Bench) {i j : Nat} {x z : Kqb2.Sheet} (hx : b.sheets[i]? = some x) (hz : b.sheets[j]? = some z) : ∀ (k : Nat) (y : Kqb2.Sheet), ((b.sheets.set i { x with stack := z.stack }).set j { z with stack := x.stack })[k]? = some y → ∃ u, b.sheets[k]? = some u ∧ y.minus = u.minus ∧ y.wide = u.wide := fun k y h => by
  rcases list_at_set h with ⟨rfl, rfl⟩ | ⟨c, h⟩
  · exact ⟨z, hz, rfl, rfl⟩
  · rcases list_at_set h with ⟨rfl, rfl⟩ | ⟨c2, h⟩
    · exact ⟨x, hx, rfl, rfl⟩
    · exact ⟨y, h, rfl, rfl⟩
theorem step_swap_some (b : Bench) {i j : Nat} {x z : Kqb2.Sheet} (hx : b.sheets[i]? = some x) (hz : b.sheets[j]? = some z) : Kqb2.step (some b) (.swap i j) = if x.stack = 0 ∧ z.stack = 0 then (some b, .num (-6)) else
      if (b.stacks.map fun k => k.map (Kqb2.exchanged i j)).all (fun k => match k with
        | some l => Kqb2.stack b l
        | none => true) = false ∨ i = j then (some b, .num (-16)) else (some { b with sheets := (b.sheets.set i { x with stack := z.stack }).set j { z with stack := x.stack }, stacks := b.stacks.map fun k => k.map (Kqb2.exchanged i j) }, .num 0) := by
  rw [step_swap, hx, hz]
  try rfl
theorem swp_lt {i j q n : Nat} (hi : i < n) (hj : j < n) (hq : q < n) : swp i j q < n := by
  unfold swp
  split
  · exact hj
  · split
    · exact hi
    · exact hq
theorem share {C : Prop} {R : Hp → Prop} {W : Hp → Prop} (main : (∀ H1, W H1 → R H1) → C) (rest : ∀ H1, W H1 → R H1) : C := main rest
theorem step_swap_none (b : Bench) {i j : Nat} (h : ¬ (i < b.sheets.length ∧ j < b.sheets.length)) : Kqb2.step (some b) (.swap i j) = (some b, .num (-2)) := by
  rw [step_swap]
  by_cases c : i < b.sheets.length
  · have e : b.sheets[j]? = none := List.getElem?_eq_none (by omega)
    rw [List.getElem?_eq_getElem c, e]
  · have e : b.sheets[i]? = none := List.getElem?_eq_none (by omega)
    rw [e]
/-- all values of the new dict are stacks, as all stacks are -/
theorem all_ents {b : Bench} {Z : List Ent} {ss : List (Option (List Nat))} (h : Ents Z ss) : (Z.map fun e => Kqb2.stack b e.2.1).all id = ss.all fun k => match k with
    | some l => Kqb2.stack b l
    | none => true := by
  rw [Bool.eq_iff_iff, List.all_map, List.all_eq_true, List.all_eq_true]
  constructor
  · intro q k hk
    cases k with
    | none => rfl
    | some l =>
      obtain ⟨n, hn⟩ := List.getElem?_of_mem hk
      obtain ⟨c, hc⟩ := (h.rel n l).mpr hn
      exact q _ hc
  · rintro q ⟨n, l, c⟩ he
    exact q _ (List.mem_of_getElem? ((h.rel n l).mp ⟨c, he⟩))
def sp_call_swap (T : Txt K mg) : Sp := fun vs H Q _ => ∃ (x g : Addr) (i j : Nat) (b : Bench) (Own : Addr → Prop), vs = [.ref x, .ref g] ∧ ShopAt T H x (some b) Own ∧ WF b ∧ LstAt H g [i, j] ∧ Answers T (.swap i j) x (some b) Own H Q
theorem ok_call_swap (T : Txt K mg) : FnOk P w K mg base CX0 5 T.call_swap.f T.call_swap.fd ["shop", "given"] (sp_call_swap T) := by
  refine T.call_swap.F.ok sc_call_swap (fun vs H Q E h => ?_) (fun cdv A outer s H vs Q E hr h => ?_)
  · obtain ⟨x, g, i, j, b, Own, rfl, _⟩ := h
    rfl
  · obtain ⟨x, g, i, j, b, Own, rfl, S, w1, hg, k⟩ := h
    refine ⟨_, (pss_cons (ps_set (i := 2) sc_call_swap.nd rfl (Or.inl rfl) (pe_ix ix_list (pv 1) pe_int (fun _ _ => rfl)))
          (pss_cons (ps_set (i := 3) sc_call_swap.nd rfl (Or.inl rfl) (pe_ix ix_list (pv 1) pe_int (fun _ _ => rfl)))
          (pss_cons (ps_if (PW.pt (pw_or (pt_not (pt_val (pe_meth (pv 0) T.Shop.cl T.Shop_has_sheet.m (ok_Shop_has_sheet T) (hr.mono (by decide)) T.Shop_has_sheet.b .nil pass0 (pa_cons (pv 2) pa_nil)))) (pw_or1 (pt_not (pt_val (pe_meth (pv 0) T.Shop.cl T.Shop_has_sheet.m (ok_Shop_has_sheet T) (hr.mono (by decide)) T.Shop_has_sheet.b .nil pass0 (pa_cons (pv 3) pa_nil)))))))
          (pss_one (ps_ret (pe_lst (pa_cons (pe_glob (v := V.int (-2)) rfl T.NO_SUCH.g ⟨_, rfl⟩) pa_nil))))
          pss_nil)
          (pss_cons (ps_if (PW.pt (pw_and (pt_val (pe_meth (pv 0) T.Shop.cl T.Shop_is_loose.m (ok_Shop_is_loose T) (hr.mono (by decide)) T.Shop_is_loose.b .nil pass0 (pa_cons (pv 2) pa_nil))) (pw_and1 (pt_val (pe_meth (pv 0) T.Shop.cl T.Shop_is_loose.m (ok_Shop_is_loose T) (hr.mono (by decide)) T.Shop_is_loose.b .nil pass0 (pa_cons (pv 3) pa_nil))))))
          (pss_one (ps_ret (pe_lst (pa_cons (pe_glob (v := V.int (-6)) rfl T.BOTH_LOOSE.g ⟨_, rfl⟩) pa_nil))))
          pss_nil)
          (pss_cons (ps_if (pt_cmpR op_eq (pv 2) (pv 3) (nomark _))
          (pss_one (ps_ret (pe_lst (pa_cons (pe_glob (v := V.int (-16)) rfl T.STACK_FORBIDS.g ⟨_, rfl⟩) pa_nil))))
          pss_nil)
          (pss_cons (ps_set (i := 4) sc_call_swap.nd rfl (Or.inl rfl) (pe_meth (pv 0) T.Shop.cl T.Shop_stacks_with_swapped.m (ok_Shop_stacks_with_swapped T) (hr.mono (by decide)) T.Shop_stacks_with_swapped.b .nil pass0 (pa_cons (pv 2) (pa_cons (pv 3) pa_nil))))
          (pss_cons (ps_if (pt_not (pt_val (pe_callB (cr_all rfl) (by rfl) T.b_all (by decide +kernel) (pa_cons (pe_lock (pe_lc (own := [("laid", 5)]) (g := gName 5) (tt := tYes) rfl sc_call_swap.nd (pi_values (pv 4)) (blkOk_by (own := [("laid", 5)]) (N := N_call_swap) (sc := defScope s_call_swap) (by decide +kernel)) (fun _ _ _ _ _ => pg_name (i := 5) sc_call_swap.nd rfl (Or.inl rfl)) (fun _ _ _ _ _ => pts_nil) (fun _ _ _ _ _ => (pe_meth (pv 0) T.Shop.cl T.Shop_is_stack.m (ok_Shop_is_stack T) (hr.mono (by decide)) T.Shop_is_stack.b .nil pass0 (pa_cons (pv 5) pa_nil))))) pa_nil))))
          (pss_one (ps_ret (pe_lst (pa_cons (pe_glob (v := V.int (-16)) rfl T.STACK_FORBIDS.g ⟨_, rfl⟩) pa_nil))))
          pss_nil)
          (pss_cons (ps_fld (pv 0) (pv 4) rfl)
          (pss_one (ps_ret (pe_lst (pa_cons pe_int pa_nil)))))))))))), ?_⟩
    obtain ⟨d, l, dk, as, Z, S'⟩ := id S
    refine ⟨_, rfl, g, _, _, _, rfl, rfl, SqL.of hg, atI_map (i := 0) rfl, ?_⟩
    refine ⟨_, rfl, g, _, _, _, rfl, rfl, SqL.of hg, atI_map (i := 1) rfl, ?_⟩
    refine ⟨_, rfl, x, d, _, rfl, S'.obj, F_Shop_not_has_sheet, _, rfl, x, i, some b, Own, rfl, S, _, rfl, ifb (fun e => iteT ?_) (fun e => ?_)⟩
    · have e' := of_decide_eq_false (not_t e)
      exact ⟨one_size, fun p np => ans_same k (step_swap_none b fun q => e' q.1) rfl S (Same.refl _) np⟩
    have hi : i < b.sheets.length := of_decide_eq_true (not_f e)
    refine ⟨_, rfl, x, d, _, rfl, S'.obj, F_Shop_not_has_sheet, _, rfl, x, j, some b, Own, rfl, S, _, rfl, ifb (fun e => ?_) (fun e => ?_)⟩
    · have e' := of_decide_eq_false (not_t e)
      exact ⟨one_size, fun p np => ans_same k (step_swap_none b fun q => e' q.2) rfl S (Same.refl _) np⟩
    have hj : j < b.sheets.length := of_decide_eq_true (not_f e)
    have ex : b.sheets[i]? = some b.sheets[i] := List.getElem?_eq_getElem hi
    have ez : b.sheets[j]? = some b.sheets[j] := List.getElem?_eq_getElem hj
    have st := step_swap_some b ex ez
    refine' share (W := fun H1 => Same H H1 ∧ ¬ (b.sheets[i].stack = 0 ∧ b.sheets[j].stack = 0)) (fun rest => ?main) ?rest
    case main =>
      refine ⟨_, rfl, x, d, _, rfl, S'.obj, F_Shop_not_is_loose, _, rfl, x, i, _, b, Own, rfl, S, w1, ex, fun H1 s1 => ⟨_, rfl, ifb (fun e => ?_) (fun e => ?_)⟩⟩
      · refine ⟨_, rfl, x, d, _, rfl, s1 _ _ S'.obj, F_Shop_not_is_loose, _, rfl, x, j, _, b, Own, rfl, S.same s1, w1, ez, fun H2 s2 => ⟨_, rfl, ifb (fun e2 => ?_) (fun e2 => ?_)⟩⟩
        · exact ⟨one_size, fun p np => ans_same k (a := .num (-6)) (by rw [st, if_pos ⟨of_decide_eq_true e, of_decide_eq_true e2⟩]) rfl S (s1.trans s2) np⟩
        · exact rest H2 ⟨s1.trans s2, fun q => of_decide_eq_false e2 q.2⟩
      · exact iteF (rest H1 ⟨s1, fun q => of_decide_eq_false e q.1⟩)
    case rest =>
      rintro H1 ⟨s1, nl⟩
      rw [if_neg nl] at st
      refine ⟨_, rfl, _, rfl, rfl, _, rfl, ifb (fun e => ?_) (fun e => ?_)⟩
      · have e1 : i = j := by
          have h1 : (i : Int) = (j : Int) := V.int.inj (of_decide_eq_true e)
          omega
        exact ⟨one_size, fun p np => ans_same k (a := .num (-16)) (by rw [st, if_pos (.inr e1)]) rfl S s1 np⟩
      have e1 : i ≠ j := fun q => by
        have h1 : ¬ V.int (i : Int) = V.int (j : Int) := of_decide_eq_false e
        exact h1 (by rw [q])
      have S1 := S.same s1
      have S1' := S'.keep (H' := H1) fun a o _ e => s1 a o e
      refine ⟨_, rfl, x, d, _, rfl, s1 _ _ S'.obj, F_Shop_not_stacks_with_swapped, _, rfl, _, rfl, x, i, j, b, Own, rfl, S1, w1, e1, fun H2 p Z' s2 np hP EZ hL => ?_⟩
      have s12 := s1.trans s2
      have S2' := S'.keep (H' := H2) fun a o _ e => s12 a o e
      have np0 : H p = none := s1.free np
      have inb : ∀ e ∈ Z', e.2.1.length ≤ 60 ∧ ∀ q ∈ e.2.1, q < b.sheets.length := fun ⟨n, l', c⟩ he => by
        obtain ⟨l0, h0, rfl⟩ := map_exchanged.mp ((EZ.rel n l').mp ⟨c, he⟩)
        obtain ⟨o1, o2⟩ := w1.ok n l0 h0
        refine ⟨?_, fun q hq => ?_⟩
        · have := nodup_sub l0 (List.range b.sheets.length) o1 fun q hq => List.mem_range.mpr (o2 q hq)
          rw [List.length_range] at this
          have := w1.few
          show (Kqb2.exchanged i j l0).length ≤ 60
          rw [exchanged_eq, List.length_map]
          omega
        · have := o2 _ (mem_exchanged.mp hq)
          have hq2 : q = swp i j (swp i j q) := (swp_swp i j q).symm
          rw [hq2]
          exact swp_lt hi hj this
      refine ⟨p, _, hP, True.intro, fun od => ?_⟩
      refine ⟨_, rfl, p, od, kvsOf Z', rfl, upd_same, fun D nD => ?_⟩
      have npD : p ≠ D := ne_of_none upd_same nD
      have nxp : ∀ {a : Addr} {o : HO}, H1 a = some o → a ≠ p := fun h => ne_of_none h np
      refine lc_it walk_values
        (fun m H' => Same (upd H2 p (.frz od (.dK (kvsOf Z')))) H' ∧ H' D = some (.lst (((Z'.take m).map fun e => Kqb2.stack b e.2.1).map V.bl)))
        ⟨same_upd nD, upd_same⟩ (fun m H' _ ⟨s3, _⟩ => s3 _ _ upd_same) ?_ ?_
      · rintro m y H3 H4 hm ⟨s3, hD⟩ ⟨rfl, kk, hkk⟩
        have hkk2 : (kvsOf Z')[m]? = some (kk, y) := hkk
        unfold kvsOf at hkk2
        obtain ⟨e, he, ee⟩ : ∃ e, Z'[m]? = some e ∧ ((Sum.inl (e.1 : Int) : L2.Key), V.ref e.2.2) = (kk, y) := by
          rw [List.getElem?_map] at hkk2
          cases q : Z'[m]? with
          | none =>
            rw [q] at hkk2
            cases hkk2
          | some e =>
            rw [q] at hkk2
            exact ⟨e, rfl, Option.some.inj hkk2⟩
        have ey : y = V.ref e.2.2 := (Prod.mk.inj ee).2.symm
        subst ey
        have hz := List.mem_of_getElem? he
        have hl2 : LstAt H2 e.2.2 e.2.1 := (hL e hz).1
        have hl3 : LstAt H4 e.2.2 e.2.1 := lock_get s3 hl2 (lst_ne_dic hl2 hP)
        have S4 : ShopAt T H4 x (some b) Own := S.keep fun a o ha e => lock_get s3 (s12 _ _ e) (ne_of_none e np0)
        have hx4 := lock_get s3 (s12 _ _ S'.obj) (ne_of_none S'.obj np0)
        obtain ⟨b1, b2⟩ := inb e hz
        refine ⟨rfl, yes_k ?_⟩
        refine ⟨_, rfl, x, d, _, rfl, hx4, F_Shop_not_is_stack, _, rfl, x, e.2.2, e.2.1, b, Own, rfl, S4, hl3, b1, b2, fun H5 s5 => ?_⟩
        refine ⟨_, s5 _ _ hD, sz64 ?_, fun c o e4 => ?_, ?_⟩
        · rw [List.length_map, List.length_map, List.length_take]
          have e1 : Z'.length ≤ _ := ents_len EZ
          rw [List.length_map] at e1
          have := w1.room
          omega
        · rw [upd_ne (ne_of_none e4 nD)]
          exact s5 _ _ (s3 _ _ e4)
        · rw [upd_same, take_snoc he, List.map_append, List.map_append]
          rfl
      · rintro H3 ⟨s3, hD⟩
        rw [kvs_len, List.take_length] at hD
        refine ⟨s3 _ _ upd_same, D, _, rfl, .inl (.inl (by rw [upd_ne npD.symm]; exact hD)), ?_⟩
        have s4 : Same H2 (upd H3 p (.dK (kvsOf Z'))) := unlock_same hP s3
        have s14 := s12.trans s4
        rw [all_ents EZ]
        refine ⟨_, rfl, ifb (fun e => ?_) (fun e => ?_)⟩
        · exact ⟨one_size, fun p' np' => ans_same k (a := .num (-16)) (by rw [st, if_pos (.inl (not_t e))]) rfl S s14 np'⟩
        have e2 := not_f e
        have hno : ¬ ((b.stacks.map fun k => k.map (Kqb2.exchanged i j)).all (fun k => match k with
          | some l => Kqb2.stack b l
          | none => true) = false ∨ i = j) := fun q => by
          rcases q with q | q
          · rw [e2] at q
            cases q
          · exact e1 q
        rw [if_neg hno] at st
        generalize hH4 : upd H3 p (.dK (kvsOf Z')) = H4 at s4 s14 ⊢
        have S5 := S'.keep (H' := H4) fun a o _ e => s14 a o e
        have hp4 : H4 p = some (.dK (kvsOf Z')) := by
          rw [← hH4]
          exact upd_same
        refine ⟨_, rfl, _, rfl, x, _, d, _, rfl, S5.obj, T.Shop.cl, T.Shop_no_stacks, (by show 3 < 1000; decide), ?_⟩
        rw [F_Shop_put_stacks]
        refine ⟨one_size, fun q nq => ?_⟩
        have nx : ∀ {a : Addr} {o : HO}, a ≠ x → H4 a = some o → (upd H4 x (.ins T.Shop.C d (F_Shop (reachV (some b)) (.ref l) (.ref p)))) a = some o := fun ne h => by
          rw [upd_ne ne]
          exact h
        have npx : p ≠ x := (ne_of_none S'.obj np0).symm
        refine ans_did k (s' := some { b with sheets := (b.sheets.set i { b.sheets[i] with stack := b.sheets[j].stack }).set j { b.sheets[j] with stack := b.sheets[i].stack }, stacks := b.stacks.map fun k => k.map (Kqb2.exchanged i j) }) (Own' := fun a => a = x ∨ a = l ∨ a = p ∨ a ∈ as ∨ ∃ e ∈ Z', e.2.2 = a) (a := .num 0) st rfl ⟨d, l, p, as, Z', upd_same, nx S5.n_xl.symm S5.lst, nx npx hp4, S5.nd, ?_, ?_, EZ, fun e he => ?_, fun a => Iff.rfl⟩ ⟨fun a o ha nn => ?_, fun a ha => ?_, fun a o ha => ?_⟩ nq
        · show as.length = (List.set _ _ _).length
          rw [List.length_set, List.length_set]
          exact S5.len
        · intro k' a y h1 h2
          obtain ⟨u, hu, f1, f2⟩ := swap_face b ex ez k' y h2
          obtain ⟨da, hda⟩ := S5.at_ k' a u h1 hu
          rw [← f1, ← f2] at hda
          exact ⟨da, nx (SheetAt.ne_x (y := y) S5 ⟨da, hda⟩) hda⟩
        · have hl := (hL e he).1.same s4
          refine ⟨nx (ne_of hl S5.obj (by intro q; cases q)) hl, fun q => ?_⟩
          have := (hL e he).2
          rw [q] at this
          have h1 : H1 l = none := this
          rw [s1 _ _ S'.lst] at h1
          cases h1
        · exact nx (fun q => nn (q ▸ S'.own_x)) (s14 _ _ ha)
        · rcases ha with rfl | rfl | rfl | h | ⟨e, he, rfl⟩
          · exact .inl S'.own_x
          · exact .inl S'.own_l
          · exact .inr np0
          · exact .inl (S'.own_a h)
          · exact .inr (s1.free (hL e he).2)
        · obtain ⟨o1, h1⟩ : ∃ o1, H4 a = some o1 := ⟨o, s14 _ _ ha⟩
          exact upd_trk h1
end
section
variable {P : Program} {w : World} {K : PySem.W.Frag} {mg : Str → Option Value} {base : Heap}
open Kqb2 (Bench)
theorem three_size : (3 : Nat) ≤ sizeLine := by decide
theorem ents_count {Z : List Ent} {ss : List (Option (List Nat))} (h : Ents Z ss) : Z.length = (ss.filterMap id).length := by
  rw [stacks_length]
  have p : (Z.map (·.1)).Perm ((List.range ss.length).filter fun n => (ss.getD n none).isSome) := by
    refine (List.perm_ext_iff_of_nodup h.keys (List.nodup_range.sublist List.filter_sublist)).mpr fun n => ?_
    rw [List.mem_map, List.mem_filter, List.mem_range]
    constructor
    · rintro ⟨⟨m, l, c⟩, hz, rfl⟩
      have e := (h.rel m l).mp ⟨c, hz⟩
      refine ⟨(List.getElem?_eq_some_iff.mp e).1, ?_⟩
      show (ss.getD m none).isSome = true
      rw [getD_some.mpr e]
      rfl
    · rintro ⟨_, h2⟩
      obtain ⟨l, e⟩ := Option.isSome_iff_exists.mp h2
      obtain ⟨c, hc⟩ := (h.rel n l).mpr (getD_some.mp e)
      exact ⟨_, hc, rfl⟩
  have := p.length_eq
  rw [List.length_map] at this
  exact this
def sp_call_state (T : Txt K mg) : Sp := fun vs H Q _ => ∃ (x g : Addr) (b : Bench) (Own : Addr → Prop), vs = [.ref x, .ref g] ∧ ShopAt T H x (some b) Own ∧ WF b ∧ Answers T .state x (some b) Own H Q
theorem ok_call_state (T : Txt K mg) : FnOk P w K mg base CX0 1 T.call_state.f T.call_state.fd ["shop", "given"] (sp_call_state T) := by
  refine T.call_state.F.ok sc_call_state (fun vs H Q E h => ?_) (fun cdv A outer s H vs Q E hr h => ?_)
  · obtain ⟨x, g, b, Own, rfl, _⟩ := h
    rfl
  · obtain ⟨x, g, b, Own, rfl, S, w1, k⟩ := h
    refine ⟨_, (pss_one (ps_ret (pe_lst (pa_cons (pe_callB call_len_seq (by rfl) T.b_len PySem.boot_len (pa_cons (pe_fld (pv 0) rfl) pa_nil)) (pa_cons (pe_callB call_lenD (by rfl) T.b_len PySem.boot_len (pa_cons (pe_fld (pv 0) rfl) pa_nil)) (pa_cons (pe_fld (pv 0) rfl) pa_nil)))))), ?_⟩
    obtain ⟨d, l, dk, as, Z, S'⟩ := id S
    refine ⟨_, rfl, x, _, d, _, _, rfl, S'.obj, T.Shop.cl, T.Shop_no_sheets, F_Shop_sheets, _, _, rfl, .inl (.inl (.inl S'.lst)), ?_⟩
    refine ⟨_, rfl, x, _, d, _, _, rfl, S'.obj, T.Shop.cl, T.Shop_no_stacks, F_Shop_stacks, dk, _, rfl, S'.dic, ?_⟩
    refine ⟨_, rfl, x, _, d, _, _, rfl, S'.obj, T.Shop.cl, T.Shop_no_reach, F_Shop_reach, three_size, fun p np => ?_⟩
    have := ans_same k (a := .some_ b.sheets.length [(b.stacks.filterMap id).length, b.reach]) (step_state b) rfl S (Same.refl _) np
    have e1 : (as.map V.ref).length = b.sheets.length := by
      rw [List.length_map]
      exact S'.len
    have e2 : (kvsOf Z).length = (b.stacks.filterMap id).length := by
      rw [kvs_len]
      exact ents_count S'.ents
    rw [e1, e2]
    exact this
def sp_call_sheet (T : Txt K mg) : Sp := fun vs H Q _ => ∃ (x g : Addr) (i : Nat) (b : Bench) (Own : Addr → Prop), vs = [.ref x, .ref g] ∧ ShopAt T H x (some b) Own ∧ WF b ∧ LstAt H g [i] ∧ Answers T (.sheet i) x (some b) Own H Q
theorem ok_call_sheet (T : Txt K mg) : FnOk P w K mg base CX0 2 T.call_sheet.f T.call_sheet.fd ["shop", "given"] (sp_call_sheet T) := by
  refine T.call_sheet.F.ok sc_call_sheet (fun vs H Q E h => ?_) (fun cdv A outer s H vs Q E hr h => ?_)
  · obtain ⟨x, g, i, b, Own, rfl, _⟩ := h
    rfl
  · obtain ⟨x, g, i, b, Own, rfl, S, w1, hg, k⟩ := h
    refine ⟨_, (pss_cons (ps_set (i := 2) sc_call_sheet.nd rfl (Or.inl rfl) (pe_ix ix_list (pv 1) pe_int (fun _ _ => rfl)))
          (pss_cons (ps_if (pt_not (pt_val (pe_meth (pv 0) T.Shop.cl T.Shop_has_sheet.m (ok_Shop_has_sheet T) (hr.mono (by decide)) T.Shop_has_sheet.b .nil pass0 (pa_cons (pv 2) pa_nil))))
          (pss_one (ps_ret (pe_lst (pa_cons (pe_glob (v := V.int (-2)) rfl T.NO_SUCH.g ⟨_, rfl⟩) pa_nil))))
          pss_nil)
          (pss_cons (ps_set (i := 3) sc_call_sheet.nd rfl (Or.inl rfl) (pe_ix ix_list (pe_fld (pv 0) rfl) (pv 2) (fun _ _ => rfl)))
          (pss_cons (ps_set (i := 4) sc_call_sheet.nd rfl (Or.inl rfl) (pe_meth (pv 0) T.Shop.cl T.Shop_stack_of.m (ok_Shop_stack_of T) (hr.mono (by decide)) T.Shop_stack_of.b .nil pass0 (pa_cons (pv 2) pa_nil)))
          (pss_one (ps_ret (pe_lst (pa_cons (pe_fld (pv 3) rfl) (pa_cons (pe_callTy call_int1 (by rfl) T.b_int (by decide +kernel) (pa_cons (pe_fld (pv 3) rfl) pa_nil)) (pa_cons (pe_ifExp (pt_cmpR op_isN (pv 4) pe_non (nomark _)) pe_int (pe_op op_add (pv 4) pe_int)) pa_nil)))))))))), ?_⟩
    obtain ⟨d, l, dk, as, Z, S'⟩ := id S
    refine ⟨_, rfl, g, _, _, _, rfl, rfl, SqL.of hg, atI_map (i := 0) rfl, ?_⟩
    refine ⟨_, rfl, x, d, _, rfl, S'.obj, F_Shop_not_has_sheet, _, rfl, x, i, some b, Own, rfl, S, _, rfl, ifb (fun e => ?_) (fun e => ?_)⟩
    · have e' : ¬ i < b.sheets.length := of_decide_eq_false (not_t e)
      exact ⟨one_size, fun p np => ans_same k (a := .num (-2)) (by rw [step_sheet, List.getElem?_eq_none (by omega)]) rfl S (Same.refl _) np⟩
    have hi : i < b.sheets.length := of_decide_eq_true (not_f e)
    have ei : b.sheets[i]? = some b.sheets[i] := List.getElem?_eq_getElem hi
    obtain ⟨a, ha, da, Ha⟩ := S'.addr (i := i) ei
    refine ⟨_, rfl, x, _, d, _, _, rfl, S'.obj, T.Shop.cl, T.Shop_no_sheets, F_Shop_sheets, _, rfl, l, _, _, _, rfl, rfl, SqL.of S'.lst, atI_map ha, ?_⟩
    refine ⟨_, rfl, x, d, _, rfl, S'.obj, F_Shop_not_stack_of, _, rfl, x, i, _, b, Own, rfl, S, w1, ei, fun H1 s1 => ?_⟩
    have fin : ∀ p, H1 p = none → Q (.ref p) (upd H1 p (.lst [.int (b.sheets[i].wide : Int), .int (if b.sheets[i].minus = true then 1 else 0), .int (b.sheets[i].stack : Int)])) := fun p np => by
      have := ans_same k (a := .some_ b.sheets[i].wide [if b.sheets[i].minus then 1 else 0, b.sheets[i].stack]) (by rw [step_sheet, ei]) rfl S s1 np
      cases c : b.sheets[i].minus with
      | true =>
        rw [c] at this
        exact this
      | false =>
        rw [c] at this
        exact this
    refine ⟨_, rfl, a, _, da, _, _, rfl, s1 _ _ Ha, T.Sheet.cl, T.Sheet_no_wide, F_Sheet_wide, ?_⟩
    refine ⟨_, rfl, a, _, da, _, _, rfl, s1 _ _ Ha, T.Sheet.cl, T.Sheet_no_minus, F_Sheet_minus, .inr ⟨_, rfl, ?_⟩⟩
    cases es : b.sheets[i].stack with
    | zero =>
      rw [es] at fin
      refine ⟨_, rfl, rfl, _, rfl, iteT ⟨three_size, fun p np => ?_⟩⟩
      have := fin p np
      cases c : b.sheets[i].minus with
      | true =>
        rw [c] at this
        exact this
      | false =>
        rw [c] at this
        exact this
    | succ n =>
      rw [es] at fin
      refine ⟨_, rfl, rfl, _, rfl, iteF ?_⟩
      refine ⟨_, rfl, _, _, rfl, rfl, three_size, fun p np => ?_⟩
      have := fin p np
      cases c : b.sheets[i].minus with
      | true =>
        rw [c] at this
        exact this
      | false =>
        rw [c] at this
        exact this
def sp_call_stack (T : Txt K mg) : Sp := fun vs H Q _ => ∃ (x g : Addr) (n : Nat) (b : Bench) (Own : Addr → Prop), vs = [.ref x, .ref g] ∧ ShopAt T H x (some b) Own ∧ WF b ∧ LstAt H g [n] ∧ Answers T (.stack n) x (some b) Own H Q
theorem stack_few {b : Bench} (w : WF b) {n : Nat} {l : List Nat} (h : b.stacks[n]? = some (some l)) : l.length ≤ 14 := by
  obtain ⟨o1, o2⟩ := w.ok n l h
  have := nodup_sub l (List.range b.sheets.length) o1 fun q hq => List.mem_range.mpr (o2 q hq)
  rw [List.length_range] at this
  have := w.few
  omega
theorem ok_call_stack (T : Txt K mg) : FnOk P w K mg base CX0 2 T.call_stack.f T.call_stack.fd ["shop", "given"] (sp_call_stack T) := by
  refine T.call_stack.F.ok sc_call_stack (fun vs H Q E h => ?_) (fun cdv A outer s H vs Q E hr h => ?_)
  · obtain ⟨x, g, n, b, Own, rfl, _⟩ := h
    rfl
  · obtain ⟨x, g, n, b, Own, rfl, S, w1, hg, k⟩ := h
    refine ⟨_, (pss_cons (ps_set (i := 2) sc_call_stack.nd rfl (Or.inl rfl) (pe_ix ix_list (pv 1) pe_int (fun _ _ => rfl)))
          (pss_cons (ps_if (pt_not (pt_val (pe_meth (pv 0) T.Shop.cl T.Shop_has_stack.m (ok_Shop_has_stack T) (hr.mono (by decide)) T.Shop_has_stack.b .nil pass0 (pa_cons (pv 2) pa_nil))))
          (pss_one (ps_ret (pe_lst (pa_cons (pe_glob (v := V.int (-2)) rfl T.NO_SUCH.g ⟨_, rfl⟩) pa_nil))))
          pss_nil)
          (pss_cons (ps_set (i := 3) sc_call_stack.nd rfl (Or.inl rfl) (pe_dget (hu_of hr) (pe_fld (pv 0) rfl) (pv 2) (fun _ _ => rfl)))
          (pss_one (ps_ret (pe_op op_cat (pe_lst (pa_cons (pe_callB call_len_seq (by rfl) T.b_len PySem.boot_len (pa_cons (pv 3) pa_nil)) pa_nil)) (pv 3))))))), ?_⟩
    obtain ⟨d, l, dk, as, Z, S'⟩ := id S
    refine ⟨_, rfl, g, _, _, _, rfl, rfl, SqL.of hg, atI_map (i := 0) rfl, ?_⟩
    refine ⟨_, rfl, x, d, _, rfl, S'.obj, F_Shop_not_has_stack, _, rfl, x, n, some b, Own, rfl, S, ?_⟩
    show ∃ k, _
    rcases S'.ents.get n with ⟨e1, _⟩ | ⟨ls, c, e1, e2, hc, hv⟩
    · rw [e1]
      exact ⟨_, rfl, iteT ⟨one_size, fun p np => ans_same k (a := .num (-2)) (by rw [step_stack, show b.stacks.getD n none = none from e1]) rfl S (Same.refl _) np⟩⟩
    · rw [e1]
      have l14 := stack_few w1 e2
      have hl := (S'.lists _ hc).1
      have hl : LstAt H c ls := hl
      have dg := DGet.k (k := (Sum.inl (n : Int) : L2.Key)) S'.dic
      rw [hv] at dg
      refine ⟨_, rfl, iteF ?_⟩
      refine ⟨_, rfl, x, _, d, _, _, rfl, S'.obj, T.Shop.cl, T.Shop_no_stacks, F_Shop_stacks, _, rfl, dk, _, rfl, dg, ?_⟩
      refine ⟨_, rfl, _, _, rfl, .inl hl.nats, one_size, fun q2 nq2 => ?_⟩
      have nqq : c ≠ q2 := hl.ne nq2
      refine ⟨_, rfl, q2, c, _, _, rfl, rfl, upd_same, (by rw [upd_ne nqq]; exact hl), ?_, fun p np => ?_⟩
      · rw [nints_length]
        exact Nat.le_trans (show 1 + ls.length ≤ 100000 by omega) (by decide)
      · rw [nints_length]
        rw [nints_length] at np
        exact ans_same k (a := Kqb2.row ls) (by rw [step_stack, show b.stacks.getD n none = some ls from e1]) (tell_row _) S (same_upd nq2) np
def sp_call_loose (T : Txt K mg) : Sp := fun vs H Q _ => ∃ (x g : Addr) (b : Bench) (Own : Addr → Prop), vs = [.ref x, .ref g] ∧ ShopAt T H x (some b) Own ∧ WF b ∧ Answers T .loose x (some b) Own H Q
theorem ok_call_loose (T : Txt K mg) : FnOk P w K mg base CX0 4 T.call_loose.f T.call_loose.fd ["shop", "given"] (sp_call_loose T) := by
  refine T.call_loose.F.ok sc_call_loose (fun vs H Q E h => ?_) (fun cdv A outer s H vs Q E hr h => ?_)
  · obtain ⟨x, g, b, Own, rfl, _⟩ := h
    rfl
  · obtain ⟨x, g, b, Own, rfl, S, w1, k⟩ := h
    refine ⟨_, (pss_cons (ps_set (i := 2) sc_call_loose.nd rfl (Or.inl rfl) (pe_callB call_len_seq (by rfl) T.b_len PySem.boot_len (pa_cons (pe_meth (pv 0) T.Shop.cl T.Shop_loose_widths.m (ok_Shop_loose_widths T) (hr.mono (by decide)) T.Shop_loose_widths.b .nil pass0 (pa_cons pe_bl pa_nil)) pa_nil)))
          (pss_cons (ps_set (i := 3) sc_call_loose.nd rfl (Or.inl rfl) (pe_callB call_len_seq (by rfl) T.b_len PySem.boot_len (pa_cons (pe_meth (pv 0) T.Shop.cl T.Shop_loose_widths.m (ok_Shop_loose_widths T) (hr.mono (by decide)) T.Shop_loose_widths.b .nil pass0 (pa_cons pe_bl pa_nil)) pa_nil)))
          (pss_one (ps_ret (pe_lst (pa_cons (pe_op op_add (pv 2) (pv 3)) (pa_cons (pv 2) (pa_cons (pv 3) pa_nil)))))))), ?_⟩
    obtain ⟨d, l, dk, as, Z, S'⟩ := id S
    refine ⟨_, rfl, x, d, _, rfl, S'.obj, F_Shop_not_loose_widths, x, false, b, Own, rfl, S, w1, fun H1 p1 s1 np1 hp1 => ?_⟩
    refine ⟨_, _, rfl, .inl hp1.nats, ?_⟩
    refine ⟨_, rfl, x, d, _, rfl, s1 _ _ S'.obj, F_Shop_not_loose_widths, x, true, b, Own, rfl, S.same s1, w1, fun H2 p2 s2 np2 hp2 => ?_⟩
    refine ⟨_, _, rfl, .inl hp2.nats, ?_⟩
    refine ⟨_, rfl, _, rfl, _, _, rfl, rfl, _, rfl, _, rfl, three_size, fun p np => ?_⟩
    rw [nints_length, nints_length, widths_length, widths_length, looseOf_plus, looseOf_minus] at *
    have := ans_same k (a := .some_ (Kqb2.free b fun _ => true).length [(Kqb2.free b (Kqb2.isPlus b)).length, (Kqb2.free b (Kqb2.isMinus b)).length]) (step_loose b) rfl S (s1.trans s2) np
    rw [free_all b] at this
    exact this
def sp_call_most (T : Txt K mg) : Sp := fun vs H Q _ => ∃ (x g : Addr) (n : Nat) (b : Bench) (Own : Addr → Prop), vs = [.ref x, .ref g] ∧ ShopAt T H x (some b) Own ∧ WF b ∧ LstAt H g [n] ∧ Answers T (.most n) x (some b) Own H Q
theorem ok_call_most (T : Txt K mg) : FnOk P w K mg base CX0 5 T.call_most.f T.call_most.fd ["shop", "given"] (sp_call_most T) := by
  refine T.call_most.F.ok sc_call_most (fun vs H Q E h => ?_) (fun cdv A outer s H vs Q E hr h => ?_)
  · obtain ⟨x, g, n, b, Own, rfl, _⟩ := h
    rfl
  · obtain ⟨x, g, n, b, Own, rfl, S, w1, hg, k⟩ := h
    refine ⟨_, (pss_cons (ps_set (i := 2) sc_call_most.nd rfl (Or.inl rfl) (pe_ix ix_list (pv 1) pe_int (fun _ _ => rfl)))
          (pss_cons (ps_if (PW.pt (pw_or (pt_cmpR op_lt (pv 2) pe_int (nomark _)) (pw_or1 (pt_cmpR op_gt (pv 2) (pe_glob (v := V.int (3)) rfl T.MOST_PLUS_IN_EACH.g ⟨_, rfl⟩) (nomark _)))))
          (pss_one (ps_ret (pe_lst (pa_cons (pe_glob (v := V.int (-22)) rfl T.WRONG_VALUE.g ⟨_, rfl⟩) pa_nil))))
          pss_nil)
          (pss_one (ps_ret (pe_lst (pa_cons (pe_call (ok_most_stacks T) (hr.mono (by decide)) rfl T.most_stacks.g T.most_stacks.F.kp T.most_stacks.b .nil pass0 (pa_cons (pe_meth (pv 0) T.Shop.cl T.Shop_loose_widths.m (ok_Shop_loose_widths T) (hr.mono (by decide)) T.Shop_loose_widths.b .nil pass0 (pa_cons pe_bl pa_nil)) (pa_cons (pe_meth (pv 0) T.Shop.cl T.Shop_loose_widths.m (ok_Shop_loose_widths T) (hr.mono (by decide)) T.Shop_loose_widths.b .nil pass0 (pa_cons pe_bl pa_nil)) (pa_cons (pv 2) (pa_cons (pe_fld (pv 0) rfl) pa_nil))))) pa_nil)))))), ?_⟩
    obtain ⟨d, l, dk, as, Z, S'⟩ := id S
    refine ⟨_, rfl, g, _, _, _, rfl, rfl, SqL.of hg, atI_map (i := 0) rfl, ?_⟩
    refine ⟨_, rfl, _, _, rfl, rfl, _, rfl, ifb (fun e => iteT ?_) (fun e => ?_)⟩
    · have e1 : n = 0 := by
        have : (n : Int) < 1 := of_decide_eq_true e
        omega
      exact ⟨one_size, fun p np => ans_same k (a := .num (-22)) (by rw [step_most, if_pos (.inl e1)]) rfl S (Same.refl _) np⟩
    have e1 : ¬ (n : Int) < 1 := of_decide_eq_false e
    refine ⟨_, rfl, _, _, rfl, rfl, _, rfl, ifb (fun e => ?_) (fun e => ?_)⟩
    · have e2 : 3 < n := by
        have : (3 : Int) < (n : Int) := of_decide_eq_true e
        omega
      exact ⟨one_size, fun p np => ans_same k (a := .num (-22)) (by rw [step_most, if_pos (.inr e2)]) rfl S (Same.refl _) np⟩
    have e2 : ¬ (3 : Int) < (n : Int) := of_decide_eq_false e
    refine ⟨_, rfl, x, d, _, rfl, S'.obj, F_Shop_not_loose_widths, x, false, b, Own, rfl, S, w1, fun H1 p1 s1 np1 hp1 => ?_⟩
    refine ⟨_, rfl, x, d, _, rfl, s1 _ _ S'.obj, F_Shop_not_loose_widths, x, true, b, Own, rfl, S.same s1, w1, fun H2 p2 s2 np2 hp2 => ?_⟩
    have hp1 := hp1.same s2
    rw [looseOf_plus] at hp1
    rw [looseOf_minus] at hp2
    have few := w1.few
    have l1 := free_length b (Kqb2.isPlus b)
    have l2 := free_length b (Kqb2.isMinus b)
    refine ⟨_, rfl, _, rfl, x, _, d, _, _, rfl, s2 _ _ (s1 _ _ S'.obj), T.Shop.cl, T.Shop_no_reach, F_Shop_reach, p1, p2, _, _, n, b.reach, rfl, hp1, hp2, (by rw [widths_length]; omega), (by rw [widths_length]; omega), by omega, fun H3 c s3 c1 c2 => ?_⟩
    refine ⟨one_size, fun p np => ?_⟩
    have em := most_eq (b := b) (k := n) (c := c) (by omega) c1 c2
    exact ans_same k (a := .num c) (by rw [step_most, if_neg (by omega), em]) rfl S ((s1.trans s2).trans s3) np
end
section
variable {P : Program} {w : World} {K : PySem.W.Frag} {mg : Str → Option Value} {base : Heap}
open Kqb2 (Bench)
theorem list_max {b : Bench} {ls : List Nat} {m : Int} (h1 : m ∈ nints (ls.map (Kqb2.wide b))) (h2 : ∀ z ∈ nints (ls.map (Kqb2.wide b)), z ≤ m) : m = ((ls.foldl (fun m i => max m (Kqb2.wide b i)) 0 : Nat) : Int) := by
  obtain ⟨n, hn, rfl⟩ := List.mem_map.mp h1
  obtain ⟨i, hi, rfl⟩ := List.mem_map.mp hn
  rw [foldl_maxW (Kqb2.wide b) ls 0 (Kqb2.wide b i) (Nat.zero_le _) (fun j hj => ?_) (.inr ⟨i, hi, rfl⟩)]
  have := h2 _ (List.mem_map.mpr ⟨_, List.mem_map.mpr ⟨j, hj, rfl⟩, rfl⟩)
  omega
theorem list_min {b : Bench} {ls : List Nat} {m : Int} (h1 : m ∈ nints (ls.map (Kqb2.wide b))) (h2 : ∀ z ∈ nints (ls.map (Kqb2.wide b)), m ≤ z) (h3 : ∀ i ∈ ls, Kqb2.wide b i ≤ 1000) : m = ((ls.foldl (fun m i => min m (Kqb2.wide b i)) 1000 : Nat) : Int) := by
  obtain ⟨n, hn, rfl⟩ := List.mem_map.mp h1
  obtain ⟨i, hi, rfl⟩ := List.mem_map.mp hn
  rw [foldl_minW (Kqb2.wide b) ls 1000 (Kqb2.wide b i) (h3 i hi) (fun j hj => ?_) (.inr ⟨i, hi, rfl⟩)]
  have := h2 _ (List.mem_map.mpr ⟨_, List.mem_map.mpr ⟨j, hj, rfl⟩, rfl⟩)
  omega
def sp_call_height (T : Txt K mg) : Sp := fun vs H Q _ => ∃ (x g : Addr) (n : Nat) (b : Bench) (Own : Addr → Prop), vs = [.ref x, .ref g] ∧ ShopAt T H x (some b) Own ∧ WF b ∧ LstAt H g [n] ∧ Answers T (.height n) x (some b) Own H Q
theorem ok_call_height (T : Txt K mg) : FnOk P w K mg base CX0 2 T.call_height.f T.call_height.fd ["shop", "given"] (sp_call_height T) := by
  refine T.call_height.F.ok sc_call_height (fun vs H Q E h => ?_) (fun cdv A outer s H vs Q E hr h => ?_)
  · obtain ⟨x, g, n, b, Own, rfl, _⟩ := h
    rfl
  · obtain ⟨x, g, n, b, Own, rfl, S, w1, hg, k⟩ := h
    refine ⟨_, (pss_cons (ps_set (i := 2) sc_call_height.nd rfl (Or.inl rfl) (pe_ix ix_list (pv 1) pe_int (fun _ _ => rfl)))
          (pss_cons (ps_if (pt_not (pt_val (pe_meth (pv 0) T.Shop.cl T.Shop_has_stack.m (ok_Shop_has_stack T) (hr.mono (by decide)) T.Shop_has_stack.b .nil pass0 (pa_cons (pv 2) pa_nil))))
          (pss_one (ps_ret (pe_lst (pa_cons (pe_glob (v := V.int (-2)) rfl T.NO_SUCH.g ⟨_, rfl⟩) pa_nil))))
          pss_nil)
          (pss_cons (ps_setLc (i := 3) (own := [("i", 6)]) (g := gName 6) (tt := tYes) (te := (tOp (rIxL K) (tFld K (tVar 0) "sheets") (tVar 6))) rfl sc_call_height.nd rfl rfl (sw_true rfl rfl rfl (by decide +kernel)) (pi_list (pe_dget (hu_of hr) (pe_fld (pv 0) rfl) (pv 2) (fun _ _ => rfl))) (blkOk_by (own := [("i", 6)]) (N := N_call_height) (sc := defScope s_call_height) (by decide +kernel)) (fun _ _ _ _ _ => pg_name (i := 6) sc_call_height.nd rfl (Or.inl rfl)) (fun _ _ _ _ _ => pts_nil) (fun _ _ _ _ _ => (pe_ix ix_list (pe_fld (pv 0) (by rfl)) (pv 6) (by exact fun _ _ => rfl))))
          (pss_cons (ps_setLc (i := 4) (own := [("sheet", 7)]) (g := gName 7) (tt := (tB (tFld K (tVar 7) "minus"))) (te := (tFld K (tVar 7) "wide")) rfl sc_call_height.nd rfl rfl (sw_true rfl rfl rfl (by decide +kernel)) (pi_list (pv 3)) (blkOk_by (own := [("sheet", 7)]) (N := N_call_height) (sc := defScope s_call_height) (by decide +kernel)) (fun _ _ _ _ _ => pg_name (i := 7) sc_call_height.nd rfl (Or.inl rfl)) (fun _ _ _ _ _ => pts_one (pt_val (pe_fld (pv 7) (by rfl)))) (fun _ _ _ _ _ => (pe_fld (pv 7) (by rfl))))
          (pss_cons (ps_set (i := 5) sc_call_height.nd rfl (Or.inl rfl) (pe_callB (cr_min rfl) (by rfl) T.b_min (by decide +kernel) (pa_cons (pe_lc (own := [("sheet", 7)]) (g := gName 7) (tt := tYes) (te := (tFld K (tVar 7) "wide")) rfl sc_call_height.nd (pi_list (pv 3)) (blkOk_by (own := [("sheet", 7)]) (N := N_call_height) (sc := defScope s_call_height) (by decide +kernel)) (fun _ _ _ _ _ => pg_name (i := 7) sc_call_height.nd rfl (Or.inl rfl)) (fun _ _ _ _ _ => pts_nil) (fun _ _ _ _ _ => (pe_fld (pv 7) (by rfl)))) pa_nil)))
          (pss_one (ps_ret (pe_lst (pa_cons (pe_op op_sub (pe_callB call_len_seq (by rfl) T.b_len PySem.boot_len (pa_cons (pv 3) pa_nil)) (pe_callB call_len_seq (by rfl) T.b_len PySem.boot_len (pa_cons (pv 4) pa_nil))) (pa_cons (pe_callB (cr_max rfl) (by rfl) T.b_max (by decide +kernel) (pa_cons (pv 4) pa_nil)) (pa_cons (pv 5) pa_nil))))))))))), ?_⟩
    obtain ⟨d, l, dk, as, Z, S'⟩ := id S
    refine ⟨_, rfl, g, _, _, _, rfl, rfl, SqL.of hg, atI_map (i := 0) rfl, ?_⟩
    refine ⟨_, rfl, x, d, _, rfl, S'.obj, F_Shop_not_has_stack, _, rfl, x, n, some b, Own, rfl, S, ?_⟩
    show ∃ k, _
    rcases S'.ents.get n with ⟨e1, _⟩ | ⟨ls, c, e1, e2, hc, hv⟩
    · rw [e1]
      exact ⟨_, rfl, iteT ⟨one_size, fun p np => ans_same k (a := .num (-2)) (by rw [step_height, show b.stacks.getD n none = none from e1]) rfl S (Same.refl _) np⟩⟩
    · rw [e1]
      have l14 := stack_few w1 e2
      have hst := w1.isst n ls e2
      have inb := (w1.ok n ls e2).2
      have cnt := stack_minus hst
      have l3 := stack_long hst
      have hl : LstAt H c ls := (S'.lists _ hc).1
      have dg := DGet.k (k := (Sum.inl (n : Int) : L2.Key)) S'.dic
      rw [hv] at dg
      have la : as.length = b.sheets.length := S'.len
      have sheet : ∀ i ∈ ls, as[i]? = some (as.getD i 0) ∧ ∃ y, b.sheets[i]? = some y ∧ SheetAt T H (as.getD i 0) y := fun i hi => by
        have ey : b.sheets[i]? = some (b.sheets[i]'(inb i hi)) := List.getElem?_eq_getElem (inb i hi)
        obtain ⟨a, ha, hs⟩ := S'.addr (i := i) ey
        have : as.getD i 0 = a := by
          rw [List.getD_eq_getElem?_getD, ha]
          rfl
        rw [this]
        exact ⟨ha, _, ey, hs⟩
      refine ⟨_, rfl, iteF ?_⟩
      -- sheets = [..]
      refine ⟨_, rfl, x, _, d, _, _, rfl, S'.obj, T.Shop.cl, T.Shop_no_stacks, F_Shop_stacks, _, rfl, dk, _, rfl, dg, c, rfl, ⟨_, hl.nats⟩, fun D nD => ?_⟩
      refine lc_list (K := K) (a := c) (xs := (nints ls).map V.int) (fun j H' => Same H H' ∧ H' D = some (.lst (((ls.take j).map fun i => as.getD i 0).map V.ref)))
        ⟨same_upd nD, upd_same⟩ (fun j H' _ ⟨s1, _⟩ => (hl.same s1).nats) ?_ ?_
      · rintro j y H' hy ⟨s1, hD⟩
        obtain ⟨i, ei, rfl⟩ := at_nints hy
        obtain ⟨ha, _⟩ := sheet i (List.mem_of_getElem? ei)
        refine ⟨rfl, yes_k ?_⟩
        refine ⟨_, rfl, x, _, d, _, _, rfl, s1 _ _ S'.obj, T.Shop.cl, T.Shop_no_sheets, F_Shop_sheets, _, rfl, l, _, _, _, rfl, rfl, SqL.of (s1 _ _ S'.lst), atI_map ha, ?_⟩
        refine ⟨_, hD, sz64 (by rw [List.length_map, List.length_map, List.length_take]; omega), fun b' o e4 => ?_, ?_⟩
        · rw [upd_ne (ne_of_none e4 nD)]
          exact s1 _ _ e4
        · rw [upd_same, take_snoc ei, List.map_append, List.map_append]
          rfl
      rintro H1 ⟨s1, hD⟩
      rw [nints_length, List.take_length] at hD
      -- minus_widths = [..]
      refine ⟨_, rfl, D, rfl, ⟨_, SqL.of hD⟩, fun D2 nD2 => ?_⟩
      refine lc_list (K := K) (a := D) (xs := (ls.map fun i => as.getD i 0).map V.ref) (fun j H' => Same H1 H' ∧ LstAt H' D2 (((ls.take j).filter (Kqb2.isMinus b)).map (Kqb2.wide b)))
        ⟨same_upd nD2, upd_same⟩ (fun j H' _ ⟨s2, _⟩ => SqL.of (s2 _ _ hD)) ?_ ?_
      · rintro j y H' hy ⟨s2, hD2⟩
        obtain ⟨a, ea, rfl⟩ := map_at hy
        rw [List.getElem?_map] at ea
        obtain ⟨i, ei, rfl⟩ := Option.map_eq_some_iff.mp ea
        obtain ⟨_, z, ez, da, Ha⟩ := sheet i (List.mem_of_getElem? ei)
        have Ha' := s2 _ _ (s1 _ _ Ha)
        have pre : (ls.take (j + 1)).filter (Kqb2.isMinus b) = (ls.take j).filter (Kqb2.isMinus b) ++ if z.minus = true then [i] else [] := by
          rw [take_snoc ei, List.filter_append]
          congr 1
          rw [List.filter_cons, List.filter_nil, isMinus_at ez]
        refine ⟨rfl, ?_⟩
        refine ⟨_, rfl, _, _, da, _, _, rfl, Ha', T.Sheet.cl, T.Sheet_no_minus, F_Sheet_minus, _, rfl, ifb (fun e => ?_) (fun e => ?_)⟩
        · rw [if_pos e] at pre
          refine ⟨_, rfl, _, _, da, _, _, rfl, Ha', T.Sheet.cl, T.Sheet_no_wide, F_Sheet_wide, ?_⟩
          refine ⟨_, hD2, sz64 ?_, fun b' o e4 => ?_, ?_⟩
          · rw [nints_length, List.length_map]
            have := List.length_filter_le (Kqb2.isMinus b) (ls.take j)
            rw [List.length_take] at this
            omega
          · rw [upd_ne (ne_of_none e4 nD2)]
            exact s2 _ _ e4
          · show upd H' D2 _ D2 = _
            rw [upd_same, pre, List.map_append, nints_append, List.map_append]
            show some (HO.lst (_ ++ [V.int ((z.wide : Nat) : Int)])) = some (HO.lst (_ ++ [V.int ((Kqb2.wide b i : Nat) : Int)]))
            rw [wide_at ez]
        · rw [if_neg (by rw [e]; exact Bool.false_ne_true), List.append_nil] at pre
          refine ⟨s2, ?_⟩
          rw [pre]
          exact hD2
      rintro H2 ⟨s2, hD2⟩
      rw [List.length_map, List.length_map, List.take_length] at hD2
      -- narrowest = min([..])
      refine ⟨_, rfl, D, rfl, ⟨_, SqL.of (s2 _ _ hD)⟩, fun D3 nD3 => ?_⟩
      refine lc_list (K := K) (a := D) (xs := (ls.map fun i => as.getD i 0).map V.ref) (fun j H' => Same H2 H' ∧ LstAt H' D3 ((ls.take j).map (Kqb2.wide b)))
        ⟨same_upd nD3, upd_same⟩ (fun j H' _ ⟨s3, _⟩ => SqL.of (s3 _ _ (s2 _ _ hD))) ?_ ?_
      · rintro j y H' hy ⟨s3, hD3⟩
        obtain ⟨a, ea, rfl⟩ := map_at hy
        rw [List.getElem?_map] at ea
        obtain ⟨i, ei, rfl⟩ := Option.map_eq_some_iff.mp ea
        obtain ⟨_, z, ez, da, Ha⟩ := sheet i (List.mem_of_getElem? ei)
        have Ha' := s3 _ _ (s2 _ _ (s1 _ _ Ha))
        refine ⟨rfl, yes_k ?_⟩
        refine ⟨_, rfl, _, _, da, _, _, rfl, Ha', T.Sheet.cl, T.Sheet_no_wide, F_Sheet_wide, ?_⟩
        refine ⟨_, hD3, sz64 ?_, fun b' o e4 => ?_, ?_⟩
        · rw [nints_length, List.length_map, List.length_take]
          omega
        · rw [upd_ne (ne_of_none e4 nD3)]
          exact s3 _ _ e4
        · show upd H' D3 _ D3 = _
          rw [upd_same, take_snoc ei, List.map_append, nints_append, List.map_append]
          show some (HO.lst (_ ++ [V.int ((z.wide : Nat) : Int)])) = some (HO.lst (_ ++ [V.int ((Kqb2.wide b i : Nat) : Int)]))
          rw [wide_at ez]
      rintro H3 ⟨s3, hD3⟩
      rw [List.length_map, List.length_map, List.take_length] at hD3
      refine ⟨D3, _, rfl, hD3.nats, (by rw [List.length_map, List.length_map]; omega), fun mn mn1 mn2 => ?_⟩
      have emn := list_min mn1 mn2 fun i hi => by
        obtain ⟨_, z, ez, _⟩ := sheet i hi
        rw [wide_at ez]
        exact (w1.wide z (List.mem_of_getElem? ez)).2
      subst emn
      have s23 := s2.trans s3
      have hD2' : LstAt H3 D2 _ := s3 _ _ hD2
      refine ⟨_, rfl, _, _, rfl, .inl (SqL.of (s23 _ _ hD)), _, rfl, _, _, rfl, .inl hD2'.nats, _, _, rfl, rfl, ?_⟩
      refine ⟨_, rfl, D2, _, rfl, hD2'.nats, (by rw [List.length_map, List.length_map]; omega), fun mx mx1 mx2 => ?_⟩
      have emx := list_max mx1 mx2
      subst emx
      refine ⟨_, rfl, three_size, fun p np => ?_⟩
      have e3 : (((((ls.map fun i => as.getD i 0).map V.ref).length : Nat) : Int) - ((((nints ((ls.filter (Kqb2.isMinus b)).map (Kqb2.wide b))).map V.int).length : Nat) : Int)) = ((ls.length / 2 : Nat) : Int) := by
        rw [nints_length, List.length_map, List.length_map, List.length_map, cnt]
        unfold Kqb2.stack at hst
        simp only [Bool.and_eq_true, decide_eq_true_eq] at hst
        have := hst.1.1.1
        omega
      have := ans_same k (a := .some_ (ls.length / 2) [(ls.filter (Kqb2.isMinus b)).foldl (fun m i => max m (Kqb2.wide b i)) 0, ls.foldl (fun m i => min m (Kqb2.wide b i)) 1000]) (by rw [step_height, show b.stacks.getD n none = some ls from e1]) rfl S ((s1.trans s2).trans s3) np
      dsimp only
      rw [e3]
      exact this
end
section
variable {P : Program} {w : World} {K : PySem.W.Frag} {mg : Str → Option Value} {base : Heap}
/-! ### a written dict of 18 to 32 pairs -/
section
variable {prog : Program} {w : World} {KT : Type} [DecidableEq KT] {knd : KeyKind prog w KT} {A : Around} {E : Value → Shared → Prop} {s : Shared}
/-- a key that is new is put behind the others -/
theorem put_fresh {d : Addr} {old : List (KT × Value)} {k : KT} {key v : Value} {Q : Unit → Shared → Prop} (hk : knd.is k key = true) (hd : s.heap.DictOf knd d old) (fresh : k ∉ old.map (·.1)) (few : old.length ≤ 1000)
    (go : ∀ h', h'.DictOf knd d (old ++ [(k, v)]) → Heap.SameBut d s.heap h' → Q () { s with heap := h' }) : wpAny (model prog w) A (dictPut d (knd.hash k) key v) Q E s := by
  obtain ⟨ob, ents, ep, at_, exact_, data, keysOk, paired, apart⟩ := hd
  have lens : ents.size = old.length := by
    rw [← paired.length]
    simp
  have room : ents.size ≤ sizeLine := Nat.le_trans (show ents.size ≤ 1000 by omega) (by decide)
  have miss : (ents.findIdx? fun e => knd.is k e.key) = none := by
    have e1 := paired.findIdx k
    have e2 : (old.findIdx? fun kv => decide (kv.1 = k)) = none := by
      rw [List.findIdx?_eq_none_iff]
      intro kv hkv
      exact decide_eq_false fun q => fresh (List.mem_map.mpr ⟨kv, hkv, q⟩)
    rw [e2] at e1
    obtain ⟨l⟩ := ents
    simpa using e1
  unfold dictPut
  refine wpAny_bind (wpAny_dictFind_of hk at_ data keysOk ?_)
  rw [miss]
  refine wpAny_updateDictKeys (hz := room) at_ data (go _ ⟨_, ents.push ⟨knd.hash k, key, v⟩, ep + 1, Heap.get?_update_self _ at_ (Obj.isFreed_of_dict (Obj.data_mapDictKeys data _)), exact_.mapDictKeys _, Obj.data_mapDictKeys data _, keysOk.push hk _, ?_, ?_⟩ (Heap.SameBut.update ..))
  · have more := paired.append hk (knd.hash k) v
    obtain ⟨l⟩ := ents
    simpa using more
  · rw [List.map_append]
    refine List.nodup_append.mpr ⟨apart, by simp, fun x hx y hy q => fresh ?_⟩
    have : y = k := by simpa using hy
    rw [← this, ← q]
    exact hx
/-- one dict's entries, all of new keys, are put behind another's -/
theorem merge_fresh {d o : Addr} {old more : List (KT × Value)} {Q : Unit → Shared → Prop} (ne : d ≠ o) (own : (o == sysModules) = false) (some_ : old ≠ []) (hd : s.heap.DictOf knd d old) (ho : s.heap.DictOf knd o more)
    (apart : ((old ++ more).map (·.1)).Nodup) (few : (old ++ more).length ≤ 1000) (go : ∀ h', h'.DictOf knd d (old ++ more) → Heap.SameBut d s.heap h' → Q () { s with heap := h' }) :
    wpAny (model prog w) A (mergeMapping d (.ref o) false) Q E s := by
  obtain ⟨od, ed, epd, atD, _, dataD, _, pairD, _⟩ := id hd
  obtain ⟨oo, eo, epo, atO, _, dataO, keysO, pairO, _⟩ := id ho
  have size : eo.size = more.length := by
    rw [← pairO.length]
    simp
  have full : ¬ ed.isEmpty = true := fun q => by
    have e1 := pairD.length
    rw [Array.isEmpty_iff.mp q] at e1
    exact some_ (List.length_eq_zero_iff.mp e1.symm)
  unfold mergeMapping
  refine wpAny_bind (wpAny_isInstance ho.typeIs isSubtype_dict_dict ?_)
  simp only [if_true]
  refine wpAny_bind (wpAny_specialOf ho.typeIs F.slot_dict_iter.lookup ?_)
  simp only [beq_self_eq_true]
  refine wpAny_bind (wpAny_pure ?_)
  dsimp only
  rw [if_neg (by rw [own]; exact Bool.false_ne_true)]
  refine wpAny_bind (wpAny_dictEntries atD dataD ?_)
  rw [if_neg full]
  refine wpAny_bind (wpAny_dictEntries atO dataO (wpAny_bind (wpAny_dictEpoch atO dataO (wpAny_bind ?_))))
  -- what is left to be put, the part that is there
  refine wpAny_forIn_list _ (fun left _ s' => ∃ n h', s' = { s with heap := h' } ∧ n ≤ more.length ∧ left = (List.range more.length).drop n ∧ h'.DictOf knd d (old ++ more.take n) ∧ Heap.SameBut d s.heap h')
    _ (fun j left u s' I => ?_) (fun u s' I => ?_) _ _ ⟨0, s.heap, rfl, Nat.zero_le _, by rw [size]; rfl, by rw [List.take_zero, List.append_nil]; exact hd, Heap.SameBut.refl _ _⟩
  · obtain ⟨n, h', rfl, hn, hl, hd', sb⟩ := I
    have lt : n < more.length := by
      have e1 := congrArg List.length hl
      rw [List.length_cons, List.length_drop, List.length_range] at e1
      omega
    have hl2 : j :: left = n :: (List.range more.length).drop (n + 1) := by
      rw [hl, List.drop_eq_getElem_cons (by rw [List.length_range]; exact lt), List.getElem_range]
    obtain ⟨rfl, rfl⟩ := List.cons.inj hl2
    have atO' := (sb.2 o ne.symm).trans atO
    have lt2 : j < eo.size := by omega
    refine wpAny_bind (wpAny_dictEntries atO' dataO ?_)
    rw [Array.getElem?_eq_getElem lt2]
    dsimp only
    obtain ⟨hk, hv⟩ := pairO.get? (e := eo[j]) (k := more[j].1) (v := more[j].2) (by simp [lt2]) (List.getElem?_eq_getElem lt)
    obtain ⟨k2, hk2, hh⟩ := keysO eo[j] (Array.getElem_mem lt2)
    have : k2 = more[j].1 := knd.inj _ _ _ hk2 hk
    subst this
    refine wpAny_bind (wpAny_holding ?_)
    rw [if_neg Bool.false_ne_true, hh, hv]
    have cut : old ++ more = (old ++ more.take j) ++ more[j] :: more.drop (j + 1) := by
      rw [List.append_assoc, ← List.drop_eq_getElem_cons lt, List.take_append_drop]
    refine put_fresh hk hd' (fun q => ?_) ?_ fun h2 hd2 sb2 => ?_
    · rw [cut, List.map_append, List.map_cons] at apart
      exact (List.nodup_append.mp apart).2.2 _ q _ List.mem_cons_self rfl
    · rw [cut, List.length_append] at few
      omega
    · have atO2 := (sb2.2 o ne.symm).trans atO'
      refine wpAny_bind (wpAny_dictEpoch atO2 dataO ?_)
      rw [if_neg (by simp)]
      refine wpAny_pure ⟨j + 1, h2, rfl, lt, rfl, ?_, sb.trans sb2⟩
      have e : old ++ more.take (j + 1) = (old ++ more.take j) ++ [(more[j].1, more[j].2)] := by
        rw [List.take_add_one, List.getElem?_eq_getElem lt, List.append_assoc]
        rfl
      rw [e]
      exact hd2
  · obtain ⟨n, h', rfl, hn, hl, hd', sb⟩ := I
    have : n = more.length := by
      have e1 := congrArg List.length hl
      rw [List.length_nil, List.length_drop, List.length_range] at e1
      omega
    rw [this, List.take_length] at hd'
    exact wpAny_pure (go h' hd' sb)
end
theorem gather (m : Option Addr) (f : (Option (Sem Value) × Sem Value) → (Option Addr × List (Sem Value × Sem Value)) → Sem (ForInStep (Option Addr × List (Sem Value × Sem Value))))
    (hf : ∀ (p : Sem Value × Sem Value) (run : List (Sem Value × Sem Value)), run.length + 1 < 17 → f (some p.1, p.2) (m, run) = pure (.yield (m, run ++ [p]))) (tail : List (Option (Sem Value) × Sem Value)) :
    ∀ (items run : List (Sem Value × Sem Value)), run.length + items.length < 17 → forIn ((items.map fun p => (some p.1, p.2)) ++ tail) (m, run) f = forIn tail (m, run ++ items) f
  | [], run, _ => by simp
  | p :: rest, run, h => by
    rw [List.map_cons, List.cons_append, List.forIn_cons, hf p run (by simp at h; omega), pure_bind]
    have := gather m f hf tail rest (run ++ [p]) (by simp at h ⊢; omega)
    simpa using this
/-- the pairs from the eighteenth on are a dict of their own, which is put behind the first ones -/
def putBehind (a : Addr) (rest : List (Sem Value × Sem Value)) : Sem Value := do
  let b ← holding [Value.ref a] (subDict rest)
  Sem.onRaise (holding [Value.ref a, Value.ref b] (mergeMapping a (Value.ref b) false)) fun e => do
    let _ ← holding [Value.ref a, e] (runValue (.builtin "proto.let_go" {}))
  return Value.ref a
theorem dictDisplay_long (p16 rest : List (Sem Value × Sem Value)) (p : Sem Value × Sem Value) (h16 : p16.length = 16) (h0 : rest ≠ []) (hr : rest.length < 17) :
    dictDisplay ((p16 ++ p :: rest).map fun p => (some p.1, p.2)) = (do
      let a ← subDict (p16 ++ [p])
      putBehind a rest) := by
  unfold dictDisplay
  dsimp only
  rw [List.map_append, gather none _ (fun p run h => by
    have hne : ((run ++ [(p.1, p.2)]).length == 17) = false := by simp; omega
    simp only [hne, Bool.false_eq_true, if_false]) _ p16 [] (by simp [h16])]
  simp only [List.nil_append, List.map_cons, List.forIn_cons]
  have e17 : ((p16 ++ [(p.1, p.2)]).length == 17) = true := by simp [h16]
  have ne17 : (p16 ++ [(p.1, p.2)]).isEmpty = false := by simp
  rw [if_pos e17, if_neg (by rw [ne17]; exact Bool.false_ne_true)]
  simp only [bind_assoc, pure_bind]
  refine congrArg (subDict (p16 ++ [p]) >>= ·) (funext fun d => ?_)
  unfold putBehind
  rw [← List.append_nil (rest.map _), gather (some d) _ (fun p run h => by
    have hne : ((run ++ [(p.1, p.2)]).length == 17) = false := by simp; omega
    simp only [hne, Bool.false_eq_true, if_false]) [] rest [] (by simpa using hr)]
  rw [List.forIn_nil]
  simp [h0]
theorem dictDisplay_two (l1 rest : List (Sem Value × Sem Value)) (h17 : l1.length = 17) (h0 : rest ≠ []) (hr : rest.length < 17) :
    dictDisplay ((l1 ++ rest).map fun p => (some p.1, p.2)) = (do
      let a ← subDict l1
      putBehind a rest) := by
  have hne : l1 ≠ [] := fun e => by
    rw [e] at h17
    cases h17
  obtain ⟨i, p, rfl⟩ : ∃ i p, l1 = i ++ [p] := ⟨l1.dropLast, l1.getLast hne, (List.dropLast_concat_getLast hne).symm⟩
  have := dictDisplay_long i rest p (by rw [List.length_append] at h17; simpa using h17) h0 hr
  rw [List.append_assoc]
  exact this
/-- written pairs of ints and values that are known, none of which changes anything -/
inductive Cs (X : Cx) : List (Option Expr) → List Expr → List (L2.Key × V) → Prop
  | nil : Cs X [] [] []
  | cons {k v : Expr} {ks : List (Option Expr)} {vs : List Expr} {i : Int} {y : V} {kvs : List (L2.Key × V)} : PE X k (tC (.int i)) → PE X v (tC y) → Cs X ks vs kvs → Cs X (some k :: ks) (v :: vs) ((Sum.inl i, y) :: kvs)
theorem cs_nil {X : Cx} : Cs X [] [] [] := .nil
theorem cs_cons {X : Cx} {k v : Expr} {ks : List (Option Expr)} {vs : List Expr} {i : Int} {y : V} {kvs : List (L2.Key × V)} (h1 : PE X k (tC (.int i))) (h2 : PE X v (tC y)) (h3 : Cs X ks vs kvs) : Cs X (some k :: ks) (v :: vs) ((Sum.inl i, y) :: kvs) := .cons h1 h2 h3
theorem Cs.lengths {X : Cx} {ks : List (Option Expr)} {vs : List Expr} {kvs : List (L2.Key × V)} (h : Cs X ks vs kvs) : ks.length = kvs.length ∧ vs.length = kvs.length := by
  induction h with
  | nil => exact ⟨rfl, rfl⟩
  | cons _ _ _ ih => exact ⟨by rw [List.length_cons, List.length_cons, ih.1], by rw [List.length_cons, List.length_cons, ih.2]⟩
theorem Cs.split {X : Cx} (env : Env) (pos : Pos) {ks : List (Option Expr)} {vs : List Expr} {kvs : List (L2.Key × V)} (h : Cs X ks vs kvs) : ∀ n, n ≤ kvs.length → ∃ k1 v1 k2 v2, Cs X k1 v1 (kvs.take n) ∧ Cs X k2 v2 (kvs.drop n) ∧ pairTrees ks vs env pos = pairTrees k1 v1 env pos ++ pairTrees k2 v2 env pos := by
  induction h with
  | nil => intro n hn; exact ⟨[], [], [], [], by rw [List.take_nil]; exact .nil, by rw [List.drop_nil]; exact .nil, rfl⟩
  | @cons k v ks vs i y kvs h1 h2 h3 ih =>
    intro n hn
    cases n with
    | zero => exact ⟨[], [], _, _, .nil, .cons h1 h2 h3, rfl⟩
    | succ n =>
      obtain ⟨k1, v1, k2, v2, a, b, c⟩ := ih n (by rw [List.length_cons] at hn; omega)
      exact ⟨some k :: k1, v :: v1, k2, v2, .cons h1 h2 a, b, by rw [pairTrees, pairTrees, c]; rfl⟩
theorem Cs.trees {X : Cx} (env : Env) (pos : Pos) {ks : List (Option Expr)} {vs : List Expr} {kvs : List (L2.Key × V)} (h : Cs X ks vs kvs) : (pairTrees ks vs env pos).length = kvs.length := by
  induction h with
  | nil => rfl
  | cons _ _ _ ih => rw [pairTrees, List.length_cons, List.length_cons, ih]
section
variable {X : Cx} {pins : List (Addr × Obj)} {σ : L2.St} {H : Hp} {pos : Pos}
theorem Cs.run {ks : List (Option Expr)} {vs : List Expr} {kvs : List (L2.Key × V)} (h : Cs X ks vs kvs) : ∀ {s : Shared}, Inv X pins σ H s →
    wpAny (model X.prog X.w) X.A (evalPairs (pairTrees ks vs X.env pos)) (fun ws s' => Inv X pins σ H s' ∧ VV (kvs.map fun kv => (kV kv.1, kv.2)) ws) X.xe s := by
  induction h with
  | nil => intro s I; exact pairTrees_nil_walk ⟨I, .nil⟩
  | @cons k v ks vs i y kvs h1 h2 h3 ih =>
    intro s I
    refine pairTrees_cons_walk (thn (h1.run pins s σ H (fun a H' => a = .int i ∧ H' = H) I ⟨rfl, rfl⟩) fun u s1 ⟨x, H1, I1, r1, e1, e2⟩ => ?_)
    subst e1 e2
    refine thn (h2.run pins s1 σ _ (fun a H' => a = y ∧ H' = H1) I1 ⟨rfl, rfl⟩) fun u2 s2 ⟨x2, H2, I2, r2, e3, e4⟩ => ?_
    subst e3 e4
    exact thn (ih I2) fun ws s3 ⟨I3, q⟩ => ⟨I3, .cons ⟨r1, r2⟩ q⟩
theorem Cs.put {ks : List (Option Expr)} {vs : List Expr} {kvs : List (L2.Key × V)} (h : Cs X ks vs kvs) : ∀ {s : Shared} {H : Hp} {d : Addr} {acc : List (L2.Key × V)} {Q : PUnit → Shared → Prop}, Inv X pins σ H s → H d = some (.dK acc) → acc.length + kvs.length ≤ 1000 →
    (∀ s', Inv X pins σ (upd H d (.dK (mergeK acc kvs))) s' → Q PUnit.unit s') →
    wpAny (model X.prog X.w) X.A (forIn (pairTrees ks vs X.env pos) PUnit.unit fun (p : Sem Value × Sem Value) (_ : PUnit) => (do
      let key ← p.1
      let val ← holding [key] p.2
      holding [key, val] (dictSet d key val)
      return ForInStep.yield PUnit.unit : Sem (ForInStep PUnit))) Q X.xe s := by
  induction h with
  | nil =>
    intro s H d acc Q I hd hz hQ
    show wpAny _ _ (forIn ([] : List (Sem Value × Sem Value)) PUnit.unit _) _ _ _
    rw [List.forIn_nil]
    refine wpAny_pure (hQ s ?_)
    have : upd H d (.dK (mergeK acc [])) = H := by
      funext b
      by_cases c : b = d
      · rw [c, upd_same]
        exact hd.symm
      · exact upd_ne c
    rw [this]
    exact I
  | @cons k v ks vs i y kvs h1 h2 h3 ih =>
    intro s H d acc Q I hd hz hQ
    rw [List.length_cons] at hz
    rw [pairTrees, List.forIn_cons]
    refine wpAny_bind (wpAny_bind ?_)
    refine thn (h1.run pins s σ H (fun a H' => a = .int i ∧ H' = H) I ⟨rfl, rfl⟩) fun u s1 ⟨x, H1, I1, r1, e1, e2⟩ => ?_
    subst e1 e2
    refine wpAny_bind (wpAny_holding (wpAny_bind ?_))
    refine thn (h2.run pins s1 σ _ (fun a H' => a = y ∧ H' = H1) I1 ⟨rfl, rfl⟩) fun u2 s2 ⟨x2, H2, I2, r2, e3, e4⟩ => ?_
    subst e3 e4
    refine wpAny_bind (wpAny_standAt (wpAny_pure ?_))
    obtain ⟨z, hs, vs0, r0, dd⟩ := dk_of I2.hok hd
    have hz0 : vs0.length ≤ sizeLine := by rw [← r0.length]; exact z
    refine wpAny_bind (wpAny_holding (wpAny_dictSet_pairs (knd := mixKind X.prog X.w) (k := Sum.inl i) (hsz := hz0) (kV_is (k := Sum.inl i) r1) dd fun h' dd' sb => ?_))
    refine wpAny_pure ?_
    have he : ∃ q, h'.get? d = some q := let ⟨q, _, _, hq, _⟩ := dd'; ⟨q, hq⟩
    have hl : (putK acc (Sum.inl i : L2.Key) x2).length ≤ acc.length + 1 := length_putK _ _ _
    have I3 := d_write (t' := s2.toks + 1) I2 (by rw [hd]; exact True.intro) sb he (dk_new (H' := upd H2 d (.dK (putK acc (Sum.inl i : L2.Key) x2))) (Nat.le_trans (show _ ≤ 1000 by omega) (by decide)) hs (r0.put (Sum.inl i) r2) dd')
    refine ih I3 upd_same (by omega) fun s' I' => hQ s' ?_
    rw [upd_upd] at I'
    exact I'
end
theorem merge_new : ∀ (more acc : List (L2.Key × V)), (∀ k ∈ more.map (·.1), k ∉ acc.map (·.1)) → (more.map (·.1)).Nodup → mergeK acc more = acc ++ more
  | [], acc, _, _ => (List.append_nil acc).symm
  | kv :: more, acc, h, nd => by
    have nd' := List.nodup_cons.mp nd
    have e : putK acc kv.1 kv.2 = acc ++ [kv] := by
      unfold putK
      rw [if_neg]
      intro q
      obtain ⟨y, hy, e⟩ := List.any_eq_true.mp q
      have e := of_decide_eq_true e
      exact h kv.1 List.mem_cons_self (List.mem_map.mpr ⟨y, hy, e⟩)
    show mergeK (putK acc kv.1 kv.2) more = _
    rw [e, merge_new more (acc ++ [kv]) (fun k hk hm => ?_) nd'.2, List.append_assoc]
    · rfl
    · rw [List.map_append] at hm
      rcases List.mem_append.mp hm with hm | hm
      · exact h k (List.mem_cons_of_mem _ hk) hm
      · have : k = kv.1 := by simpa using hm
        exact nd'.1 (show kv.1 ∈ _ from this ▸ hk)
def tDispL (kvs : List (L2.Key × V)) : TE := fun _ H Q => ∀ (p q : Addr) (H' : Hp), H p = none → H q = none → p ≠ q → (∀ b, b ≠ p → b ≠ q → H' b = H b) → H' p = some (.dK kvs) → Q (.ref p) H'
theorem pe_dispL {X : Cx} {pos : Pos} {keys : List (Option Expr)} {values : List Expr} {kvs : List (L2.Key × V)} (h : Cs X keys values kvs) (hall : keys.all (·.isSome) = true) (hl : keys.length = values.length)
    (h18 : 17 < kvs.length) (h32 : kvs.length ≤ 32) (nd : (kvs.map (·.1)).Nodup) : PE X (.Dict keys values pos) (tDispL kvs) := by
  have whole := List.take_append_drop 17 kvs
  have ndw := nd
  rw [← whole, List.map_append] at ndw
  obtain ⟨n1, n2, n3⟩ := List.nodup_append.mp ndw
  have m1 : mergeK [] (kvs.take 17) = kvs.take 17 := merge_new _ [] (fun k _ h => by simp at h) n1
  have m2 : mergeK [] (kvs.drop 17) = kvs.drop 17 := merge_new _ [] (fun k _ h => by simp at h) n2
  have m3 : mergeK (kvs.take 17) (kvs.drop 17) = kvs := (merge_new _ _ (fun k hk hm => n3 k hm k hk rfl) n2).trans whole
  refine ⟨fun pins s σ H Q I q => ?_⟩
  obtain ⟨k1, v1, k2, v2, c1, c2, et⟩ := h.split X.env pos 17 (by omega)
  have l1 := c1.trees X.env pos
  have l2 := c2.trees X.env pos
  rw [List.length_take] at l1
  rw [List.length_drop] at l2
  rw [arm_eval_Dict, zip_pairTrees keys values X.env pos hall hl, et, dictDisplay_two _ _ (by omega) (fun e => by rw [e, List.length_nil] at l2; omega) (by omega)]
  refine wpAny_bind (wpAny_standAt (wpAny_bind ?_))
  have hn := I.hok.fresh (Nat.le_refl s.heap.objs.size)
  have I1 := I.laid (a := s.heap.objs.size) (o := .dK []) (h' := s.heap.push { cls := .type "dict", data := .dict #[] }) (t' := s.toks) (fun _ _ q => Heap.get?_push_of_some _ q) (Nat.le_refl _) (dk_empty s.heap I.big)
  unfold subDict
  refine wpAny_bind (wpAny_alloc ?_)
  refine wpAny_bind (wpAny_holding ?_)
  rw [if_neg (by omega)]
  refine wpAny_bind (wpAny_rule ?_)
  refine wpAny_bind (c1.put (acc := []) I1 upd_same (by rw [List.length_take, List.length_nil]; omega) fun s1 I2 => ?_)
  rw [upd_upd, m1] at I2
  refine wpAny_pure (wpAny_pure ?_)
  unfold putBehind subDict
  refine wpAny_bind (wpAny_holding (wpAny_bind (wpAny_alloc ?_)))
  have hn2 := I2.hok.fresh (Nat.le_refl s1.heap.objs.size)
  have npq : s.heap.objs.size ≠ s1.heap.objs.size := ne_of_none (by rw [upd_same]) hn2
  have hn3 : H s1.heap.objs.size = none := by
    rw [upd_ne npq.symm] at hn2
    exact hn2
  have I3 := I2.laid (a := s1.heap.objs.size) (o := .dK []) (h' := s1.heap.push { cls := .type "dict", data := .dict #[] }) (t' := s1.toks) (fun _ _ q => Heap.get?_push_of_some _ q) (Nat.le_refl _) (dk_empty s1.heap I2.big)
  refine wpAny_bind (wpAny_holding ?_)
  rw [if_pos (by omega)]
  refine wpAny_bind (thn (c2.run I3) fun ws s2 ⟨I4, vv⟩ => ?_)
  obtain ⟨rs, cr, rk⟩ := carries_of (P := X.prog) (w := X.w) vv
  obtain ⟨z2, hd2, vs2, r2, dd2⟩ := dk_of I4.hok upd_same
  cases r2
  have lrs : rs.length ≤ 1000 := by
    rw [← rk.length, List.length_drop]
    omega
  refine wpAny_holding ?_
  refine wpAny_bind (wpAny_storeAll (knd := mixKind X.prog X.w) ws rs [] s2 _ cr dd2 (Nat.le_trans (show 0 + rs.length ≤ 1000 by omega) (by decide)) fun h' dd' sb => wpAny_pure (wpAny_pure ?_))
  have he : ∃ q, h'.get? s1.heap.objs.size = some q := let ⟨q, _, _, hq, _⟩ := dd'; ⟨q, hq⟩
  have len2 : (kvs.drop 17).length ≤ 1000 := by
    rw [List.length_drop]
    omega
  have rel2 := rk.merge .nil
  rw [m2] at rel2
  have I5 := d_write (t' := s2.toks + ws.length) I4 (by rw [upd_same]; exact True.intro) sb he (dk_new (H' := upd (upd (upd H s.heap.objs.size (.dK (kvs.take 17))) s1.heap.objs.size (.dK [])) s1.heap.objs.size (.dK (kvs.drop 17))) (Nat.le_trans len2 (by decide)) hd2 rel2 dd')
  rw [upd_upd] at I5
  refine wpAny_bind (wpAny_onRaise (wpAny_holding ?_))
  obtain ⟨z6, hd6, vs6, r6, dd6⟩ := dk_of I5.hok (a := s.heap.objs.size) (by rw [upd_ne npq]; exact upd_same)
  obtain ⟨z7, hd7, vs7, r7, dd7⟩ := dk_of I5.hok (a := s1.heap.objs.size) upd_same
  have k6 := r6.keys
  have k7 := r7.keys
  have l6 := r6.length
  have l7 := r7.length
  rw [List.length_take] at l6
  rw [List.length_drop] at l7
  have apart : ((vs6 ++ vs7).map (·.1)).Nodup := by
    rw [List.map_append, ← k6, ← k7]
    exact ndw
  have rel3 := KV.merge r7 r6
  rw [m3, merged_append_of_fresh vs6 vs7 apart] at rel3
  refine merge_fresh (knd := mixKind X.prog X.w) npq hd7 (fun e => ?_) dd6 dd7 apart ?_ fun h8 dd8 sb8 => ?_
  · rw [e, List.length_nil] at l6
    omega
  · rw [List.length_append]
    omega
  · have he8 : ∃ q, h8.get? s.heap.objs.size = some q := let ⟨q, _, _, hq, _⟩ := dd8; ⟨q, hq⟩
    have I6 := d_write (t' := s2.toks + ws.length) I5 (by rw [upd_ne npq, upd_same]; exact True.intro) sb8 he8 (dk_new (H' := upd (upd (upd H s.heap.objs.size (.dK (kvs.take 17))) s1.heap.objs.size (.dK (kvs.drop 17))) s.heap.objs.size (.dK kvs)) (Nat.le_trans (show kvs.length ≤ 1000 by omega) (by decide)) hd6 rel3 dd8)
    refine wpAny_pure ⟨.ref s.heap.objs.size, _, I6, rfl, q _ s1.heap.objs.size _ hn hn3 npq (fun b h1 h2 => ?_) upd_same⟩
    rw [upd_ne h1, upd_ne h2, upd_ne h1]
end
section
variable {P : Program} {w : World} {K : PySem.W.Frag} {mg : Str → Option Value} {base : Heap}
open Kqb2 (Bench)
/-! ### the dict of what answers -/
def HK (T : Txt K mg) : List (L2.Key × V) := [(Sum.inl 0, .ref T.call_start.f), (Sum.inl 1, .ref T.call_plus.f), (Sum.inl 2, .ref T.call_minus.f), (Sum.inl 3, .ref T.call_trim.f), (Sum.inl 4, .ref T.call_fit.f), (Sum.inl 5, .ref T.call_over.f), (Sum.inl 6, .ref T.call_under.f), (Sum.inl 7, .ref T.call_order.f), (Sum.inl 8, .ref T.call_could.f), (Sum.inl 9, .ref T.call_need.f), (Sum.inl 10, .ref T.call_press.f), (Sum.inl 11, .ref T.call_take.f), (Sum.inl 12, .ref T.call_swap.f), (Sum.inl 13, .ref T.call_most.f), (Sum.inl 14, .ref T.call_loose.f), (Sum.inl 15, .ref T.call_stack.f), (Sum.inl 16, .ref T.call_height.f), (Sum.inl 17, .ref T.call_sheet.f), (Sum.inl 18, .ref T.call_check.f), (Sum.inl 19, .ref T.call_state.f)]
theorem HK_keys (T : Txt K mg) : (HK T).map (·.1) = (List.range 20).map fun n : Nat => (Sum.inl (n : Int) : L2.Key) := rfl
theorem HK_nodup (T : Txt K mg) : ((HK T).map (·.1)).Nodup := by
  rw [HK_keys]
  exact List.pairwise_map.mpr (List.nodup_range.imp fun {a b} h e => h (by
    have := Sum.inl.inj e
    omega))
def sp_handlers (T : Txt K mg) : Sp := fun vs H Q _ => vs = [] ∧ ∀ H' p, Same H H' → H p = none → H' p = some (.dK (HK T)) → Q (.ref p) H'
theorem ok_handlers_by_number (T : Txt K mg) : FnOk P w K mg base CX0 1 T.handlers_by_number.f T.handlers_by_number.fd [] (sp_handlers T) := by
  refine T.handlers_by_number.F.ok sc_handlers_by_number (fun vs H Q E h => ?_) (fun cdv A outer s H vs Q E hr h => ?_)
  · obtain ⟨rfl, _⟩ := h
    rfl
  · obtain ⟨rfl, k⟩ := h
    refine ⟨_, (pss_one (ps_ret (pe_dispL (cs_cons (pe_glob (v := V.int (0)) rfl T.START.g ⟨_, rfl⟩) (pe_glob (v := V.ref T.call_start.f) rfl T.call_start.g rfl) (cs_cons pe_int (pe_glob (v := V.ref T.call_plus.f) rfl T.call_plus.g rfl) (cs_cons pe_int (pe_glob (v := V.ref T.call_minus.f) rfl T.call_minus.g rfl) (cs_cons pe_int (pe_glob (v := V.ref T.call_trim.f) rfl T.call_trim.g rfl) (cs_cons pe_int (pe_glob (v := V.ref T.call_fit.f) rfl T.call_fit.g rfl) (cs_cons pe_int (pe_glob (v := V.ref T.call_over.f) rfl T.call_over.g rfl) (cs_cons pe_int (pe_glob (v := V.ref T.call_under.f) rfl T.call_under.g rfl) (cs_cons pe_int (pe_glob (v := V.ref T.call_order.f) rfl T.call_order.g rfl) (cs_cons pe_int (pe_glob (v := V.ref T.call_could.f) rfl T.call_could.g rfl) (cs_cons pe_int (pe_glob (v := V.ref T.call_need.f) rfl T.call_need.g rfl) (cs_cons pe_int (pe_glob (v := V.ref T.call_press.f) rfl T.call_press.g rfl) (cs_cons pe_int (pe_glob (v := V.ref T.call_take.f) rfl T.call_take.g rfl) (cs_cons pe_int (pe_glob (v := V.ref T.call_swap.f) rfl T.call_swap.g rfl) (cs_cons pe_int (pe_glob (v := V.ref T.call_most.f) rfl T.call_most.g rfl) (cs_cons pe_int (pe_glob (v := V.ref T.call_loose.f) rfl T.call_loose.g rfl) (cs_cons pe_int (pe_glob (v := V.ref T.call_stack.f) rfl T.call_stack.g rfl) (cs_cons pe_int (pe_glob (v := V.ref T.call_height.f) rfl T.call_height.g rfl) (cs_cons pe_int (pe_glob (v := V.ref T.call_sheet.f) rfl T.call_sheet.g rfl) (cs_cons pe_int (pe_glob (v := V.ref T.call_check.f) rfl T.call_check.g rfl) (cs_cons pe_int (pe_glob (v := V.ref T.call_state.f) rfl T.call_state.g rfl) cs_nil)))))))))))))))))))) (by rfl) (by rfl) (by show 17 < 20; decide) (by show 20 ≤ 32; decide) (HK_nodup T)))), ?_⟩
    show tDispL (HK T) _ _ _
    refine fun p q H' hp hq npq keep hH => k H' p (fun b o e => ?_) hp hH
    rw [keep b (ne_of_none e hp) (ne_of_none e hq)]
    exact e
theorem given_nums {H0 H : Hp} {g : Addr} {l : List Nat} (h : GivenAt H0 H g (nints l) []) : LstAt H g l := by
  obtain ⟨as, h1, h2, _⟩ := h
  have : as = [] := List.eq_nil_of_length_eq_zero h2
  subst this
  rw [List.map_nil, List.append_nil] at h1
  exact h1
theorem given_one {H0 H : Hp} {g : Addr} {l : List Nat} (h : GivenAt H0 H g [] [nints l]) : Given1 H g l := by
  obtain ⟨as, h1, h2, h3⟩ := h
  match as, h2 with
  | [a], _ => exact ⟨a, h1, (h3 0 a _ rfl rfl).1⟩
theorem given_two {H0 H : Hp} {g : Addr} {l m : List Nat} (h : GivenAt H0 H g [] [nints l, nints m]) : Given2 H g l m := by
  obtain ⟨as, h1, h2, h3⟩ := h
  match as, h2 with
  | [a, b], _ => exact ⟨a, b, h1, (h3 0 a _ rfl rfl).1, (h3 1 b _ rfl rfl).1⟩
/-- what answers a call, and that it does -/
theorem handler_of (T : Txt K mg) {k : Nat} {xs : List Int} {rs : List (List Int)} {c : Kqb2.Call} (hi : Is k xs rs c) :
    ∃ f sp, Held P w K mg base 6 f sp ∧ valV (HK T) (Sum.inl (k : Int)) = some (.ref f) ∧ ∀ (x g : Addr) (s : Option Bench) (Own : Addr → Prop) (H0 H : Hp) (Q : VK) (E : XK),
      ShopAt T H x s Own → WFo s → (k = 0 ∨ s.isSome = true) → GivenAt H0 H g xs rs → Answers T c x s Own H Q → sp [.ref x, .ref g] H Q E := by
  cases hi with
  | start a => exact ⟨T.call_start.f, sp_call_start T, ⟨_, _, (ok_call_start T).mono (by decide), T.call_start.F.kp, T.call_start.b⟩, rfl, fun x g s Own H0 H Q E S w1 _ hg k => ⟨x, g, a, s, Own, rfl, S, given_nums (l := [a]) hg, k⟩⟩
  | plus a =>
    refine ⟨T.call_plus.f, sp_call_plus T, ⟨_, _, (ok_call_plus T).mono (by decide), T.call_plus.F.kp, T.call_plus.b⟩, rfl, fun x g s Own H0 H Q E S w1 hs hg k => ?_⟩
    obtain ⟨b, rfl⟩ := Option.isSome_iff_exists.mp (hs.resolve_left (by decide))
    exact ⟨x, g, a, b, Own, rfl, S, w1 b rfl, given_nums (l := [a]) hg, k⟩
  | minus a =>
    refine ⟨T.call_minus.f, sp_call_minus T, ⟨_, _, (ok_call_minus T).mono (by decide), T.call_minus.F.kp, T.call_minus.b⟩, rfl, fun x g s Own H0 H Q E S w1 hs hg k => ?_⟩
    obtain ⟨b, rfl⟩ := Option.isSome_iff_exists.mp (hs.resolve_left (by decide))
    exact ⟨x, g, a, b, Own, rfl, S, w1 b rfl, given_nums (l := [a]) hg, k⟩
  | trim a a2 =>
    refine ⟨T.call_trim.f, sp_call_trim T, ⟨_, _, (ok_call_trim T).mono (by decide), T.call_trim.F.kp, T.call_trim.b⟩, rfl, fun x g s Own H0 H Q E S w1 hs hg k => ?_⟩
    obtain ⟨b, rfl⟩ := Option.isSome_iff_exists.mp (hs.resolve_left (by decide))
    exact ⟨x, g, a, a2, b, Own, rfl, S, w1 b rfl, given_nums (l := [a, a2]) hg, k⟩
  | fit a a2 =>
    refine ⟨T.call_fit.f, sp_call_fit T, ⟨_, _, (ok_call_fit T).mono (by decide), T.call_fit.F.kp, T.call_fit.b⟩, rfl, fun x g s Own H0 H Q E S w1 hs hg k => ?_⟩
    obtain ⟨b, rfl⟩ := Option.isSome_iff_exists.mp (hs.resolve_left (by decide))
    exact ⟨x, g, a, a2, b, Own, rfl, S, w1 b rfl, given_nums (l := [a, a2]) hg, k⟩
  | over a =>
    refine ⟨T.call_over.f, sp_call_over T, ⟨_, _, (ok_call_over T).mono (by decide), T.call_over.F.kp, T.call_over.b⟩, rfl, fun x g s Own H0 H Q E S w1 hs hg k => ?_⟩
    obtain ⟨b, rfl⟩ := Option.isSome_iff_exists.mp (hs.resolve_left (by decide))
    exact ⟨x, g, a, b, Own, rfl, S, w1 b rfl, given_nums (l := [a]) hg, k⟩
  | under a =>
    refine ⟨T.call_under.f, sp_call_under T, ⟨_, _, (ok_call_under T).mono (by decide), T.call_under.F.kp, T.call_under.b⟩, rfl, fun x g s Own H0 H Q E S w1 hs hg k => ?_⟩
    obtain ⟨b, rfl⟩ := Option.isSome_iff_exists.mp (hs.resolve_left (by decide))
    exact ⟨x, g, a, b, Own, rfl, S, w1 b rfl, given_nums (l := [a]) hg, k⟩
  | order l h7 =>
    refine ⟨T.call_order.f, sp_call_order T, ⟨_, _, (ok_call_order T).mono (by decide), T.call_order.F.kp, T.call_order.b⟩, rfl, fun x g s Own H0 H Q E S w1 hs hg k => ?_⟩
    obtain ⟨b, rfl⟩ := Option.isSome_iff_exists.mp (hs.resolve_left (by decide))
    exact ⟨x, g, l, b, Own, rfl, S, w1 b rfl, given_one hg, h7, k⟩
  | could l m h h2 =>
    refine ⟨T.call_could.f, sp_call_could T, ⟨_, _, (ok_call_could T).mono (by decide), T.call_could.F.kp, T.call_could.b⟩, rfl, fun x g s Own H0 H Q E S w1 hs hg k => ?_⟩
    obtain ⟨b, rfl⟩ := Option.isSome_iff_exists.mp (hs.resolve_left (by decide))
    exact ⟨x, g, l, m, b, Own, rfl, S, w1 b rfl, given_two hg, h, h2, k⟩
  | need l m h h2 =>
    refine ⟨T.call_need.f, sp_call_need T, ⟨_, _, (ok_call_need T).mono (by decide), T.call_need.F.kp, T.call_need.b⟩, rfl, fun x g s Own H0 H Q E S w1 hs hg k => ?_⟩
    obtain ⟨b, rfl⟩ := Option.isSome_iff_exists.mp (hs.resolve_left (by decide))
    exact ⟨x, g, l, m, b, Own, rfl, S, w1 b rfl, given_two hg, h, h2, k⟩
  | press l h =>
    refine ⟨T.call_press.f, sp_call_press T, ⟨_, _, (ok_call_press T).mono (by decide), T.call_press.F.kp, T.call_press.b⟩, rfl, fun x g s Own H0 H Q E S w1 hs hg k => ?_⟩
    obtain ⟨b, rfl⟩ := Option.isSome_iff_exists.mp (hs.resolve_left (by decide))
    exact ⟨x, g, l, b, Own, rfl, S, w1 b rfl, given_one hg, h, k⟩
  | take a =>
    refine ⟨T.call_take.f, sp_call_take T, ⟨_, _, (ok_call_take T).mono (by decide), T.call_take.F.kp, T.call_take.b⟩, rfl, fun x g s Own H0 H Q E S w1 hs hg k => ?_⟩
    obtain ⟨b, rfl⟩ := Option.isSome_iff_exists.mp (hs.resolve_left (by decide))
    exact ⟨x, g, a, b, Own, rfl, S, w1 b rfl, given_nums (l := [a]) hg, k⟩
  | swap a a2 =>
    refine ⟨T.call_swap.f, sp_call_swap T, ⟨_, _, (ok_call_swap T).mono (by decide), T.call_swap.F.kp, T.call_swap.b⟩, rfl, fun x g s Own H0 H Q E S w1 hs hg k => ?_⟩
    obtain ⟨b, rfl⟩ := Option.isSome_iff_exists.mp (hs.resolve_left (by decide))
    exact ⟨x, g, a, a2, b, Own, rfl, S, w1 b rfl, given_nums (l := [a, a2]) hg, k⟩
  | most a =>
    refine ⟨T.call_most.f, sp_call_most T, ⟨_, _, (ok_call_most T).mono (by decide), T.call_most.F.kp, T.call_most.b⟩, rfl, fun x g s Own H0 H Q E S w1 hs hg k => ?_⟩
    obtain ⟨b, rfl⟩ := Option.isSome_iff_exists.mp (hs.resolve_left (by decide))
    exact ⟨x, g, a, b, Own, rfl, S, w1 b rfl, given_nums (l := [a]) hg, k⟩
  | loose =>
    refine ⟨T.call_loose.f, sp_call_loose T, ⟨_, _, (ok_call_loose T).mono (by decide), T.call_loose.F.kp, T.call_loose.b⟩, rfl, fun x g s Own H0 H Q E S w1 hs hg k => ?_⟩
    obtain ⟨b, rfl⟩ := Option.isSome_iff_exists.mp (hs.resolve_left (by decide))
    exact ⟨x, g, b, Own, rfl, S, w1 b rfl, k⟩
  | stack a =>
    refine ⟨T.call_stack.f, sp_call_stack T, ⟨_, _, (ok_call_stack T).mono (by decide), T.call_stack.F.kp, T.call_stack.b⟩, rfl, fun x g s Own H0 H Q E S w1 hs hg k => ?_⟩
    obtain ⟨b, rfl⟩ := Option.isSome_iff_exists.mp (hs.resolve_left (by decide))
    exact ⟨x, g, a, b, Own, rfl, S, w1 b rfl, given_nums (l := [a]) hg, k⟩
  | height a =>
    refine ⟨T.call_height.f, sp_call_height T, ⟨_, _, (ok_call_height T).mono (by decide), T.call_height.F.kp, T.call_height.b⟩, rfl, fun x g s Own H0 H Q E S w1 hs hg k => ?_⟩
    obtain ⟨b, rfl⟩ := Option.isSome_iff_exists.mp (hs.resolve_left (by decide))
    exact ⟨x, g, a, b, Own, rfl, S, w1 b rfl, given_nums (l := [a]) hg, k⟩
  | sheet a =>
    refine ⟨T.call_sheet.f, sp_call_sheet T, ⟨_, _, (ok_call_sheet T).mono (by decide), T.call_sheet.F.kp, T.call_sheet.b⟩, rfl, fun x g s Own H0 H Q E S w1 hs hg k => ?_⟩
    obtain ⟨b, rfl⟩ := Option.isSome_iff_exists.mp (hs.resolve_left (by decide))
    exact ⟨x, g, a, b, Own, rfl, S, w1 b rfl, given_nums (l := [a]) hg, k⟩
  | check l h =>
    refine ⟨T.call_check.f, sp_call_check T, ⟨_, _, (ok_call_check T).mono (by decide), T.call_check.F.kp, T.call_check.b⟩, rfl, fun x g s Own H0 H Q E S w1 hs hg k => ?_⟩
    obtain ⟨b, rfl⟩ := Option.isSome_iff_exists.mp (hs.resolve_left (by decide))
    exact ⟨x, g, l, b, Own, rfl, S, w1 b rfl, given_one hg, h, k⟩
  | state =>
    refine ⟨T.call_state.f, sp_call_state T, ⟨_, _, (ok_call_state T).mono (by decide), T.call_state.F.kp, T.call_state.b⟩, rfl, fun x g s Own H0 H Q E S w1 hs hg k => ?_⟩
    obtain ⟨b, rfl⟩ := Option.isSome_iff_exists.mp (hs.resolve_left (by decide))
    exact ⟨x, g, b, Own, rfl, S, w1 b rfl, k⟩
theorem step_none {k : Nat} {xs : List Int} {rs : List (List Int)} {c : Kqb2.Call} (hi : Is k xs rs c) (hk : k ≠ 0) : Kqb2.step none c = (none, .num (-11)) := by
  cases hi <;> first | rfl | exact absurd rfl hk
def sp_answer_call (T : Txt K mg) : Sp := fun vs H Q _ => ∃ (x hd g : Addr) (k : Nat) (xs : List Int) (rs : List (List Int)) (c : Kqb2.Call) (s : Option Bench) (Own : Addr → Prop) (H0 : Hp), vs = [.ref x, .ref hd, .int (k : Int), .ref g] ∧ Is k xs rs c ∧
  ShopAt T H x s Own ∧ WFo s ∧ H hd = some (.dK (HK T)) ∧ GivenAt H0 H g xs rs ∧ Answers T c x s Own H Q
theorem ok_answer_call (T : Txt K mg) : FnOk P w K mg base CX0 7 T.answer_call.f T.answer_call.fd ["shop", "handlers", "number", "given"] (sp_answer_call T) := by
  refine T.answer_call.F.ok sc_answer_call (fun vs H Q E h => ?_) (fun cdv A outer s H vs Q E hr h => ?_)
  · obtain ⟨x, hd, g, k, xs, rs, c, s, Own, H0, rfl, _⟩ := h
    rfl
  · obtain ⟨x, hd, g, k, xs, rs, c, s, Own, H0, rfl, hi, S, w1, hh, hg, kk⟩ := h
    obtain ⟨f, sp, held, hv, imp⟩ := handler_of (P := P) (w := w) (base := base) T hi
    have A : ∀ f' sp', (fun a => if a = f then some sp else none : Addr → Option Sp) f' = some sp' → Held P w K mg base 6 f' sp' := fun f' sp' e => by
      by_cases q : f' = f
      · subst q
        have e : (if f' = f' then some sp else none) = some sp' := e
        rw [if_pos rfl] at e
        cases e
        exact held
      · have e : (if f' = f then some sp else none) = some sp' := e
        rw [if_neg q] at e
        cases e
    refine ⟨_, (pss_cons (ps_if (PW.pt (pw_and (pt_cmpR op_ne (pv 2) (pe_glob (v := V.int (0)) rfl T.START.g ⟨_, rfl⟩) (nomark _)) (pw_and1 (pt_not (pt_val (pe_meth0 (pv 0) T.Shop.cl T.Shop_has_begun.m (ok_Shop_has_begun T) (hr.mono (by decide)) T.Shop_has_begun.b .nil pass0))))))
          (pss_one (ps_ret (pe_lst (pa_cons (pe_glob (v := V.int (-11)) rfl T.NOT_STARTED.g ⟨_, rfl⟩) pa_nil))))
          pss_nil)
          (pss_cons (ps_set (i := 4) sc_answer_call.nd rfl (Or.inl rfl) (pe_dget (hu_of hr) (pv 1) (pv 2) (fun _ _ => rfl)))
          (pss_one (ps_ret (pe_callA (i := 4) A (hr.mono (by decide)) rfl (Or.inl rfl) (pa_cons (pv 0) (pa_cons (pv 3) pa_nil))))))), ?_⟩
    obtain ⟨d, l, dk, as, Z, S'⟩ := id S
    have go : ∀ (v4 : Option V), (k = 0 ∨ s.isSome = true) → tSeq (tAsg (tDGet (tVar 1) (tVar 2)) (gName 4)) (tRet (tCallA 4 (fun a => if a = f then some sp else none) (tCons (tVar 0) (tCons (tVar 3) tNil)))) { nx := fun _ H' => Q .non H', rt := Q } [some (.ref x), some (.ref hd), some (.int (k : Int)), some (.ref g), v4] H := fun v4 hs => by
      refine ⟨_, rfl, _, rfl, hd, .ref f, rfl, ?_, ?_⟩
      · have := DGet.k (k := (Sum.inl (k : Int) : L2.Key)) hh
        rw [hv] at this
        exact this
      · refine ⟨f, sp, rfl, if_pos rfl, _, rfl, _, rfl, ?_⟩
        exact imp x g s Own H0 H Q _ S w1 hs hg kk
    refine ⟨_, rfl, rfl, _, rfl, ifb (fun e => ?_) (fun e => ?_)⟩
    · refine ⟨_, rfl, x, d, _, rfl, S'.obj, F_Shop_not_has_begun, x, s, Own, rfl, S, _, rfl, ifb (fun e2 => ?_) (fun e2 => ?_)⟩
      · have hk0 : k ≠ 0 := fun q => by
          subst q
          exact absurd e (by decide)
        have hs : s = none := by
          cases s with
          | none => rfl
          | some b => exact Bool.noConfusion (show false = true from e2)
        subst hs
        exact ⟨one_size, fun p np => ans_same kk (step_none hi hk0) rfl S (Same.refl _) np⟩
      · exact go none (.inr (not_f e2))
    · refine iteF (go none (.inl ?_))
      have : V.int (k : Int) = V.int 0 := of_decide_eq_true (not_f e)
      have := V.int.inj this
      omega
end
section
variable {P : Program} {w : World} {K : PySem.W.Frag} {mg : Str → Option Value} {base : Heap}
open Kqb2 (Bench)
theorem is_shape {k : Nat} {xs : List Int} {rs : List (List Int)} {c : Kqb2.Call} (hi : Is k xs rs c) : SING[k]? = some xs.length ∧ LIST[k]? = some rs.length := by
  cases hi <;> exact ⟨rfl, rfl⟩
theorem neutral_step {s : Option Bench} {c : List (List Int)} {x : Kqb2.Call} (h : Kqb2Neutral.callOf c = some x) : Kqb2Neutral.step s c = ((Kqb2.step s x).1, Kqb2Neutral.tell (Kqb2.step s x).2) := by
  unfold Kqb2Neutral.step
  rw [h]
def sp_answers (K : PySem.W.Frag) : Sp := fun vs H Q _ => ∃ (a : Addr) (ns : List Int), vs = [.ref a] ∧ SqL K H a (ns.map V.int) ∧ OnlyF H ∧ PyKqb2.answers_asked ns = true ∧
  ∀ (H' : Hp) (p : Addr), H' p = some (.lst ((PyKqb2.answers ns).map V.int)) → Q (.ref p) H'
/-- what holds ahead of each call -/
structure Loop (T : Txt K mg) (ns : List Int) (H0 : Hp) (a x rx dxr hd td : Addr) (p : Nat) (H : Hp) : Prop where
  same : Same H0 H
  rd : H rx = some (rdO T dxr a p)
  hnd : H hd = some (.dK (HK T))
  ex : ∃ (s : Option Bench) (Own : Addr → Prop) (out : List Int) (f : Nat) (raw : List (List (List Int))), ShopAt T H x s Own ∧ WFo s ∧ (∀ b, Own b → H0 b = none ∧ b ≠ rx ∧ b ≠ hd ∧ b ≠ td) ∧ H td = some (.lst (out.map V.int)) ∧
    PyFlat.calls PyKqb2.shape f (ns.drop p) = some raw ∧ (∀ c ∈ raw, Kqb2Neutral.asked1 c = true ∧ Kqb2Neutral.few c = true) ∧
    out ++ PyFlat.told (PyFlat.played Kqb2Neutral.step s raw) = PyKqb2.answers ns
theorem ok_answers (T : Txt K mg) : FnOk P w K mg base CX0 8 T.answers.f T.answers.fd ["calls"] (sp_answers K) := by
  refine T.answers.F.ok sc_answers (fun vs H Q E h => ?_) (fun cdv A outer s H vs Q E hr h => ?_)
  · obtain ⟨a, ns, rfl, _⟩ := h
    rfl
  · obtain ⟨a, ns, rfl, hS, hF, hq, k⟩ := h
    obtain ⟨raw, AS⟩ := asked_of hq
    refine ⟨_, (pss_cons (ps_set (i := 1) sc_answers.nd rfl (Or.inl rfl) (pe_make0 T.Shop_init.m (ok_Shop_init T) (hr.mono (by decide)) rfl T.Shop.g T.Shop_init.b .nil pass0))
          (pss_cons (ps_set (i := 2) sc_answers.nd rfl (Or.inl rfl) (pe_make T.Reader_init.m (ok_Reader_init T) (hr.mono (by decide)) rfl T.Reader.g T.Reader_init.b .nil pass0 (pa_cons (pv 0) pa_nil)))
          (pss_cons (ps_set (i := 3) sc_answers.nd rfl (Or.inl rfl) (pe_call0 (ok_handlers_by_number T) (hr.mono (by decide)) rfl T.handlers_by_number.g T.handlers_by_number.F.kp T.handlers_by_number.b .nil pass0))
          (pss_cons (ps_set (i := 4) sc_answers.nd rfl (Or.inl rfl) (pe_lst pa_nil))
          (pss_cons (ps_while PassesOwn.never (pt_val (pe_meth0 (pv 2) T.Reader.cl T.Reader_has_more.m (ok_Reader_has_more T) (hr.mono (by decide)) T.Reader_has_more.b .nil pass0))
          (pss_cons (ps_set (i := 5) sc_answers.nd rfl (Or.inl rfl) (pe_meth0 (pv 2) T.Reader.cl T.Reader_read_number.m (ok_Reader_read_number T) (hr.mono (by decide)) T.Reader_read_number.b .nil pass0))
            (pss_cons (ps_set (i := 6) sc_answers.nd rfl (Or.inl rfl) (pe_meth (pv 2) T.Reader.cl T.Reader_read_given.m (ok_Reader_read_given T) (hr.mono (by decide)) T.Reader_read_given.b .nil pass0 (pa_cons (pv 5) pa_nil)))
            (pss_cons (ps_set (i := 7) sc_answers.nd rfl (Or.inl rfl) (pe_call (ok_answer_call T) (hr.mono (by decide)) rfl T.answer_call.g T.answer_call.F.kp T.answer_call.b .nil pass0 (pa_cons (pv 1) (pa_cons (pv 3) (pa_cons (pv 5) (pa_cons (pv 6) pa_nil))))))
            (pss_cons (ps_expr (pe_bm PySem.F.plainAttrs_list PySem.F.slot_list_append PySem.F.type_list_append mt_append (pv 4) (pa_cons (pe_callB call_len_seq (by rfl) T.b_len PySem.boot_len (pa_cons (pv 7) pa_nil)) pa_nil)))
            (pss_one (ps_expr (pe_bm PySem.F.plainAttrs_list PySem.F.slot_list_extend PySem.F.type_list_extend mt_extend (pv 4) (pa_cons (pv 7) pa_nil)))))))))
          (pss_one (ps_ret (pv 4)))))))), ?_⟩
    -- shop = Shop()
    intro x dx nx ndx ne
    refine ⟨x, dx, rfl, upd_same, fun H1 Own S1 kp1 new1 => ⟨rfl, ?_⟩⟩
    have s1 : Same H H1 := Same.made nx ndx kp1
    have own1 : ∀ b, Own b → H b = none := fun b hb => by
      rcases new1 b hb with rfl | h
      · exact nx
      · cases e : H b with
        | none => rfl
        | some o =>
          have e2 : (upd (upd H dx (.own x)) x (.ins T.Shop.C dx [])) b = some o := by
            rw [upd_ne (ne_of_none e nx), upd_ne (ne_of_none e ndx)]
            exact e
          rw [e2] at h
          cases h
    -- reader = Reader(calls)
    refine ⟨_, rfl, ?_⟩
    intro rx dxr nrx ndr ner
    refine ⟨rx, dxr, a, rfl, upd_same, ⟨rfl, ?_⟩⟩
    rw [upd_upd]
    have s2 : Same H1 (upd (upd H1 dxr (.own rx)) rx (rdO T dxr a 0)) := fun b o e => by
      rw [upd_ne (ne_of_none e nrx), upd_ne (ne_of_none e ndr)]
      exact e
    -- handlers = handlers_by_number()
    refine ⟨rfl, fun H3 hd s3 nhd hh => ?_⟩
    -- told = []
    refine ⟨Nat.zero_le _, fun td ntd => ?_⟩
    have s4 : Same H3 (upd H3 td (.lst [])) := same_upd ntd
    have S3 := S1.same ((s2.trans s3).trans s4)
    have tr : ∀ b, Own b → ∃ o, H1 b = some o := fun b hb => S1.tracked hb
    have h0rx : H rx = none := s1.free nrx
    have h0td : H td = none := ((s1.trans s2).trans s3).free ntd
    have h0hd : H hd = none := (s1.trans s2).free nhd
    have hrx3 : H3 rx = some (rdO T dxr a 0) := s3 _ _ upd_same
    have rxhd : rx ≠ hd := ne_of hrx3 hh (by intro q; cases q)
    have L0 : Loop T ns H a x rx dxr hd td 0 (upd H3 td (.lst [])) := by
      refine ⟨((s1.trans s2).trans s3).trans s4, s4 _ _ hrx3, s4 _ _ hh, none, Own, [], ns.length, raw, S3, fun b e => (by cases e), fun b hb => ?_, upd_same, AS.calls, fun c hc => ⟨AS.one c hc, AS.few c hc⟩, ?_⟩
      · obtain ⟨o, ho⟩ := tr b hb
        exact ⟨own1 b hb, ne_of_none ho nrx, ne_of_none (s2 _ _ ho) nhd, ne_of_none (s3 _ _ (s2 _ _ ho)) ntd⟩
      · rw [AS.due]
        rfl
    have rtd : rx ≠ td := ne_of_none hrx3 ntd
    have htd : hd ≠ td := ne_of_none hh ntd
    have trk : ∀ {H' : Hp} {b : Addr}, Same H H' → (H' b = none) → H b = none := fun s h => s.free h
    refine ⟨fun m σ H' => ∃ v5 v6 v7 p, σ = [some (.ref a), some (.ref x), some (.ref rx), some (.ref hd), some (.ref td), v5, v6, v7] ∧ Loop T ns H a x rx dxr hd td p H' ∧ p ≤ ns.length ∧ m = ns.length - p,
      ⟨ns.length, none, none, none, 0, rfl, L0, Nat.zero_le _, rfl⟩, ?_⟩
    rintro m σ H' ⟨v5, v6, v7, p, rfl, ⟨sm, hrd, hhd, s, Own', out, f, raw', S, w1, own, htd', hcalls, hone, hdue⟩, hp, rfl⟩
    have hSq : ∀ {H2 : Hp}, Same H H2 → SqL K H2 a (ns.map V.int) := fun s => s.seq hS
    refine ⟨_, rfl, rx, dxr, _, rfl, hrd, F_Reader_not_has_more, rx, dxr, a, ns, p, rfl, hrd, hSq sm, _, rfl, ifb (fun e => ?_) (fun e => ?_)⟩
    · have hlt : p < ns.length := of_decide_eq_true e
      have hz : ns[p]? = some ns[p] := List.getElem?_eq_getElem hlt
      have hdrop : ns.drop p = ns[p] :: ns.drop (p + 1) := List.drop_eq_getElem_cons hlt
      rw [hdrop] at hcalls
      obtain ⟨f', sN, lN, rs, t, cs', hshape, hsl, hrows, hcalls', rfl⟩ := calls_cons hcalls
      obtain ⟨ha1, hf1⟩ := hone _ List.mem_cons_self
      obtain ⟨kN, xs, rs', c, ec, hi, hco⟩ := is_of ha1 hf1
      have e1 : ns[p] = (kN : Int) := (List.cons.inj (List.cons.inj ec).1).1
      have e2 : (ns.drop (p + 1)).take sN = xs := (List.cons.inj (List.cons.inj ec).1).2
      have e3 : rs = rs' := (List.cons.inj ec).2
      subst e3
      obtain ⟨q1, q2⟩ := is_shape hi
      have hxs : xs.length = sN := by
        rw [← e2, List.length_take]
        omega
      have hrs := rows_length hrows
      rw [hxs] at q1
      rw [hrs.1] at q2
      rw [e1] at hz
      refine ⟨fun σ' H'' => ∃ m', m' < ns.length - p ∧ _, fun σ' H'' h => h, ?_⟩
      -- number = reader.read_number()
      refine ⟨_, rfl, rx, dxr, _, rfl, hrd, F_Reader_not_read_number, rx, dxr, a, ns, p, _, rfl, hrd, hSq sm, hz, ?_⟩
      have hfr : H rx = none := h0rx
      have sm2 : Same H (upd H' rx (rdO T dxr a (p + 1))) := fun b o e => by
        rw [upd_ne (ne_of_none e hfr)]
        exact sm b o e
      -- given = reader.read_given(number)
      rw [List.length_drop] at hsl
      refine ⟨_, rfl, rx, dxr, _, rfl, upd_same, F_Reader_not_read_given, _, rfl, rx, dxr, a, ns, p + 1, kN, sN, lN, rs, t, rfl, upd_same, hSq sm2, q1, q2, by omega, (by rw [← List.drop_drop]; exact hrows), fun H2 g keep2 hrx2 ng hgiven => ?_⟩
      rw [e2] at hgiven
      have k2 : ∀ b o, H' b = some o → b ≠ rx → H2 b = some o := fun b o e ne => keep2 b o (by rw [upd_ne ne]; exact e) ne
      have S2 : ShopAt T H2 x s Own' := S.keep fun b o hb e => k2 b o e (own b hb).2.1
      have sm3 : Same H H2 := fun b o e => k2 b o (sm b o e) (ne_of_none e hfr)
      have hhd2 : H2 hd = some (.dK (HK T)) := k2 _ _ hhd rxhd.symm
      have htd2 : H2 td = some (.lst (out.map V.int)) := k2 _ _ htd' rtd.symm
      -- answer = answer_call(shop, handlers, number, given)
      refine ⟨_, rfl, _, rfl, _, rfl, _, rfl, x, hd, g, kN, xs, rs, c, s, Own', _, rfl, hi, S2, w1, hhd2, hgiven, fun H4 Own4 q S4 D4 nq hq => ?_⟩
      have nrx4 : ¬ Own' rx := fun h => (own _ h).2.1 rfl
      have nhd4 : ¬ Own' hd := fun h => (own _ h).2.2.1 rfl
      have ntd4 : ¬ Own' td := fun h => (own _ h).2.2.2 rfl
      have hrx4 := D4.keep _ _ hrx2 nrx4
      have hhd4 := D4.keep _ _ hhd2 nhd4
      have htd4 := D4.keep _ _ htd2 ntd4
      have sm4 : Same H H4 := fun b o e => D4.keep b o (sm3 b o e) fun h => by
        have := (own b h).1
        rw [e] at this
        cases this
      have own4 : ∀ b, Own4 b → H b = none ∧ b ≠ rx ∧ b ≠ hd ∧ b ≠ td := fun b hb => by
        rcases D4.new b hb with h | h
        · exact own b h
        · exact ⟨sm3.free h, fun q => (by rw [q, hrx2] at h; cases h), fun q => (by rw [q, hhd2] at h; cases h), fun q => (by rw [q, htd2] at h; cases h)⟩
      have nqtd : q ≠ td := fun e => by rw [e, htd2] at nq; cases nq
      have nqrx : q ≠ rx := fun e => by rw [e, hrx2] at nq; cases nq
      have hns : Kqb2Neutral.step s (((kN : Int) :: xs) :: rs) = ((Kqb2.step s c).1, Kqb2Neutral.tell (Kqb2.step s c).2) := neutral_step (ec ▸ hco)
      have hraw : (ns[p] :: (ns.drop (p + 1)).take sN) :: rs = ((kN : Int) :: xs) :: rs := by rw [e1, e2]
      rw [hraw, played_cons, told_cons, hns] at hdue
      generalize hA : Kqb2Neutral.tell (Kqb2.step s c).2 = A at hdue hq
      have hlen : out.length + (A.length + 1) ≤ 10000000 := by
        have h1 := AS.short
        rw [← hdue, List.length_append, List.length_append, List.length_cons] at h1
        dsimp only at h1
        omega
      -- told.append(len(answer))
      refine ⟨_, rfl, .inl ⟨rfl, _, SqL.of htd4⟩, _, rfl, _, _, rfl, .inl (.inl (.inl hq)), td, _, _, rfl, rfl, htd4, Nat.lt_of_le_of_lt (m := 10000000) (by rw [List.length_map]; omega) (by decide), ?_⟩
      -- told.extend(answer)
      refine ⟨_, rfl, .inl ⟨rfl, _, SqL.of upd_same⟩, _, rfl, td, q, _, _, rfl, rfl, upd_same, (by rw [upd_ne nqtd]; exact hq), Nat.le_trans (m := 10000000) (by rw [List.length_append, List.length_map, List.length_map]; show out.length + 1 + A.length ≤ _; omega) (by decide), ?_⟩
      rw [upd_upd, List.length_map]
      have eout : (out.map V.int ++ [V.int (A.length : Int)]) ++ A.map V.int = (out ++ (A.length : Int) :: A).map V.int := by
        rw [List.map_append, List.map_cons, List.append_assoc]
        rfl
      rw [eout]
      have kp5 : ∀ b o, H4 b = some o → b ≠ td → (upd H4 td (.lst ((out ++ (A.length : Int) :: A).map V.int))) b = some o := fun b o e ne => by
        rw [upd_ne ne]
        exact e
      have hpos : ns.drop (ns.length - t.length) = t := drop_eq ((rows_suffix hrows).trans ((List.drop_suffix _ _).trans (List.drop_suffix _ _))) rfl
      have htl : t.length ≤ ns.length - (p + 1) := by
        have := hrs.2
        rw [List.length_drop, List.length_drop] at this
        omega
      refine ⟨ns.length - (ns.length - t.length), by omega, _, _, _, ns.length - t.length, rfl, ⟨fun b o e => kp5 b o (sm4 b o e) (ne_of_none e h0td), kp5 _ _ hrx4 rtd, kp5 _ _ hhd4 htd, (Kqb2.step s c).1, Own4, out ++ (A.length : Int) :: A, f', cs', ?_, step_WF w1 c, own4, upd_same, (by rw [hpos]; exact hcalls'), fun c hc => hone c (List.mem_cons_of_mem _ hc), ?_⟩, by omega, rfl⟩
      · exact S4.keep fun b o hb e => kp5 b o e (own4 b hb).2.2.2
      · rw [← hdue, List.append_assoc]
    · have hge : ¬ p < ns.length := of_decide_eq_false e
      have hn : ns.drop p = [] := List.drop_eq_nil_of_le (by omega)
      rw [hn] at hcalls
      have := calls_nil hcalls
      subst this
      have : out = PyKqb2.answers ns := by
        rw [← hdue]
        exact (List.append_nil out).symm
      subst this
      exact ⟨_, rfl, k H' td htd'⟩
end
theorem all_mk {K : PySem.W.Frag} {h : Heap} {mg : Str → Option Value} {C_Reader C_Sheet C_Shop f_call_loose f_call_stack f_call_height f_call_sheet f_call_state f_call_press f_call_take f_call_swap f_Reader_init f_Reader_has_more f_Reader_read_number f_Reader_read_list f_Reader_read_given f_is_width f_least_over f_reaches_over f_can_be_stacked f_least_more f_most_stacks f_can_be_laid f_least_minus_widths f_call_start f_call_plus f_call_minus f_lay_one f_call_trim f_call_fit f_call_over f_call_under f_fitting_to f_Sheet_init f_Shop_init f_Shop_begin f_Shop_has_begun f_Shop_has_sheet f_Shop_has_stack f_Shop_is_full f_Shop_lay_sheet f_Shop_fits f_Shop_fitting f_Shop_are_sheets f_Shop_is_stack f_Shop_stack_of f_Shop_is_loose f_Shop_loose_widths f_Shop_lay_stack f_Shop_take_stack f_Shop_stacks_with_swapped f_is_size_of_stack f_call_order f_first_order f_one_higher f_call_could f_call_need f_are_widths f_call_check f_call_most f_answers f_answer_call f_handlers_by_number t_SINGLES t_LISTS : Addr} {k_NO_SUCH : Tok} {k_BOTH_LOOSE : Tok} {k_NOT_STARTED : Tok} {k_WRONG_SIGN : Tok} {k_STACK_FORBIDS : Tok} {k_IN_A_STACK : Tok} {k_WRONG_VALUE : Tok} {k_FULL : Tok} {k_NO_WAY : Tok} {o_SINGLES : Obj} {its_SINGLES : Array Value} {n_SINGLES : Nat} {o_LISTS : Obj} {its_LISTS : Array Value} {n_LISTS : Nat} {k_WIDEST : Tok} {k_MOST_REACH : Tok} {k_MOST_SHEETS : Tok} {k_LEAST_IN_STACK : Tok} {k_MOST_PLUS_WIDTHS : Tok} {k_MOST_MINUS_WIDTHS : Tok} {k_MOST_PLUS_IN_EACH : Tok} {k_START : Tok} (X : K.In h) (G : h.Ns mainGlobals mg)
    (a_Reader : PySem.W.nsIn K mainGlobals "Reader" = some (some (.ref C_Reader)))
    (c_Reader : Cls K C_Reader)
    (n_Reader_numbers : PySem.W.findIn K (.ref C_Reader) "numbers" = some none)
    (n_Reader_place : PySem.W.findIn K (.ref C_Reader) "place" = some none)
    (a_Sheet : PySem.W.nsIn K mainGlobals "Sheet" = some (some (.ref C_Sheet)))
    (c_Sheet : Cls K C_Sheet)
    (n_Sheet_minus : PySem.W.findIn K (.ref C_Sheet) "minus" = some none)
    (n_Sheet_wide : PySem.W.findIn K (.ref C_Sheet) "wide" = some none)
    (a_Shop : PySem.W.nsIn K mainGlobals "Shop" = some (some (.ref C_Shop)))
    (c_Shop : Cls K C_Shop)
    (n_Shop_reach : PySem.W.findIn K (.ref C_Shop) "reach" = some none)
    (n_Shop_sheets : PySem.W.findIn K (.ref C_Shop) "sheets" = some none)
    (n_Shop_stacks : PySem.W.findIn K (.ref C_Shop) "stacks" = some none)
    (a_call_loose : PySem.W.nsIn K mainGlobals "call_loose" = some (some (.ref f_call_loose)))
    (F_call_loose : ∃ fd, Fun K "call_loose" "call_loose" s_call_loose f_call_loose fd)
    (a_call_stack : PySem.W.nsIn K mainGlobals "call_stack" = some (some (.ref f_call_stack)))
    (F_call_stack : ∃ fd, Fun K "call_stack" "call_stack" s_call_stack f_call_stack fd)
    (a_call_height : PySem.W.nsIn K mainGlobals "call_height" = some (some (.ref f_call_height)))
    (F_call_height : ∃ fd, Fun K "call_height" "call_height" s_call_height f_call_height fd)
    (a_call_sheet : PySem.W.nsIn K mainGlobals "call_sheet" = some (some (.ref f_call_sheet)))
    (F_call_sheet : ∃ fd, Fun K "call_sheet" "call_sheet" s_call_sheet f_call_sheet fd)
    (a_call_state : PySem.W.nsIn K mainGlobals "call_state" = some (some (.ref f_call_state)))
    (F_call_state : ∃ fd, Fun K "call_state" "call_state" s_call_state f_call_state fd)
    (a_call_press : PySem.W.nsIn K mainGlobals "call_press" = some (some (.ref f_call_press)))
    (F_call_press : ∃ fd, Fun K "call_press" "call_press" s_call_press f_call_press fd)
    (a_call_take : PySem.W.nsIn K mainGlobals "call_take" = some (some (.ref f_call_take)))
    (F_call_take : ∃ fd, Fun K "call_take" "call_take" s_call_take f_call_take fd)
    (a_call_swap : PySem.W.nsIn K mainGlobals "call_swap" = some (some (.ref f_call_swap)))
    (F_call_swap : ∃ fd, Fun K "call_swap" "call_swap" s_call_swap f_call_swap fd)
    (m_Reader_init : Mk K C_Reader f_Reader_init)
    (F_Reader_init : ∃ fd, Fun K "__init__" "Reader.__init__" s_Reader_init f_Reader_init fd)
    (m_Reader_has_more : Meth K C_Reader "has_more" f_Reader_has_more)
    (F_Reader_has_more : ∃ fd, Fun K "has_more" "Reader.has_more" s_Reader_has_more f_Reader_has_more fd)
    (m_Reader_read_number : Meth K C_Reader "read_number" f_Reader_read_number)
    (F_Reader_read_number : ∃ fd, Fun K "read_number" "Reader.read_number" s_Reader_read_number f_Reader_read_number fd)
    (m_Reader_read_list : Meth K C_Reader "read_list" f_Reader_read_list)
    (F_Reader_read_list : ∃ fd, Fun K "read_list" "Reader.read_list" s_Reader_read_list f_Reader_read_list fd)
    (m_Reader_read_given : Meth K C_Reader "read_given" f_Reader_read_given)
    (F_Reader_read_given : ∃ fd, Fun K "read_given" "Reader.read_given" s_Reader_read_given f_Reader_read_given fd)
    (a_is_width : PySem.W.nsIn K mainGlobals "is_width" = some (some (.ref f_is_width)))
    (F_is_width : ∃ fd, Fun K "is_width" "is_width" s_is_width f_is_width fd)
    (a_least_over : PySem.W.nsIn K mainGlobals "least_over" = some (some (.ref f_least_over)))
    (F_least_over : ∃ fd, Fun K "least_over" "least_over" s_least_over f_least_over fd)
    (a_reaches_over : PySem.W.nsIn K mainGlobals "reaches_over" = some (some (.ref f_reaches_over)))
    (F_reaches_over : ∃ fd, Fun K "reaches_over" "reaches_over" s_reaches_over f_reaches_over fd)
    (a_can_be_stacked : PySem.W.nsIn K mainGlobals "can_be_stacked" = some (some (.ref f_can_be_stacked)))
    (F_can_be_stacked : ∃ fd, Fun K "can_be_stacked" "can_be_stacked" s_can_be_stacked f_can_be_stacked fd)
    (a_least_more : PySem.W.nsIn K mainGlobals "least_more" = some (some (.ref f_least_more)))
    (F_least_more : ∃ fd, Fun K "least_more" "least_more" s_least_more f_least_more fd)
    (a_most_stacks : PySem.W.nsIn K mainGlobals "most_stacks" = some (some (.ref f_most_stacks)))
    (F_most_stacks : ∃ fd, Fun K "most_stacks" "most_stacks" s_most_stacks f_most_stacks fd)
    (a_can_be_laid : PySem.W.nsIn K mainGlobals "can_be_laid" = some (some (.ref f_can_be_laid)))
    (F_can_be_laid : ∃ fd, Fun K "can_be_laid" "can_be_laid" s_can_be_laid f_can_be_laid fd)
    (a_least_minus_widths : PySem.W.nsIn K mainGlobals "least_minus_widths" = some (some (.ref f_least_minus_widths)))
    (F_least_minus_widths : ∃ fd, Fun K "least_minus_widths" "least_minus_widths" s_least_minus_widths f_least_minus_widths fd)
    (a_call_start : PySem.W.nsIn K mainGlobals "call_start" = some (some (.ref f_call_start)))
    (F_call_start : ∃ fd, Fun K "call_start" "call_start" s_call_start f_call_start fd)
    (a_call_plus : PySem.W.nsIn K mainGlobals "call_plus" = some (some (.ref f_call_plus)))
    (F_call_plus : ∃ fd, Fun K "call_plus" "call_plus" s_call_plus f_call_plus fd)
    (a_call_minus : PySem.W.nsIn K mainGlobals "call_minus" = some (some (.ref f_call_minus)))
    (F_call_minus : ∃ fd, Fun K "call_minus" "call_minus" s_call_minus f_call_minus fd)
    (a_lay_one : PySem.W.nsIn K mainGlobals "lay_one" = some (some (.ref f_lay_one)))
    (F_lay_one : ∃ fd, Fun K "lay_one" "lay_one" s_lay_one f_lay_one fd)
    (a_call_trim : PySem.W.nsIn K mainGlobals "call_trim" = some (some (.ref f_call_trim)))
    (F_call_trim : ∃ fd, Fun K "call_trim" "call_trim" s_call_trim f_call_trim fd)
    (a_call_fit : PySem.W.nsIn K mainGlobals "call_fit" = some (some (.ref f_call_fit)))
    (F_call_fit : ∃ fd, Fun K "call_fit" "call_fit" s_call_fit f_call_fit fd)
    (a_call_over : PySem.W.nsIn K mainGlobals "call_over" = some (some (.ref f_call_over)))
    (F_call_over : ∃ fd, Fun K "call_over" "call_over" s_call_over f_call_over fd)
    (a_call_under : PySem.W.nsIn K mainGlobals "call_under" = some (some (.ref f_call_under)))
    (F_call_under : ∃ fd, Fun K "call_under" "call_under" s_call_under f_call_under fd)
    (a_fitting_to : PySem.W.nsIn K mainGlobals "fitting_to" = some (some (.ref f_fitting_to)))
    (F_fitting_to : ∃ fd, Fun K "fitting_to" "fitting_to" s_fitting_to f_fitting_to fd)
    (m_Sheet_init : Mk K C_Sheet f_Sheet_init)
    (F_Sheet_init : ∃ fd, Fun K "__init__" "Sheet.__init__" s_Sheet_init f_Sheet_init fd)
    (m_Shop_init : Mk K C_Shop f_Shop_init)
    (F_Shop_init : ∃ fd, Fun K "__init__" "Shop.__init__" s_Shop_init f_Shop_init fd)
    (m_Shop_begin : Meth K C_Shop "begin" f_Shop_begin)
    (F_Shop_begin : ∃ fd, Fun K "begin" "Shop.begin" s_Shop_begin f_Shop_begin fd)
    (m_Shop_has_begun : Meth K C_Shop "has_begun" f_Shop_has_begun)
    (F_Shop_has_begun : ∃ fd, Fun K "has_begun" "Shop.has_begun" s_Shop_has_begun f_Shop_has_begun fd)
    (m_Shop_has_sheet : Meth K C_Shop "has_sheet" f_Shop_has_sheet)
    (F_Shop_has_sheet : ∃ fd, Fun K "has_sheet" "Shop.has_sheet" s_Shop_has_sheet f_Shop_has_sheet fd)
    (m_Shop_has_stack : Meth K C_Shop "has_stack" f_Shop_has_stack)
    (F_Shop_has_stack : ∃ fd, Fun K "has_stack" "Shop.has_stack" s_Shop_has_stack f_Shop_has_stack fd)
    (m_Shop_is_full : Meth K C_Shop "is_full" f_Shop_is_full)
    (F_Shop_is_full : ∃ fd, Fun K "is_full" "Shop.is_full" s_Shop_is_full f_Shop_is_full fd)
    (m_Shop_lay_sheet : Meth K C_Shop "lay_sheet" f_Shop_lay_sheet)
    (F_Shop_lay_sheet : ∃ fd, Fun K "lay_sheet" "Shop.lay_sheet" s_Shop_lay_sheet f_Shop_lay_sheet fd)
    (m_Shop_fits : Meth K C_Shop "fits" f_Shop_fits)
    (F_Shop_fits : ∃ fd, Fun K "fits" "Shop.fits" s_Shop_fits f_Shop_fits fd)
    (m_Shop_fitting : Meth K C_Shop "fitting" f_Shop_fitting)
    (F_Shop_fitting : ∃ fd, Fun K "fitting" "Shop.fitting" s_Shop_fitting f_Shop_fitting fd)
    (m_Shop_are_sheets : Meth K C_Shop "are_sheets" f_Shop_are_sheets)
    (F_Shop_are_sheets : ∃ fd, Fun K "are_sheets" "Shop.are_sheets" s_Shop_are_sheets f_Shop_are_sheets fd)
    (m_Shop_is_stack : Meth K C_Shop "is_stack" f_Shop_is_stack)
    (F_Shop_is_stack : ∃ fd, Fun K "is_stack" "Shop.is_stack" s_Shop_is_stack f_Shop_is_stack fd)
    (m_Shop_stack_of : Meth K C_Shop "stack_of" f_Shop_stack_of)
    (F_Shop_stack_of : ∃ fd, Fun K "stack_of" "Shop.stack_of" s_Shop_stack_of f_Shop_stack_of fd)
    (m_Shop_is_loose : Meth K C_Shop "is_loose" f_Shop_is_loose)
    (F_Shop_is_loose : ∃ fd, Fun K "is_loose" "Shop.is_loose" s_Shop_is_loose f_Shop_is_loose fd)
    (m_Shop_loose_widths : Meth K C_Shop "loose_widths" f_Shop_loose_widths)
    (F_Shop_loose_widths : ∃ fd, Fun K "loose_widths" "Shop.loose_widths" s_Shop_loose_widths f_Shop_loose_widths fd)
    (m_Shop_lay_stack : Meth K C_Shop "lay_stack" f_Shop_lay_stack)
    (F_Shop_lay_stack : ∃ fd, Fun K "lay_stack" "Shop.lay_stack" s_Shop_lay_stack f_Shop_lay_stack fd)
    (m_Shop_take_stack : Meth K C_Shop "take_stack" f_Shop_take_stack)
    (F_Shop_take_stack : ∃ fd, Fun K "take_stack" "Shop.take_stack" s_Shop_take_stack f_Shop_take_stack fd)
    (m_Shop_stacks_with_swapped : Meth K C_Shop "stacks_with_swapped" f_Shop_stacks_with_swapped)
    (F_Shop_stacks_with_swapped : ∃ fd, Fun K "stacks_with_swapped" "Shop.stacks_with_swapped" s_Shop_stacks_with_swapped f_Shop_stacks_with_swapped fd)
    (a_is_size_of_stack : PySem.W.nsIn K mainGlobals "is_size_of_stack" = some (some (.ref f_is_size_of_stack)))
    (F_is_size_of_stack : ∃ fd, Fun K "is_size_of_stack" "is_size_of_stack" s_is_size_of_stack f_is_size_of_stack fd)
    (a_call_order : PySem.W.nsIn K mainGlobals "call_order" = some (some (.ref f_call_order)))
    (F_call_order : ∃ fd, Fun K "call_order" "call_order" s_call_order f_call_order fd)
    (a_first_order : PySem.W.nsIn K mainGlobals "first_order" = some (some (.ref f_first_order)))
    (F_first_order : ∃ fd, Fun K "first_order" "first_order" s_first_order f_first_order fd)
    (a_one_higher : PySem.W.nsIn K mainGlobals "one_higher" = some (some (.ref f_one_higher)))
    (F_one_higher : ∃ fd, Fun K "one_higher" "one_higher" s_one_higher f_one_higher fd)
    (a_call_could : PySem.W.nsIn K mainGlobals "call_could" = some (some (.ref f_call_could)))
    (F_call_could : ∃ fd, Fun K "call_could" "call_could" s_call_could f_call_could fd)
    (a_call_need : PySem.W.nsIn K mainGlobals "call_need" = some (some (.ref f_call_need)))
    (F_call_need : ∃ fd, Fun K "call_need" "call_need" s_call_need f_call_need fd)
    (a_are_widths : PySem.W.nsIn K mainGlobals "are_widths" = some (some (.ref f_are_widths)))
    (F_are_widths : ∃ fd, Fun K "are_widths" "are_widths" s_are_widths f_are_widths fd)
    (a_call_check : PySem.W.nsIn K mainGlobals "call_check" = some (some (.ref f_call_check)))
    (F_call_check : ∃ fd, Fun K "call_check" "call_check" s_call_check f_call_check fd)
    (a_call_most : PySem.W.nsIn K mainGlobals "call_most" = some (some (.ref f_call_most)))
    (F_call_most : ∃ fd, Fun K "call_most" "call_most" s_call_most f_call_most fd)
    (a_answers : PySem.W.nsIn K mainGlobals "answers" = some (some (.ref f_answers)))
    (F_answers : ∃ fd, Fun K "answers" "answers" s_answers f_answers fd)
    (a_answer_call : PySem.W.nsIn K mainGlobals "answer_call" = some (some (.ref f_answer_call)))
    (F_answer_call : ∃ fd, Fun K "answer_call" "answer_call" s_answer_call f_answer_call fd)
    (a_handlers_by_number : PySem.W.nsIn K mainGlobals "handlers_by_number" = some (some (.ref f_handlers_by_number)))
    (F_handlers_by_number : ∃ fd, Fun K "handlers_by_number" "handlers_by_number" s_handlers_by_number f_handlers_by_number fd)
    (a_NO_SUCH : PySem.W.nsIn K mainGlobals "NO_SUCH" = some (some (.int (-2) k_NO_SUCH)))
    (a_BOTH_LOOSE : PySem.W.nsIn K mainGlobals "BOTH_LOOSE" = some (some (.int (-6) k_BOTH_LOOSE)))
    (a_NOT_STARTED : PySem.W.nsIn K mainGlobals "NOT_STARTED" = some (some (.int (-11) k_NOT_STARTED)))
    (a_WRONG_SIGN : PySem.W.nsIn K mainGlobals "WRONG_SIGN" = some (some (.int (-13) k_WRONG_SIGN)))
    (a_STACK_FORBIDS : PySem.W.nsIn K mainGlobals "STACK_FORBIDS" = some (some (.int (-16) k_STACK_FORBIDS)))
    (a_IN_A_STACK : PySem.W.nsIn K mainGlobals "IN_A_STACK" = some (some (.int (-17) k_IN_A_STACK)))
    (a_WRONG_VALUE : PySem.W.nsIn K mainGlobals "WRONG_VALUE" = some (some (.int (-22) k_WRONG_VALUE)))
    (a_FULL : PySem.W.nsIn K mainGlobals "FULL" = some (some (.int (-28) k_FULL)))
    (a_NO_WAY : PySem.W.nsIn K mainGlobals "NO_WAY" = some (some (.int (-33) k_NO_WAY)))
    (a_SINGLES : PySem.W.nsIn K mainGlobals "SINGLES" = some (some (.ref t_SINGLES)))
    (l_SINGLES : K.lookup t_SINGLES = some o_SINGLES)
    (k_SINGLES : o_SINGLES.cls = .type "tuple")
    (d_SINGLES : o_SINGLES.data = .seq its_SINGLES n_SINGLES)
    (s_SINGLES : its_SINGLES.size ≤ sizeLine)
    (v_SINGLES : Vals (([1, 1, 1, 2, 2, 1, 1, 0, 0, 0, 0, 1, 2, 1, 0, 1, 1, 1, 0, 0] : List Int).map V.int) its_SINGLES.toList)
    (a_LISTS : PySem.W.nsIn K mainGlobals "LISTS" = some (some (.ref t_LISTS)))
    (l_LISTS : K.lookup t_LISTS = some o_LISTS)
    (k_LISTS : o_LISTS.cls = .type "tuple")
    (d_LISTS : o_LISTS.data = .seq its_LISTS n_LISTS)
    (s_LISTS : its_LISTS.size ≤ sizeLine)
    (v_LISTS : Vals (([0, 0, 0, 0, 0, 0, 0, 1, 2, 2, 1, 0, 0, 0, 0, 0, 0, 0, 1, 0] : List Int).map V.int) its_LISTS.toList)
    (a_WIDEST : PySem.W.nsIn K mainGlobals "WIDEST" = some (some (.int (1000) k_WIDEST)))
    (a_MOST_REACH : PySem.W.nsIn K mainGlobals "MOST_REACH" = some (some (.int (100) k_MOST_REACH)))
    (a_MOST_SHEETS : PySem.W.nsIn K mainGlobals "MOST_SHEETS" = some (some (.int (14) k_MOST_SHEETS)))
    (a_LEAST_IN_STACK : PySem.W.nsIn K mainGlobals "LEAST_IN_STACK" = some (some (.int (3) k_LEAST_IN_STACK)))
    (a_MOST_PLUS_WIDTHS : PySem.W.nsIn K mainGlobals "MOST_PLUS_WIDTHS" = some (some (.int (7) k_MOST_PLUS_WIDTHS)))
    (a_MOST_MINUS_WIDTHS : PySem.W.nsIn K mainGlobals "MOST_MINUS_WIDTHS" = some (some (.int (8) k_MOST_MINUS_WIDTHS)))
    (a_MOST_PLUS_IN_EACH : PySem.W.nsIn K mainGlobals "MOST_PLUS_IN_EACH" = some (some (.int (3) k_MOST_PLUS_IN_EACH)))
    (a_START : PySem.W.nsIn K mainGlobals "START" = some (some (.int (0) k_START)))
    (z_all : PySem.W.nsIn K mainGlobals "all" = some none)
    (z_enumerate : PySem.W.nsIn K mainGlobals "enumerate" = some none)
    (z_int : PySem.W.nsIn K mainGlobals "int" = some none)
    (z_len : PySem.W.nsIn K mainGlobals "len" = some none)
    (z_list : PySem.W.nsIn K mainGlobals "list" = some none)
    (z_max : PySem.W.nsIn K mainGlobals "max" = some none)
    (z_min : PySem.W.nsIn K mainGlobals "min" = some none)
    (z_range : PySem.W.nsIn K mainGlobals "range" = some none)
    (z_set : PySem.W.nsIn K mainGlobals "set" = some none)
    (z_sorted : PySem.W.nsIn K mainGlobals "sorted" = some none)
    (z_zip : PySem.W.nsIn K mainGlobals "zip" = some none) : Nonempty (Txt K mg) :=
  ⟨{ Reader := ⟨C_Reader, c_Reader, PySem.W.mg_of X G a_Reader⟩,
      Reader_no_numbers := n_Reader_numbers,
      Reader_no_place := n_Reader_place,
      Sheet := ⟨C_Sheet, c_Sheet, PySem.W.mg_of X G a_Sheet⟩,
      Sheet_no_minus := n_Sheet_minus,
      Sheet_no_wide := n_Sheet_wide,
      Shop := ⟨C_Shop, c_Shop, PySem.W.mg_of X G a_Shop⟩,
      Shop_no_reach := n_Shop_reach,
      Shop_no_sheets := n_Shop_sheets,
      Shop_no_stacks := n_Shop_stacks,
      call_loose := ⟨f_call_loose, Classical.choose F_call_loose, Classical.choose_spec F_call_loose, (Classical.choose_spec F_call_loose).binds (ps := ["shop", "given"]) fun _ _ _ _ _ _ us hl => match us, hl with | [_, _], _ => rfl, PySem.W.mg_of X G a_call_loose⟩,
      call_stack := ⟨f_call_stack, Classical.choose F_call_stack, Classical.choose_spec F_call_stack, (Classical.choose_spec F_call_stack).binds (ps := ["shop", "given"]) fun _ _ _ _ _ _ us hl => match us, hl with | [_, _], _ => rfl, PySem.W.mg_of X G a_call_stack⟩,
      call_height := ⟨f_call_height, Classical.choose F_call_height, Classical.choose_spec F_call_height, (Classical.choose_spec F_call_height).binds (ps := ["shop", "given"]) fun _ _ _ _ _ _ us hl => match us, hl with | [_, _], _ => rfl, PySem.W.mg_of X G a_call_height⟩,
      call_sheet := ⟨f_call_sheet, Classical.choose F_call_sheet, Classical.choose_spec F_call_sheet, (Classical.choose_spec F_call_sheet).binds (ps := ["shop", "given"]) fun _ _ _ _ _ _ us hl => match us, hl with | [_, _], _ => rfl, PySem.W.mg_of X G a_call_sheet⟩,
      call_state := ⟨f_call_state, Classical.choose F_call_state, Classical.choose_spec F_call_state, (Classical.choose_spec F_call_state).binds (ps := ["shop", "given"]) fun _ _ _ _ _ _ us hl => match us, hl with | [_, _], _ => rfl, PySem.W.mg_of X G a_call_state⟩,
      call_press := ⟨f_call_press, Classical.choose F_call_press, Classical.choose_spec F_call_press, (Classical.choose_spec F_call_press).binds (ps := ["shop", "given"]) fun _ _ _ _ _ _ us hl => match us, hl with | [_, _], _ => rfl, PySem.W.mg_of X G a_call_press⟩,
      call_take := ⟨f_call_take, Classical.choose F_call_take, Classical.choose_spec F_call_take, (Classical.choose_spec F_call_take).binds (ps := ["shop", "given"]) fun _ _ _ _ _ _ us hl => match us, hl with | [_, _], _ => rfl, PySem.W.mg_of X G a_call_take⟩,
      call_swap := ⟨f_call_swap, Classical.choose F_call_swap, Classical.choose_spec F_call_swap, (Classical.choose_spec F_call_swap).binds (ps := ["shop", "given"]) fun _ _ _ _ _ _ us hl => match us, hl with | [_, _], _ => rfl, PySem.W.mg_of X G a_call_swap⟩,
      Reader_init := ⟨f_Reader_init, Classical.choose F_Reader_init, Classical.choose_spec F_Reader_init, (Classical.choose_spec F_Reader_init).binds (ps := ["self", "numbers"]) fun _ _ _ _ _ _ us hl => match us, hl with | [_, _], _ => rfl, m_Reader_init⟩,
      Reader_has_more := ⟨f_Reader_has_more, Classical.choose F_Reader_has_more, Classical.choose_spec F_Reader_has_more, (Classical.choose_spec F_Reader_has_more).binds (ps := ["self"]) fun _ _ _ _ _ _ us hl => match us, hl with | [_], _ => rfl, m_Reader_has_more⟩,
      Reader_read_number := ⟨f_Reader_read_number, Classical.choose F_Reader_read_number, Classical.choose_spec F_Reader_read_number, (Classical.choose_spec F_Reader_read_number).binds (ps := ["self"]) fun _ _ _ _ _ _ us hl => match us, hl with | [_], _ => rfl, m_Reader_read_number⟩,
      Reader_read_list := ⟨f_Reader_read_list, Classical.choose F_Reader_read_list, Classical.choose_spec F_Reader_read_list, (Classical.choose_spec F_Reader_read_list).binds (ps := ["self"]) fun _ _ _ _ _ _ us hl => match us, hl with | [_], _ => rfl, m_Reader_read_list⟩,
      Reader_read_given := ⟨f_Reader_read_given, Classical.choose F_Reader_read_given, Classical.choose_spec F_Reader_read_given, (Classical.choose_spec F_Reader_read_given).binds (ps := ["self", "number"]) fun _ _ _ _ _ _ us hl => match us, hl with | [_, _], _ => rfl, m_Reader_read_given⟩,
      is_width := ⟨f_is_width, Classical.choose F_is_width, Classical.choose_spec F_is_width, (Classical.choose_spec F_is_width).binds (ps := ["wide"]) fun _ _ _ _ _ _ us hl => match us, hl with | [_], _ => rfl, PySem.W.mg_of X G a_is_width⟩,
      least_over := ⟨f_least_over, Classical.choose F_least_over, Classical.choose_spec F_least_over, (Classical.choose_spec F_least_over).binds (ps := ["plus_width", "reach"]) fun _ _ _ _ _ _ us hl => match us, hl with | [_, _], _ => rfl, PySem.W.mg_of X G a_least_over⟩,
      reaches_over := ⟨f_reaches_over, Classical.choose F_reaches_over, Classical.choose_spec F_reaches_over, (Classical.choose_spec F_reaches_over).binds (ps := ["minus_width", "plus_width", "reach"]) fun _ _ _ _ _ _ us hl => match us, hl with | [_, _, _], _ => rfl, PySem.W.mg_of X G a_reaches_over⟩,
      can_be_stacked := ⟨f_can_be_stacked, Classical.choose F_can_be_stacked, Classical.choose_spec F_can_be_stacked, (Classical.choose_spec F_can_be_stacked).binds (ps := ["plus_widths", "minus_widths", "reach"]) fun _ _ _ _ _ _ us hl => match us, hl with | [_, _, _], _ => rfl, PySem.W.mg_of X G a_can_be_stacked⟩,
      least_more := ⟨f_least_more, Classical.choose F_least_more, Classical.choose_spec F_least_more, (Classical.choose_spec F_least_more).binds (ps := ["plus_widths", "minus_widths", "reach"]) fun _ _ _ _ _ _ us hl => match us, hl with | [_, _, _], _ => rfl, PySem.W.mg_of X G a_least_more⟩,
      most_stacks := ⟨f_most_stacks, Classical.choose F_most_stacks, Classical.choose_spec F_most_stacks, (Classical.choose_spec F_most_stacks).binds (ps := ["plus_widths", "minus_widths", "k", "reach"]) fun _ _ _ _ _ _ us hl => match us, hl with | [_, _, _, _], _ => rfl, PySem.W.mg_of X G a_most_stacks⟩,
      can_be_laid := ⟨f_can_be_laid, Classical.choose F_can_be_laid, Classical.choose_spec F_can_be_laid, (Classical.choose_spec F_can_be_laid).binds (ps := ["plus_widths", "minus_widths", "k", "count", "reach"]) fun _ _ _ _ _ _ us hl => match us, hl with | [_, _, _, _, _], _ => rfl, PySem.W.mg_of X G a_can_be_laid⟩,
      least_minus_widths := ⟨f_least_minus_widths, Classical.choose F_least_minus_widths, Classical.choose_spec F_least_minus_widths, (Classical.choose_spec F_least_minus_widths).binds (ps := ["plus_widths", "k", "reach"]) fun _ _ _ _ _ _ us hl => match us, hl with | [_, _, _], _ => rfl, PySem.W.mg_of X G a_least_minus_widths⟩,
      call_start := ⟨f_call_start, Classical.choose F_call_start, Classical.choose_spec F_call_start, (Classical.choose_spec F_call_start).binds (ps := ["shop", "given"]) fun _ _ _ _ _ _ us hl => match us, hl with | [_, _], _ => rfl, PySem.W.mg_of X G a_call_start⟩,
      call_plus := ⟨f_call_plus, Classical.choose F_call_plus, Classical.choose_spec F_call_plus, (Classical.choose_spec F_call_plus).binds (ps := ["shop", "given"]) fun _ _ _ _ _ _ us hl => match us, hl with | [_, _], _ => rfl, PySem.W.mg_of X G a_call_plus⟩,
      call_minus := ⟨f_call_minus, Classical.choose F_call_minus, Classical.choose_spec F_call_minus, (Classical.choose_spec F_call_minus).binds (ps := ["shop", "given"]) fun _ _ _ _ _ _ us hl => match us, hl with | [_, _], _ => rfl, PySem.W.mg_of X G a_call_minus⟩,
      lay_one := ⟨f_lay_one, Classical.choose F_lay_one, Classical.choose_spec F_lay_one, (Classical.choose_spec F_lay_one).binds (ps := ["shop", "minus", "wide"]) fun _ _ _ _ _ _ us hl => match us, hl with | [_, _, _], _ => rfl, PySem.W.mg_of X G a_lay_one⟩,
      call_trim := ⟨f_call_trim, Classical.choose F_call_trim, Classical.choose_spec F_call_trim, (Classical.choose_spec F_call_trim).binds (ps := ["shop", "given"]) fun _ _ _ _ _ _ us hl => match us, hl with | [_, _], _ => rfl, PySem.W.mg_of X G a_call_trim⟩,
      call_fit := ⟨f_call_fit, Classical.choose F_call_fit, Classical.choose_spec F_call_fit, (Classical.choose_spec F_call_fit).binds (ps := ["shop", "given"]) fun _ _ _ _ _ _ us hl => match us, hl with | [_, _], _ => rfl, PySem.W.mg_of X G a_call_fit⟩,
      call_over := ⟨f_call_over, Classical.choose F_call_over, Classical.choose_spec F_call_over, (Classical.choose_spec F_call_over).binds (ps := ["shop", "given"]) fun _ _ _ _ _ _ us hl => match us, hl with | [_, _], _ => rfl, PySem.W.mg_of X G a_call_over⟩,
      call_under := ⟨f_call_under, Classical.choose F_call_under, Classical.choose_spec F_call_under, (Classical.choose_spec F_call_under).binds (ps := ["shop", "given"]) fun _ _ _ _ _ _ us hl => match us, hl with | [_, _], _ => rfl, PySem.W.mg_of X G a_call_under⟩,
      fitting_to := ⟨f_fitting_to, Classical.choose F_fitting_to, Classical.choose_spec F_fitting_to, (Classical.choose_spec F_fitting_to).binds (ps := ["shop", "minus", "i"]) fun _ _ _ _ _ _ us hl => match us, hl with | [_, _, _], _ => rfl, PySem.W.mg_of X G a_fitting_to⟩,
      Sheet_init := ⟨f_Sheet_init, Classical.choose F_Sheet_init, Classical.choose_spec F_Sheet_init, (Classical.choose_spec F_Sheet_init).binds (ps := ["self", "minus", "wide"]) fun _ _ _ _ _ _ us hl => match us, hl with | [_, _, _], _ => rfl, m_Sheet_init⟩,
      Shop_init := ⟨f_Shop_init, Classical.choose F_Shop_init, Classical.choose_spec F_Shop_init, (Classical.choose_spec F_Shop_init).binds (ps := ["self"]) fun _ _ _ _ _ _ us hl => match us, hl with | [_], _ => rfl, m_Shop_init⟩,
      Shop_begin := ⟨f_Shop_begin, Classical.choose F_Shop_begin, Classical.choose_spec F_Shop_begin, (Classical.choose_spec F_Shop_begin).binds (ps := ["self", "reach"]) fun _ _ _ _ _ _ us hl => match us, hl with | [_, _], _ => rfl, m_Shop_begin⟩,
      Shop_has_begun := ⟨f_Shop_has_begun, Classical.choose F_Shop_has_begun, Classical.choose_spec F_Shop_has_begun, (Classical.choose_spec F_Shop_has_begun).binds (ps := ["self"]) fun _ _ _ _ _ _ us hl => match us, hl with | [_], _ => rfl, m_Shop_has_begun⟩,
      Shop_has_sheet := ⟨f_Shop_has_sheet, Classical.choose F_Shop_has_sheet, Classical.choose_spec F_Shop_has_sheet, (Classical.choose_spec F_Shop_has_sheet).binds (ps := ["self", "i"]) fun _ _ _ _ _ _ us hl => match us, hl with | [_, _], _ => rfl, m_Shop_has_sheet⟩,
      Shop_has_stack := ⟨f_Shop_has_stack, Classical.choose F_Shop_has_stack, Classical.choose_spec F_Shop_has_stack, (Classical.choose_spec F_Shop_has_stack).binds (ps := ["self", "number"]) fun _ _ _ _ _ _ us hl => match us, hl with | [_, _], _ => rfl, m_Shop_has_stack⟩,
      Shop_is_full := ⟨f_Shop_is_full, Classical.choose F_Shop_is_full, Classical.choose_spec F_Shop_is_full, (Classical.choose_spec F_Shop_is_full).binds (ps := ["self"]) fun _ _ _ _ _ _ us hl => match us, hl with | [_], _ => rfl, m_Shop_is_full⟩,
      Shop_lay_sheet := ⟨f_Shop_lay_sheet, Classical.choose F_Shop_lay_sheet, Classical.choose_spec F_Shop_lay_sheet, (Classical.choose_spec F_Shop_lay_sheet).binds (ps := ["self", "minus", "wide"]) fun _ _ _ _ _ _ us hl => match us, hl with | [_, _, _], _ => rfl, m_Shop_lay_sheet⟩,
      Shop_fits := ⟨f_Shop_fits, Classical.choose F_Shop_fits, Classical.choose_spec F_Shop_fits, (Classical.choose_spec F_Shop_fits).binds (ps := ["self", "i", "j"]) fun _ _ _ _ _ _ us hl => match us, hl with | [_, _, _], _ => rfl, m_Shop_fits⟩,
      Shop_fitting := ⟨f_Shop_fitting, Classical.choose F_Shop_fitting, Classical.choose_spec F_Shop_fitting, (Classical.choose_spec F_Shop_fitting).binds (ps := ["self", "i"]) fun _ _ _ _ _ _ us hl => match us, hl with | [_, _], _ => rfl, m_Shop_fitting⟩,
      Shop_are_sheets := ⟨f_Shop_are_sheets, Classical.choose F_Shop_are_sheets, Classical.choose_spec F_Shop_are_sheets, (Classical.choose_spec F_Shop_are_sheets).binds (ps := ["self", "listed"]) fun _ _ _ _ _ _ us hl => match us, hl with | [_, _], _ => rfl, m_Shop_are_sheets⟩,
      Shop_is_stack := ⟨f_Shop_is_stack, Classical.choose F_Shop_is_stack, Classical.choose_spec F_Shop_is_stack, (Classical.choose_spec F_Shop_is_stack).binds (ps := ["self", "listed"]) fun _ _ _ _ _ _ us hl => match us, hl with | [_, _], _ => rfl, m_Shop_is_stack⟩,
      Shop_stack_of := ⟨f_Shop_stack_of, Classical.choose F_Shop_stack_of, Classical.choose_spec F_Shop_stack_of, (Classical.choose_spec F_Shop_stack_of).binds (ps := ["self", "i"]) fun _ _ _ _ _ _ us hl => match us, hl with | [_, _], _ => rfl, m_Shop_stack_of⟩,
      Shop_is_loose := ⟨f_Shop_is_loose, Classical.choose F_Shop_is_loose, Classical.choose_spec F_Shop_is_loose, (Classical.choose_spec F_Shop_is_loose).binds (ps := ["self", "i"]) fun _ _ _ _ _ _ us hl => match us, hl with | [_, _], _ => rfl, m_Shop_is_loose⟩,
      Shop_loose_widths := ⟨f_Shop_loose_widths, Classical.choose F_Shop_loose_widths, Classical.choose_spec F_Shop_loose_widths, (Classical.choose_spec F_Shop_loose_widths).binds (ps := ["self", "minus"]) fun _ _ _ _ _ _ us hl => match us, hl with | [_, _], _ => rfl, m_Shop_loose_widths⟩,
      Shop_lay_stack := ⟨f_Shop_lay_stack, Classical.choose F_Shop_lay_stack, Classical.choose_spec F_Shop_lay_stack, (Classical.choose_spec F_Shop_lay_stack).binds (ps := ["self", "listed"]) fun _ _ _ _ _ _ us hl => match us, hl with | [_, _], _ => rfl, m_Shop_lay_stack⟩,
      Shop_take_stack := ⟨f_Shop_take_stack, Classical.choose F_Shop_take_stack, Classical.choose_spec F_Shop_take_stack, (Classical.choose_spec F_Shop_take_stack).binds (ps := ["self", "number"]) fun _ _ _ _ _ _ us hl => match us, hl with | [_, _], _ => rfl, m_Shop_take_stack⟩,
      Shop_stacks_with_swapped := ⟨f_Shop_stacks_with_swapped, Classical.choose F_Shop_stacks_with_swapped, Classical.choose_spec F_Shop_stacks_with_swapped, (Classical.choose_spec F_Shop_stacks_with_swapped).binds (ps := ["self", "i", "j"]) fun _ _ _ _ _ _ us hl => match us, hl with | [_, _, _], _ => rfl, m_Shop_stacks_with_swapped⟩,
      is_size_of_stack := ⟨f_is_size_of_stack, Classical.choose F_is_size_of_stack, Classical.choose_spec F_is_size_of_stack, (Classical.choose_spec F_is_size_of_stack).binds (ps := ["count"]) fun _ _ _ _ _ _ us hl => match us, hl with | [_], _ => rfl, PySem.W.mg_of X G a_is_size_of_stack⟩,
      call_order := ⟨f_call_order, Classical.choose F_call_order, Classical.choose_spec F_call_order, (Classical.choose_spec F_call_order).binds (ps := ["shop", "given"]) fun _ _ _ _ _ _ us hl => match us, hl with | [_, _], _ => rfl, PySem.W.mg_of X G a_call_order⟩,
      first_order := ⟨f_first_order, Classical.choose F_first_order, Classical.choose_spec F_first_order, (Classical.choose_spec F_first_order).binds (ps := ["shop", "listed"]) fun _ _ _ _ _ _ us hl => match us, hl with | [_, _], _ => rfl, PySem.W.mg_of X G a_first_order⟩,
      one_higher := ⟨f_one_higher, Classical.choose F_one_higher, Classical.choose_spec F_one_higher, (Classical.choose_spec F_one_higher).binds (ps := ["shop", "begun", "listed"]) fun _ _ _ _ _ _ us hl => match us, hl with | [_, _, _], _ => rfl, PySem.W.mg_of X G a_one_higher⟩,
      call_could := ⟨f_call_could, Classical.choose F_call_could, Classical.choose_spec F_call_could, (Classical.choose_spec F_call_could).binds (ps := ["shop", "given"]) fun _ _ _ _ _ _ us hl => match us, hl with | [_, _], _ => rfl, PySem.W.mg_of X G a_call_could⟩,
      call_need := ⟨f_call_need, Classical.choose F_call_need, Classical.choose_spec F_call_need, (Classical.choose_spec F_call_need).binds (ps := ["shop", "given"]) fun _ _ _ _ _ _ us hl => match us, hl with | [_, _], _ => rfl, PySem.W.mg_of X G a_call_need⟩,
      are_widths := ⟨f_are_widths, Classical.choose F_are_widths, Classical.choose_spec F_are_widths, (Classical.choose_spec F_are_widths).binds (ps := ["plus_widths", "minus_widths"]) fun _ _ _ _ _ _ us hl => match us, hl with | [_, _], _ => rfl, PySem.W.mg_of X G a_are_widths⟩,
      call_check := ⟨f_call_check, Classical.choose F_call_check, Classical.choose_spec F_call_check, (Classical.choose_spec F_call_check).binds (ps := ["shop", "given"]) fun _ _ _ _ _ _ us hl => match us, hl with | [_, _], _ => rfl, PySem.W.mg_of X G a_call_check⟩,
      call_most := ⟨f_call_most, Classical.choose F_call_most, Classical.choose_spec F_call_most, (Classical.choose_spec F_call_most).binds (ps := ["shop", "given"]) fun _ _ _ _ _ _ us hl => match us, hl with | [_, _], _ => rfl, PySem.W.mg_of X G a_call_most⟩,
      answers := ⟨f_answers, Classical.choose F_answers, Classical.choose_spec F_answers, (Classical.choose_spec F_answers).binds (ps := ["calls"]) fun _ _ _ _ _ _ us hl => match us, hl with | [_], _ => rfl, PySem.W.mg_of X G a_answers⟩,
      answer_call := ⟨f_answer_call, Classical.choose F_answer_call, Classical.choose_spec F_answer_call, (Classical.choose_spec F_answer_call).binds (ps := ["shop", "handlers", "number", "given"]) fun _ _ _ _ _ _ us hl => match us, hl with | [_, _, _, _], _ => rfl, PySem.W.mg_of X G a_answer_call⟩,
      handlers_by_number := ⟨f_handlers_by_number, Classical.choose F_handlers_by_number, Classical.choose_spec F_handlers_by_number, (Classical.choose_spec F_handlers_by_number).binds (ps := []) fun _ _ _ _ _ _ us hl => match us, hl with | [], _ => rfl, PySem.W.mg_of X G a_handlers_by_number⟩,
      NO_SUCH := ⟨k_NO_SUCH, PySem.W.mg_of X G a_NO_SUCH⟩,
      BOTH_LOOSE := ⟨k_BOTH_LOOSE, PySem.W.mg_of X G a_BOTH_LOOSE⟩,
      NOT_STARTED := ⟨k_NOT_STARTED, PySem.W.mg_of X G a_NOT_STARTED⟩,
      WRONG_SIGN := ⟨k_WRONG_SIGN, PySem.W.mg_of X G a_WRONG_SIGN⟩,
      STACK_FORBIDS := ⟨k_STACK_FORBIDS, PySem.W.mg_of X G a_STACK_FORBIDS⟩,
      IN_A_STACK := ⟨k_IN_A_STACK, PySem.W.mg_of X G a_IN_A_STACK⟩,
      WRONG_VALUE := ⟨k_WRONG_VALUE, PySem.W.mg_of X G a_WRONG_VALUE⟩,
      FULL := ⟨k_FULL, PySem.W.mg_of X G a_FULL⟩,
      NO_WAY := ⟨k_NO_WAY, PySem.W.mg_of X G a_NO_WAY⟩,
      SINGLES := ⟨t_SINGLES, PySem.W.mg_of X G a_SINGLES, fun _ => .inr ⟨_, _, _, l_SINGLES, k_SINGLES, d_SINGLES, s_SINGLES, v_SINGLES⟩⟩,
      LISTS := ⟨t_LISTS, PySem.W.mg_of X G a_LISTS, fun _ => .inr ⟨_, _, _, l_LISTS, k_LISTS, d_LISTS, s_LISTS, v_LISTS⟩⟩,
      WIDEST := ⟨k_WIDEST, PySem.W.mg_of X G a_WIDEST⟩,
      MOST_REACH := ⟨k_MOST_REACH, PySem.W.mg_of X G a_MOST_REACH⟩,
      MOST_SHEETS := ⟨k_MOST_SHEETS, PySem.W.mg_of X G a_MOST_SHEETS⟩,
      LEAST_IN_STACK := ⟨k_LEAST_IN_STACK, PySem.W.mg_of X G a_LEAST_IN_STACK⟩,
      MOST_PLUS_WIDTHS := ⟨k_MOST_PLUS_WIDTHS, PySem.W.mg_of X G a_MOST_PLUS_WIDTHS⟩,
      MOST_MINUS_WIDTHS := ⟨k_MOST_MINUS_WIDTHS, PySem.W.mg_of X G a_MOST_MINUS_WIDTHS⟩,
      MOST_PLUS_IN_EACH := ⟨k_MOST_PLUS_IN_EACH, PySem.W.mg_of X G a_MOST_PLUS_IN_EACH⟩,
      START := ⟨k_START, PySem.W.mg_of X G a_START⟩,
      b_all := PySem.W.mg_none_of X G z_all,
      b_enumerate := PySem.W.mg_none_of X G z_enumerate,
      b_int := PySem.W.mg_none_of X G z_int,
      b_len := PySem.W.mg_none_of X G z_len,
      b_list := PySem.W.mg_none_of X G z_list,
      b_max := PySem.W.mg_none_of X G z_max,
      b_min := PySem.W.mg_none_of X G z_min,
      b_range := PySem.W.mg_none_of X G z_range,
      b_set := PySem.W.mg_none_of X G z_set,
      b_sorted := PySem.W.mg_none_of X G z_sorted,
      b_zip := PySem.W.mg_none_of X G z_zip }⟩
section
variable {P : Program} {w : World} {K : PySem.W.Frag} {mg : Str → Option Value} {base : Heap}
theorem the_end {h : Heap} {fa : Addr} (X : K.In h) (G : h.Ns mainGlobals mg) (hfa : mg "answers" = some (.ref fa)) (nt : Nonempty (Txt K mg)) :
    ∃ fd : FuncData, (∀ (s : Shared) (us : List Value), us.length = (["calls"] : List Str).length → BindsTo s fd ⟨us, []⟩ ((["calls"] : List Str).zip us)) ∧ ∀ base : Heap, K.In base → base.Ns mainGlobals mg → FnOk P w K mg base CX0 8 fa fd ["calls"] (sp_answers K) := by
  obtain ⟨T⟩ := nt
  have e := hfa.symm.trans T.answers.g
  cases e
  refine ⟨T.answers.fd, fun s us hu => ?_, fun base _ _ => ok_answers T⟩
  obtain ⟨oc, od, kV, doc, pm, an, cdv, ct, osl, e, lk, hcd⟩ := T.answers.F.ex
  rw [e]
  match us, hu with
  | [_], _ => exact .of_eq rfl
end
end My
open PySem PySem.W PyProof.Rows
set_option maxRecDepth 100000 in
set_option maxHeartbeats 0 in
theorem PySem.Challenge.cw_stackedsheets_s01_answers_holds : PySem.Challenge.rw_stackedsheets_s01_answers.Holds := by
  w_on; k_headS; (case hw => exact ⟨[.list [.int 0, .int 5]], by decide +kernel, by decide +kernel⟩)
  k_fillS
  refine L2.walk_specK (r := PySem.Challenge.rw_stackedsheets_s01_answers) (k := 8) (CX := L2.CX0) (ps := ["calls"]) (sp := My.sp_answers) (by decide +kernel) rfl rfl ⟨rfl, by decide, by decide⟩ (fun w h Y => PySem.W.kIn_of Y) ?F ?S (fun _ _ _ _ z => z)
  case F =>
    intro w mg fa h Y KX G hmg
    refine' My.the_end KX G hmg (My.all_mk KX G ?a_Reader ?c_Reader ?n_Reader_numbers ?n_Reader_place ?a_Sheet ?c_Sheet ?n_Sheet_minus ?n_Sheet_wide ?a_Shop ?c_Shop ?n_Shop_reach ?n_Shop_sheets ?n_Shop_stacks ?a_call_loose ?F_call_loose ?a_call_stack ?F_call_stack ?a_call_height ?F_call_height ?a_call_sheet ?F_call_sheet ?a_call_state ?F_call_state ?a_call_press ?F_call_press ?a_call_take ?F_call_take ?a_call_swap ?F_call_swap ?m_Reader_init ?F_Reader_init ?m_Reader_has_more ?F_Reader_has_more ?m_Reader_read_number ?F_Reader_read_number ?m_Reader_read_list ?F_Reader_read_list ?m_Reader_read_given ?F_Reader_read_given ?a_is_width ?F_is_width ?a_least_over ?F_least_over ?a_reaches_over ?F_reaches_over ?a_can_be_stacked ?F_can_be_stacked ?a_least_more ?F_least_more ?a_most_stacks ?F_most_stacks ?a_can_be_laid ?F_can_be_laid ?a_least_minus_widths ?F_least_minus_widths ?a_call_start ?F_call_start ?a_call_plus ?F_call_plus ?a_call_minus ?F_call_minus ?a_lay_one ?F_lay_one ?a_call_trim ?F_call_trim ?a_call_fit ?F_call_fit ?a_call_over ?F_call_over ?a_call_under ?F_call_under ?a_fitting_to ?F_fitting_to ?m_Sheet_init ?F_Sheet_init ?m_Shop_init ?F_Shop_init ?m_Shop_begin ?F_Shop_begin ?m_Shop_has_begun ?F_Shop_has_begun ?m_Shop_has_sheet ?F_Shop_has_sheet ?m_Shop_has_stack ?F_Shop_has_stack ?m_Shop_is_full ?F_Shop_is_full ?m_Shop_lay_sheet ?F_Shop_lay_sheet ?m_Shop_fits ?F_Shop_fits ?m_Shop_fitting ?F_Shop_fitting ?m_Shop_are_sheets ?F_Shop_are_sheets ?m_Shop_is_stack ?F_Shop_is_stack ?m_Shop_stack_of ?F_Shop_stack_of ?m_Shop_is_loose ?F_Shop_is_loose ?m_Shop_loose_widths ?F_Shop_loose_widths ?m_Shop_lay_stack ?F_Shop_lay_stack ?m_Shop_take_stack ?F_Shop_take_stack ?m_Shop_stacks_with_swapped ?F_Shop_stacks_with_swapped ?a_is_size_of_stack ?F_is_size_of_stack ?a_call_order ?F_call_order ?a_first_order ?F_first_order ?a_one_higher ?F_one_higher ?a_call_could ?F_call_could ?a_call_need ?F_call_need ?a_are_widths ?F_are_widths ?a_call_check ?F_call_check ?a_call_most ?F_call_most ?a_answers ?F_answers ?a_answer_call ?F_answer_call ?a_handlers_by_number ?F_handlers_by_number ?a_NO_SUCH ?a_BOTH_LOOSE ?a_NOT_STARTED ?a_WRONG_SIGN ?a_STACK_FORBIDS ?a_IN_A_STACK ?a_WRONG_VALUE ?a_FULL ?a_NO_WAY ?a_SINGLES ?l_SINGLES ?k_SINGLES ?d_SINGLES ?s_SINGLES ?v_SINGLES ?a_LISTS ?l_LISTS ?k_LISTS ?d_LISTS ?s_LISTS ?v_LISTS ?a_WIDEST ?a_MOST_REACH ?a_MOST_SHEETS ?a_LEAST_IN_STACK ?a_MOST_PLUS_WIDTHS ?a_MOST_MINUS_WIDTHS ?a_MOST_PLUS_IN_EACH ?a_START ?z_all ?z_enumerate ?z_int ?z_len ?z_list ?z_max ?z_min ?z_range ?z_set ?z_sorted ?z_zip)
    (case a_Reader => k_is)
    (case c_Reader => (refine' ⟨?_, ?_, ?_, ?_⟩ <;> k_is))
    (case n_Reader_numbers => k_is)
    (case n_Reader_place => k_is)
    (case a_Sheet => k_is)
    (case c_Sheet => (refine' ⟨?_, ?_, ?_, ?_⟩ <;> k_is))
    (case n_Sheet_minus => k_is)
    (case n_Sheet_wide => k_is)
    (case a_Shop => k_is)
    (case c_Shop => (refine' ⟨?_, ?_, ?_, ?_⟩ <;> k_is))
    (case n_Shop_reach => k_is)
    (case n_Shop_sheets => k_is)
    (case n_Shop_stacks => k_is)
    (case a_call_loose => k_is)
    (case F_call_loose => (refine' ⟨_, L2.fun_mk ?l ?c ?k⟩; (case l => k_is); (case c => k_is); (case k => k_is)))
    (case a_call_stack => k_is)
    (case F_call_stack => (refine' ⟨_, L2.fun_mk ?l ?c ?k⟩; (case l => k_is); (case c => k_is); (case k => k_is)))
    (case a_call_height => k_is)
    (case F_call_height => (refine' ⟨_, L2.fun_mk ?l ?c ?k⟩; (case l => k_is); (case c => k_is); (case k => k_is)))
    (case a_call_sheet => k_is)
    (case F_call_sheet => (refine' ⟨_, L2.fun_mk ?l ?c ?k⟩; (case l => k_is); (case c => k_is); (case k => k_is)))
    (case a_call_state => k_is)
    (case F_call_state => (refine' ⟨_, L2.fun_mk ?l ?c ?k⟩; (case l => k_is); (case c => k_is); (case k => k_is)))
    (case a_call_press => k_is)
    (case F_call_press => (refine' ⟨_, L2.fun_mk ?l ?c ?k⟩; (case l => k_is); (case c => k_is); (case k => k_is)))
    (case a_call_take => k_is)
    (case F_call_take => (refine' ⟨_, L2.fun_mk ?l ?c ?k⟩; (case l => k_is); (case c => k_is); (case k => k_is)))
    (case a_call_swap => k_is)
    (case F_call_swap => (refine' ⟨_, L2.fun_mk ?l ?c ?k⟩; (case l => k_is); (case c => k_is); (case k => k_is)))
    (case m_Reader_init => (refine' ⟨?makes, ?init, ?fn, ?kp⟩; (case init => k_is); (case makes => k_is); (case fn => k_is); (case kp => k_is)))
    (case F_Reader_init => (refine' ⟨_, L2.fun_mk ?l ?c ?k⟩; (case l => k_is); (case c => k_is); (case k => k_is)))
    (case m_Reader_has_more => (refine' ⟨?at_, ?fn, ?kp⟩; (case at_ => k_is); (case fn => k_is); (case kp => k_is)))
    (case F_Reader_has_more => (refine' ⟨_, L2.fun_mk ?l ?c ?k⟩; (case l => k_is); (case c => k_is); (case k => k_is)))
    (case m_Reader_read_number => (refine' ⟨?at_, ?fn, ?kp⟩; (case at_ => k_is); (case fn => k_is); (case kp => k_is)))
    (case F_Reader_read_number => (refine' ⟨_, L2.fun_mk ?l ?c ?k⟩; (case l => k_is); (case c => k_is); (case k => k_is)))
    (case m_Reader_read_list => (refine' ⟨?at_, ?fn, ?kp⟩; (case at_ => k_is); (case fn => k_is); (case kp => k_is)))
    (case F_Reader_read_list => (refine' ⟨_, L2.fun_mk ?l ?c ?k⟩; (case l => k_is); (case c => k_is); (case k => k_is)))
    (case m_Reader_read_given => (refine' ⟨?at_, ?fn, ?kp⟩; (case at_ => k_is); (case fn => k_is); (case kp => k_is)))
    (case F_Reader_read_given => (refine' ⟨_, L2.fun_mk ?l ?c ?k⟩; (case l => k_is); (case c => k_is); (case k => k_is)))
    (case a_is_width => k_is)
    (case F_is_width => (refine' ⟨_, L2.fun_mk ?l ?c ?k⟩; (case l => k_is); (case c => k_is); (case k => k_is)))
    (case a_least_over => k_is)
    (case F_least_over => (refine' ⟨_, L2.fun_mk ?l ?c ?k⟩; (case l => k_is); (case c => k_is); (case k => k_is)))
    (case a_reaches_over => k_is)
    (case F_reaches_over => (refine' ⟨_, L2.fun_mk ?l ?c ?k⟩; (case l => k_is); (case c => k_is); (case k => k_is)))
    (case a_can_be_stacked => k_is)
    (case F_can_be_stacked => (refine' ⟨_, L2.fun_mk ?l ?c ?k⟩; (case l => k_is); (case c => k_is); (case k => k_is)))
    (case a_least_more => k_is)
    (case F_least_more => (refine' ⟨_, L2.fun_mk ?l ?c ?k⟩; (case l => k_is); (case c => k_is); (case k => k_is)))
    (case a_most_stacks => k_is)
    (case F_most_stacks => (refine' ⟨_, L2.fun_mk ?l ?c ?k⟩; (case l => k_is); (case c => k_is); (case k => k_is)))
    (case a_can_be_laid => k_is)
    (case F_can_be_laid => (refine' ⟨_, L2.fun_mk ?l ?c ?k⟩; (case l => k_is); (case c => k_is); (case k => k_is)))
    (case a_least_minus_widths => k_is)
    (case F_least_minus_widths => (refine' ⟨_, L2.fun_mk ?l ?c ?k⟩; (case l => k_is); (case c => k_is); (case k => k_is)))
    (case a_call_start => k_is)
    (case F_call_start => (refine' ⟨_, L2.fun_mk ?l ?c ?k⟩; (case l => k_is); (case c => k_is); (case k => k_is)))
    (case a_call_plus => k_is)
    (case F_call_plus => (refine' ⟨_, L2.fun_mk ?l ?c ?k⟩; (case l => k_is); (case c => k_is); (case k => k_is)))
    (case a_call_minus => k_is)
    (case F_call_minus => (refine' ⟨_, L2.fun_mk ?l ?c ?k⟩; (case l => k_is); (case c => k_is); (case k => k_is)))
    (case a_lay_one => k_is)
    (case F_lay_one => (refine' ⟨_, L2.fun_mk ?l ?c ?k⟩; (case l => k_is); (case c => k_is); (case k => k_is)))
    (case a_call_trim => k_is)
    (case F_call_trim => (refine' ⟨_, L2.fun_mk ?l ?c ?k⟩; (case l => k_is); (case c => k_is); (case k => k_is)))
    (case a_call_fit => k_is)
    (case F_call_fit => (refine' ⟨_, L2.fun_mk ?l ?c ?k⟩; (case l => k_is); (case c => k_is); (case k => k_is)))
    (case a_call_over => k_is)
    (case F_call_over => (refine' ⟨_, L2.fun_mk ?l ?c ?k⟩; (case l => k_is); (case c => k_is); (case k => k_is)))
    (case a_call_under => k_is)
    (case F_call_under => (refine' ⟨_, L2.fun_mk ?l ?c ?k⟩; (case l => k_is); (case c => k_is); (case k => k_is)))
    (case a_fitting_to => k_is)
    (case F_fitting_to => (refine' ⟨_, L2.fun_mk ?l ?c ?k⟩; (case l => k_is); (case c => k_is); (case k => k_is)))
    (case m_Sheet_init => (refine' ⟨?makes, ?init, ?fn, ?kp⟩; (case init => k_is); (case makes => k_is); (case fn => k_is); (case kp => k_is)))
    (case F_Sheet_init => (refine' ⟨_, L2.fun_mk ?l ?c ?k⟩; (case l => k_is); (case c => k_is); (case k => k_is)))
    (case m_Shop_init => (refine' ⟨?makes, ?init, ?fn, ?kp⟩; (case init => k_is); (case makes => k_is); (case fn => k_is); (case kp => k_is)))
    (case F_Shop_init => (refine' ⟨_, L2.fun_mk ?l ?c ?k⟩; (case l => k_is); (case c => k_is); (case k => k_is)))
    (case m_Shop_begin => (refine' ⟨?at_, ?fn, ?kp⟩; (case at_ => k_is); (case fn => k_is); (case kp => k_is)))
    (case F_Shop_begin => (refine' ⟨_, L2.fun_mk ?l ?c ?k⟩; (case l => k_is); (case c => k_is); (case k => k_is)))
    (case m_Shop_has_begun => (refine' ⟨?at_, ?fn, ?kp⟩; (case at_ => k_is); (case fn => k_is); (case kp => k_is)))
    (case F_Shop_has_begun => (refine' ⟨_, L2.fun_mk ?l ?c ?k⟩; (case l => k_is); (case c => k_is); (case k => k_is)))
    (case m_Shop_has_sheet => (refine' ⟨?at_, ?fn, ?kp⟩; (case at_ => k_is); (case fn => k_is); (case kp => k_is)))
    (case F_Shop_has_sheet => (refine' ⟨_, L2.fun_mk ?l ?c ?k⟩; (case l => k_is); (case c => k_is); (case k => k_is)))
    (case m_Shop_has_stack => (refine' ⟨?at_, ?fn, ?kp⟩; (case at_ => k_is); (case fn => k_is); (case kp => k_is)))
    (case F_Shop_has_stack => (refine' ⟨_, L2.fun_mk ?l ?c ?k⟩; (case l => k_is); (case c => k_is); (case k => k_is)))
    (case m_Shop_is_full => (refine' ⟨?at_, ?fn, ?kp⟩; (case at_ => k_is); (case fn => k_is); (case kp => k_is)))
    (case F_Shop_is_full => (refine' ⟨_, L2.fun_mk ?l ?c ?k⟩; (case l => k_is); (case c => k_is); (case k => k_is)))
    (case m_Shop_lay_sheet => (refine' ⟨?at_, ?fn, ?kp⟩; (case at_ => k_is); (case fn => k_is); (case kp => k_is)))
    (case F_Shop_lay_sheet => (refine' ⟨_, L2.fun_mk ?l ?c ?k⟩; (case l => k_is); (case c => k_is); (case k => k_is)))
    (case m_Shop_fits => (refine' ⟨?at_, ?fn, ?kp⟩; (case at_ => k_is); (case fn => k_is); (case kp => k_is)))
    (case F_Shop_fits => (refine' ⟨_, L2.fun_mk ?l ?c ?k⟩; (case l => k_is); (case c => k_is); (case k => k_is)))
    (case m_Shop_fitting => (refine' ⟨?at_, ?fn, ?kp⟩; (case at_ => k_is); (case fn => k_is); (case kp => k_is)))
    (case F_Shop_fitting => (refine' ⟨_, L2.fun_mk ?l ?c ?k⟩; (case l => k_is); (case c => k_is); (case k => k_is)))
    (case m_Shop_are_sheets => (refine' ⟨?at_, ?fn, ?kp⟩; (case at_ => k_is); (case fn => k_is); (case kp => k_is)))
    (case F_Shop_are_sheets => (refine' ⟨_, L2.fun_mk ?l ?c ?k⟩; (case l => k_is); (case c => k_is); (case k => k_is)))
    (case m_Shop_is_stack => (refine' ⟨?at_, ?fn, ?kp⟩; (case at_ => k_is); (case fn => k_is); (case kp => k_is)))
    (case F_Shop_is_stack => (refine' ⟨_, L2.fun_mk ?l ?c ?k⟩; (case l => k_is); (case c => k_is); (case k => k_is)))
    (case m_Shop_stack_of => (refine' ⟨?at_, ?fn, ?kp⟩; (case at_ => k_is); (case fn => k_is); (case kp => k_is)))
    (case F_Shop_stack_of => (refine' ⟨_, L2.fun_mk ?l ?c ?k⟩; (case l => k_is); (case c => k_is); (case k => k_is)))
    (case m_Shop_is_loose => (refine' ⟨?at_, ?fn, ?kp⟩; (case at_ => k_is); (case fn => k_is); (case kp => k_is)))
    (case F_Shop_is_loose => (refine' ⟨_, L2.fun_mk ?l ?c ?k⟩; (case l => k_is); (case c => k_is); (case k => k_is)))
    (case m_Shop_loose_widths => (refine' ⟨?at_, ?fn, ?kp⟩; (case at_ => k_is); (case fn => k_is); (case kp => k_is)))
    (case F_Shop_loose_widths => (refine' ⟨_, L2.fun_mk ?l ?c ?k⟩; (case l => k_is); (case c => k_is); (case k => k_is)))
    (case m_Shop_lay_stack => (refine' ⟨?at_, ?fn, ?kp⟩; (case at_ => k_is); (case fn => k_is); (case kp => k_is)))
    (case F_Shop_lay_stack => (refine' ⟨_, L2.fun_mk ?l ?c ?k⟩; (case l => k_is); (case c => k_is); (case k => k_is)))
    (case m_Shop_take_stack => (refine' ⟨?at_, ?fn, ?kp⟩; (case at_ => k_is); (case fn => k_is); (case kp => k_is)))
    (case F_Shop_take_stack => (refine' ⟨_, L2.fun_mk ?l ?c ?k⟩; (case l => k_is); (case c => k_is); (case k => k_is)))
    (case m_Shop_stacks_with_swapped => (refine' ⟨?at_, ?fn, ?kp⟩; (case at_ => k_is); (case fn => k_is); (case kp => k_is)))
    (case F_Shop_stacks_with_swapped => (refine' ⟨_, L2.fun_mk ?l ?c ?k⟩; (case l => k_is); (case c => k_is); (case k => k_is)))
    (case a_is_size_of_stack => k_is)
    (case F_is_size_of_stack => (refine' ⟨_, L2.fun_mk ?l ?c ?k⟩; (case l => k_is); (case c => k_is); (case k => k_is)))
    (case a_call_order => k_is)
    (case F_call_order => (refine' ⟨_, L2.fun_mk ?l ?c ?k⟩; (case l => k_is); (case c => k_is); (case k => k_is)))
    (case a_first_order => k_is)
    (case F_first_order => (refine' ⟨_, L2.fun_mk ?l ?c ?k⟩; (case l => k_is); (case c => k_is); (case k => k_is)))
    (case a_one_higher => k_is)
    (case F_one_higher => (refine' ⟨_, L2.fun_mk ?l ?c ?k⟩; (case l => k_is); (case c => k_is); (case k => k_is)))
    (case a_call_could => k_is)
    (case F_call_could => (refine' ⟨_, L2.fun_mk ?l ?c ?k⟩; (case l => k_is); (case c => k_is); (case k => k_is)))
    (case a_call_need => k_is)
    (case F_call_need => (refine' ⟨_, L2.fun_mk ?l ?c ?k⟩; (case l => k_is); (case c => k_is); (case k => k_is)))
    (case a_are_widths => k_is)
    (case F_are_widths => (refine' ⟨_, L2.fun_mk ?l ?c ?k⟩; (case l => k_is); (case c => k_is); (case k => k_is)))
    (case a_call_check => k_is)
    (case F_call_check => (refine' ⟨_, L2.fun_mk ?l ?c ?k⟩; (case l => k_is); (case c => k_is); (case k => k_is)))
    (case a_call_most => k_is)
    (case F_call_most => (refine' ⟨_, L2.fun_mk ?l ?c ?k⟩; (case l => k_is); (case c => k_is); (case k => k_is)))
    (case a_answers => k_is)
    (case F_answers => (refine' ⟨_, L2.fun_mk ?l ?c ?k⟩; (case l => k_is); (case c => k_is); (case k => k_is)))
    (case a_answer_call => k_is)
    (case F_answer_call => (refine' ⟨_, L2.fun_mk ?l ?c ?k⟩; (case l => k_is); (case c => k_is); (case k => k_is)))
    (case a_handlers_by_number => k_is)
    (case F_handlers_by_number => (refine' ⟨_, L2.fun_mk ?l ?c ?k⟩; (case l => k_is); (case c => k_is); (case k => k_is)))
    (case a_NO_SUCH => k_is)
    (case a_BOTH_LOOSE => k_is)
    (case a_NOT_STARTED => k_is)
    (case a_WRONG_SIGN => k_is)
    (case a_STACK_FORBIDS => k_is)
    (case a_IN_A_STACK => k_is)
    (case a_WRONG_VALUE => k_is)
    (case a_FULL => k_is)
    (case a_NO_WAY => k_is)
    (case a_SINGLES => k_is)
    (case l_SINGLES => k_is)
    (case k_SINGLES => rfl)
    (case d_SINGLES => rfl)
    (case s_SINGLES => decide)
    (case v_SINGLES => repeat (first | exact .nil | refine .cons ⟨_, rfl⟩ ?_))
    (case a_LISTS => k_is)
    (case l_LISTS => k_is)
    (case k_LISTS => rfl)
    (case d_LISTS => rfl)
    (case s_LISTS => decide)
    (case v_LISTS => repeat (first | exact .nil | refine .cons ⟨_, rfl⟩ ?_))
    (case a_WIDEST => k_is)
    (case a_MOST_REACH => k_is)
    (case a_MOST_SHEETS => k_is)
    (case a_LEAST_IN_STACK => k_is)
    (case a_MOST_PLUS_WIDTHS => k_is)
    (case a_MOST_MINUS_WIDTHS => k_is)
    (case a_MOST_PLUS_IN_EACH => k_is)
    (case a_START => k_is)
    (case z_all => k_is)
    (case z_enumerate => k_is)
    (case z_int => k_is)
    (case z_len => k_is)
    (case z_list => k_is)
    (case z_max => k_is)
    (case z_min => k_is)
    (case z_range => k_is)
    (case z_set => k_is)
    (case z_sorted => k_is)
    (case z_zip => k_is)
  case S =>
    intro K H xs a hO hwi hask hx
    cases hx with
    | cons h1 h2 =>
      cases h2
      cases h1 with
      | lst hs ha =>
        have e := L2.ints_dw a.1 _ ha
        subst e
        exact ⟨_, a.1, rfl, hs, hO, hask, fun H' p hp => .lst (L2.SqL.of hp) (L2.dw_ints _)⟩
