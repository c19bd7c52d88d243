import PyProof.Rows.All
import Wide.All
import OpenK.AllK
import PySem.SetOps
import PyProof.Rows.SetFrom
import PyProof.Rows.SortShellAny
import PyProof.CollectIter
import PyProof.DictWalks
import PyProof.FactsAll.set_1
import Wide.FinOn
import PyProof.EqAt
import PyProof.EqKinds
import PyProof.TupleCall
import KE.BitLaws
import KE.OsGo
import KE.OsEnd
import Open.SpecLaws
import KE.KRevIter
import PyProof.Rows.RuleM_int
import PySem.Challenge.RW_beatsround_s01_answers
set_option linter.all false
namespace Ar
open Rc77
theorem under_iff {s t : Nat} : under s t = true ↔ ∀ i, s.testBit i = true → t.testBit i = true := by
  unfold under
  rw [beq_iff_eq]
  constructor
  · intro h i hi
    have e : (s &&& t).testBit i = s.testBit i := by
      show (Nat.land s t).testBit i = _
      rw [h]
    rw [Nat.testBit_and, hi, Bool.true_and] at e
    exact e
  · intro h
    show s &&& t = s
    apply Nat.eq_of_testBit_eq
    intro i
    rw [Nat.testBit_and]
    cases e : s.testBit i with
    | false => simp
    | true => simp [h i e]
theorem under_refl (s : Nat) : under s s = true := under_iff.mpr fun _ h => h
theorem under_trans {s t u : Nat} (h : under s t = true) (k : under t u = true) : under s u = true :=
  under_iff.mpr fun i hi => under_iff.mp k i (under_iff.mp h i hi)
theorem under_antisymm {s t : Nat} (h : under s t = true) (k : under t s = true) : s = t := by
  apply Nat.eq_of_testBit_eq
  intro i
  cases e : s.testBit i with
  | true => exact (under_iff.mp h i e).symm
  | false =>
    cases e2 : t.testBit i with
    | false => rfl
    | true => rw [under_iff.mp k i e2] at e; cases e
theorem under_le {s t : Nat} (h : under s t = true) : s ≤ t := by
  unfold under at h
  rw [beq_iff_eq] at h
  have : s &&& t = s := h
  rw [← this]
  exact Nat.and_le_right
/-- the set of those below n of which p is true -/
def bitsum (p : Nat → Bool) : Nat → Nat
  | 0 => 0
  | n + 1 => bitsum p n + if p n = true then 2 ^ n else 0
theorem bitsum_lt (p : Nat → Bool) : ∀ n, bitsum p n < 2 ^ n
  | 0 => by simp [bitsum]
  | n + 1 => by
    have h := bitsum_lt p n
    show bitsum p n + _ < _
    rw [Nat.pow_succ]
    split <;> omega
theorem testBit_bitsum (p : Nat → Bool) (i : Nat) : ∀ n, (bitsum p n).testBit i = (decide (i < n) && p i)
  | 0 => by simp [bitsum]
  | n + 1 => by
    have ih := testBit_bitsum p i n
    have hl := bitsum_lt p n
    show (bitsum p n + if p n = true then 2 ^ n else 0).testBit i = _
    by_cases hp : p n = true
    · rw [if_pos hp, Nat.add_comm]
      rcases Nat.lt_trichotomy i n with h | h | h
      · rw [Nat.testBit_two_pow_add_gt h, ih]
        have : i < n + 1 := by omega
        simp [h, this]
      · subst h
        rw [Nat.testBit_two_pow_add_eq, ih]
        simp [hp]
      · have h1 : ¬ i < n + 1 := by omega
        have : 2 ^ n + bitsum p n < 2 ^ i := by
          have : 2 ^ (n + 1) ≤ 2 ^ i := Nat.pow_le_pow_right (by decide) h
          rw [Nat.pow_succ] at this
          omega
        rw [Nat.testBit_lt_two_pow this]
        simp [h1]
    · rw [if_neg hp, Nat.add_zero, ih]
      have hp' : p n = false := by simpa using hp
      rcases Nat.lt_trichotomy i n with h | h | h
      · have : i < n + 1 := by omega
        simp [h, this]
      · subst h; simp [hp']
      · have h1 : ¬ i < n + 1 := by omega
        have h2 : ¬ i < n := by omega
        simp [h1, h2]
theorem mask_aux (i : Nat) : ∀ (l : List Nat) (m : Nat), (l.foldl (fun m a => Nat.lor m (2 ^ a)) m).testBit i = (m.testBit i || l.contains i)
  | [], m => by simp
  | a :: l, m => by
    rw [List.foldl_cons, mask_aux i l]
    show ((m ||| 2 ^ a).testBit i || _) = _
    rw [Nat.testBit_or, Nat.testBit_two_pow, List.contains_cons]
    by_cases h : a = i
    · subst h; simp
    · have : ¬ i = a := fun z => h z.symm
      have h3 : (i == a) = false := by simpa using this
      simp [h, h3]
theorem testBit_mask (l : List Nat) (i : Nat) : (mask l).testBit i = l.contains i := by
  unfold mask
  rw [mask_aux]
  simp
theorem mask_filter (p : Nat → Bool) (n : Nat) : mask ((List.range n).filter p) = bitsum p n := by
  apply Nat.eq_of_testBit_eq
  intro i
  rw [testBit_mask, testBit_bitsum]
  apply Bool.eq_iff_iff.mpr
  simp [List.mem_filter, List.mem_range]
theorem lt_of_bits {s n : Nat} (h : ∀ i, s.testBit i = true → i < n) : s < 2 ^ n := by
  apply Nat.lt_pow_two_of_testBit
  intro i hi
  cases e : s.testBit i with
  | false => rfl
  | true => have := h i e; omega
theorem bits_lt {s n i : Nat} (h : s < 2 ^ n) (hi : s.testBit i = true) : i < n := by
  apply Nat.lt_of_not_le
  intro hn
  have : s < 2 ^ i := Nat.lt_of_lt_of_le h (Nat.pow_le_pow_right (by decide) hn)
  rw [Nat.testBit_lt_two_pow this] at hi
  cases hi
/-- the union of f a over the a below n that s has -/
def lorSel (f : Nat → Nat) (s : Nat) : Nat → Nat
  | 0 => 0
  | n + 1 => if s.testBit n = true then lorSel f s n ||| f n else lorSel f s n
theorem testBit_lorSel (f : Nat → Nat) (s i : Nat) : ∀ n, (lorSel f s n).testBit i = true ↔ ∃ a, a < n ∧ s.testBit a = true ∧ (f a).testBit i = true
  | 0 => by simp [lorSel]
  | n + 1 => by
    have ih := testBit_lorSel f s i n
    show (if s.testBit n = true then lorSel f s n ||| f n else lorSel f s n).testBit i = true ↔ _
    by_cases h : s.testBit n = true
    · rw [if_pos h, Nat.testBit_or, Bool.or_eq_true, ih]
      constructor
      · rintro (⟨a, h1, h2, h3⟩ | h3)
        · exact ⟨a, by omega, h2, h3⟩
        · exact ⟨n, by omega, h, h3⟩
      · rintro ⟨a, h1, h2, h3⟩
        by_cases e : a = n
        · subst e; exact .inr h3
        · exact .inl ⟨a, by omega, h2, h3⟩
    · rw [if_neg h, ih]
      constructor
      · rintro ⟨a, h1, h2, h3⟩; exact ⟨a, by omega, h2, h3⟩
      · rintro ⟨a, h1, h2, h3⟩
        have : a ≠ n := fun z => h (z ▸ h2)
        exact ⟨a, by omega, h2, h3⟩
def beatersOf (F : Frame) (a : Nat) : Nat := bitsum (fun b => beats F b a) F.length
def beatenBy (F : Frame) (s : Nat) : Nat := lorSel (fun a => F.getD a 0) s F.length
def beatersBy (F : Frame) (s : Nat) : Nat := lorSel (beatersOf F) s F.length
def Wf (F : Frame) : Prop := ∀ m ∈ F, m < 2 ^ F.length
theorem Wf.bit {F : Frame} (h : Wf F) {a b : Nat} (hb : beats F a b = true) : a < F.length ∧ b < F.length := by
  unfold beats at hb
  rw [List.getD_eq_getElem?_getD] at hb
  cases e : F[a]? with
  | none => rw [e] at hb; simp at hb
  | some m =>
    rw [e] at hb
    have hm : m ∈ F := List.mem_of_getElem? e
    exact ⟨(List.getElem?_eq_some_iff.mp e).1, bits_lt (h m hm) hb⟩
theorem testBit_beatersOf (F : Frame) (a b : Nat) : (beatersOf F a).testBit b = (decide (b < F.length) && beats F b a) := testBit_bitsum _ _ _
theorem Wf.beatersOf {F : Frame} (h : Wf F) (a b : Nat) : (beatersOf F a).testBit b = beats F b a := by
  rw [testBit_beatersOf]
  cases e : beats F b a with
  | false => simp
  | true => simp [(h.bit e).1]
theorem mem_members {F : Frame} {s a : Nat} : a ∈ members F s ↔ a < F.length ∧ s.testBit a = true := by
  unfold members numbers
  simp [List.mem_filter, List.mem_range]
theorem beaten_iff {F : Frame} {s b : Nat} : beaten F s b = true ↔ ∃ a, a < F.length ∧ s.testBit a = true ∧ beats F a b = true := by
  unfold beaten
  rw [List.any_eq_true]
  constructor
  · rintro ⟨a, h, k⟩; exact ⟨a, (mem_members.mp h).1, (mem_members.mp h).2, k⟩
  · rintro ⟨a, h, k, l⟩; exact ⟨a, mem_members.mpr ⟨h, k⟩, l⟩
theorem testBit_beatenBy (F : Frame) (s b : Nat) : (beatenBy F s).testBit b = beaten F s b := by
  apply Bool.eq_iff_iff.mpr
  unfold beatenBy
  rw [testBit_lorSel, beaten_iff]
  rfl
theorem testBit_beatersBy {F : Frame} {s b : Nat} : (beatersBy F s).testBit b = true ↔ b < F.length ∧ ∃ a, a < F.length ∧ s.testBit a = true ∧ beats F b a = true := by
  unfold beatersBy
  rw [testBit_lorSel]
  constructor
  · rintro ⟨a, h1, h2, h3⟩
    rw [testBit_beatersOf, Bool.and_eq_true, decide_eq_true_eq] at h3
    exact ⟨h3.1, a, h1, h2, h3.2⟩
  · rintro ⟨h, a, h1, h2, h3⟩
    exact ⟨a, h1, h2, by rw [testBit_beatersOf, Bool.and_eq_true, decide_eq_true_eq]; exact ⟨h, h3⟩⟩
theorem shields_iff {F : Frame} {s a : Nat} : shields F s a = true ↔ ∀ b, b < F.length → beats F b a = true → beaten F s b = true := by
  unfold shields numbers
  rw [List.all_eq_true]
  constructor
  · intro h b hb k
    have := h b (List.mem_range.mpr hb)
    rw [k] at this
    simpa using this
  · intro h b hb
    cases e : beats F b a with
    | false => rfl
    | true => simp [h b (List.mem_range.mp hb) e]
theorem shields_eq (F : Frame) (s a : Nat) : shields F s a = under (beatersOf F a) (beatenBy F s) := by
  apply Bool.eq_iff_iff.mpr
  rw [shields_iff, under_iff]
  constructor
  · intro h b hb
    rw [testBit_beatersOf, Bool.and_eq_true, decide_eq_true_eq] at hb
    rw [testBit_beatenBy]
    exact h b hb.1 hb.2
  · intro h b hb k
    have := h b (by rw [testBit_beatersOf, Bool.and_eq_true, decide_eq_true_eq]; exact ⟨hb, k⟩)
    rw [testBit_beatenBy] at this
    exact this
def shieldedBy (F : Frame) (s : Nat) : Nat := bitsum (fun a => under (beatersOf F a) (beatenBy F s)) F.length
theorem rounds_succ (F : Frame) (k : Nat) : rounds F (k + 1) = shieldedBy F (rounds F k) := by
  show mask ((numbers F).filter (shields F (rounds F k))) = _
  unfold numbers
  rw [mask_filter]
  unfold shieldedBy
  congr 1
  funext a
  exact shields_eq F _ a
theorem free_iff {F : Frame} {s : Nat} : free F s = true ↔ ∀ a b, a < F.length → b < F.length → s.testBit a = true → s.testBit b = true → beats F a b = false := by
  unfold free
  rw [List.all_eq_true]
  constructor
  · intro h a b ha hb sa sb
    have := h b (mem_members.mpr ⟨hb, sb⟩)
    cases e : beats F a b with
    | false => rfl
    | true =>
      have k : beaten F s b = true := beaten_iff.mpr ⟨a, ha, sa, e⟩
      rw [k] at this
      cases this
  · intro h b hb
    obtain ⟨hb, sb⟩ := mem_members.mp hb
    cases e : beaten F s b with
    | false => rfl
    | true =>
      obtain ⟨a, ha, sa, k⟩ := beaten_iff.mp e
      rw [h a b ha hb sa sb] at k
      cases k
abbrev Row := Nat × Nat × Nat
def rowOf (F : Frame) (s : Nat) : Row := (s, beatenBy F s, beatersBy F s)
def rowsStep (F : Frame) (rows : List Row) (a : Nat) : List Row :=
  if beats F a a = true then rows else
    rows ++ (rows.filter fun r => !(r.2.1 ||| r.2.2).testBit a).map fun r => (r.1 ||| 2 ^ a, r.2.1 ||| F.getD a 0, r.2.2 ||| beatersOf F a)
def peaceRows (F : Frame) (k : Nat) : List Row := (List.range k).foldl (rowsStep F) [(0, 0, 0)]
theorem peaceRows_succ (F : Frame) (k : Nat) : peaceRows F (k + 1) = rowsStep F (peaceRows F k) k := by
  unfold peaceRows
  rw [List.range_succ, List.foldl_append]
  rfl
theorem or_pow {s k : Nat} (h : s < 2 ^ k) : s ||| 2 ^ k = 2 ^ k + s := by
  rw [Nat.or_comm]
  have := Nat.two_pow_add_eq_or_of_lt h 1
  simpa using this.symm
theorem testBit_or_pow (s k i : Nat) : (s ||| 2 ^ k).testBit i = (s.testBit i || decide (i = k)) := by
  rw [Nat.testBit_or, Nat.testBit_two_pow]
  congr 1
  apply Bool.eq_iff_iff.mpr
  simp [eq_comm]
theorem lorSel_or (f : Nat → Nat) (s k : Nat) (n : Nat) (hk : k < n) : lorSel f (s ||| 2 ^ k) n = lorSel f s n ||| f k := by
  apply Nat.eq_of_testBit_eq
  intro i
  apply Bool.eq_iff_iff.mpr
  rw [testBit_lorSel, Nat.testBit_or, Bool.or_eq_true, testBit_lorSel]
  constructor
  · rintro ⟨a, h1, h2, h3⟩
    rw [testBit_or_pow, Bool.or_eq_true, decide_eq_true_eq] at h2
    rcases h2 with h2 | rfl
    · exact .inl ⟨a, h1, h2, h3⟩
    · exact .inr h3
  · rintro (⟨a, h1, h2, h3⟩ | h3)
    · exact ⟨a, h1, by rw [testBit_or_pow, h2]; rfl, h3⟩
    · exact ⟨k, hk, by rw [testBit_or_pow]; simp, h3⟩
theorem rowOf_or (F : Frame) (s k : Nat) (hk : k < F.length) : rowOf F (s ||| 2 ^ k) = (s ||| 2 ^ k, beatenBy F s ||| F.getD k 0, beatersBy F s ||| beatersOf F k) := by
  unfold rowOf beatenBy beatersBy
  rw [lorSel_or _ s k _ hk, lorSel_or _ s k _ hk]
theorem free_or {F : Frame} {s k : Nat} (hs : s < 2 ^ k) (hk : k < F.length) :
    free F (s ||| 2 ^ k) = (free F s && (!beats F k k && !(beatenBy F s ||| beatersBy F s).testBit k)) := by
  apply Bool.eq_iff_iff.mpr
  rw [Bool.and_eq_true, Bool.and_eq_true, Bool.not_eq_true', Bool.not_eq_true', Nat.testBit_or, Bool.or_eq_false_iff, free_iff, free_iff]
  constructor
  · intro h
    have hsub : ∀ i, s.testBit i = true → (s ||| 2 ^ k).testBit i = true := fun i hi => by rw [testBit_or_pow, hi]; rfl
    have hkk : (s ||| 2 ^ k).testBit k = true := by rw [testBit_or_pow]; simp
    refine ⟨fun a b ha hb sa sb => h a b ha hb (hsub a sa) (hsub b sb), h k k hk hk hkk hkk, ?_, ?_⟩
    · cases e : (beatenBy F s).testBit k with
      | false => rfl
      | true =>
        rw [testBit_beatenBy] at e
        obtain ⟨a, ha, sa, z⟩ := beaten_iff.mp e
        rw [h a k ha hk (hsub a sa) hkk] at z
        cases z
    · cases e : (beatersBy F s).testBit k with
      | false => rfl
      | true =>
        obtain ⟨_, a, ha, sa, z⟩ := testBit_beatersBy.mp e
        rw [h k a hk ha hkk (hsub a sa)] at z
        cases z
  · rintro ⟨h, h1, h2, h3⟩ a b ha hb sa sb
    rw [testBit_or_pow, Bool.or_eq_true, decide_eq_true_eq] at sa sb
    cases e : beats F a b with
    | false => rfl
    | true =>
      exfalso
      rcases sa with sa | rfl
      · rcases sb with sb | rfl
        · rw [h a b ha hb sa sb] at e; cases e
        · have : beaten F s b = true := beaten_iff.mpr ⟨a, ha, sa, e⟩
          rw [testBit_beatenBy, this] at h2
          cases h2
      · rcases sb with sb | rfl
        · have : (beatersBy F s).testBit a = true := testBit_beatersBy.mpr ⟨ha, b, hb, sb, e⟩
          rw [this] at h3
          cases h3
        · rw [h1] at e; cases e
theorem range_double (k : Nat) : List.range (2 ^ (k + 1)) = List.range (2 ^ k) ++ (List.range (2 ^ k)).map (fun s => s ||| 2 ^ k) := by
  rw [Nat.pow_succ, Nat.mul_comm, Nat.two_mul, List.range_add]
  congr 1
  apply List.map_congr_left
  intro s hs
  rw [or_pow (List.mem_range.mp hs)]
theorem peaceRows_eq (F : Frame) : ∀ k, k ≤ F.length → peaceRows F k = ((List.range (2 ^ k)).filter (free F)).map (rowOf F)
  | 0, _ => by
    have e : free F 0 = true := free_iff.mpr fun a b _ _ h => by simp at h
    have z1 : ∀ (f : Nat → Nat) n, lorSel f 0 n = 0 := fun f n => by
      induction n with
      | zero => rfl
      | succ n ih => simp [lorSel, ih]
    show [(0, 0, 0)] = _
    simp [List.range_succ, List.filter_cons, e, rowOf, beatenBy, beatersBy, z1]
  | k + 1, hk => by
    have ih := peaceRows_eq F k (by omega)
    rw [peaceRows_succ, ih, range_double, List.filter_append, List.map_append]
    unfold rowsStep
    have hk' : k < F.length := by omega
    by_cases hb : beats F k k = true
    · rw [if_pos hb]
      have e : ((List.range (2 ^ k)).map (fun s => s ||| 2 ^ k)).filter (free F) = [] := by
        rw [List.filter_eq_nil_iff]
        intro t ht
        obtain ⟨s, hs, rfl⟩ := List.mem_map.mp ht
        rw [free_or (List.mem_range.mp hs) hk', hb]
        simp
      rw [e]
      simp
    · rw [if_neg hb]
      congr 1
      rw [List.filter_map, List.map_map, List.filter_map, List.map_map]
      rw [List.filter_filter]
      have hb' : beats F k k = false := by simpa using hb
      rw [show (List.range (2 ^ k)).filter (free F ∘ fun s => s ||| 2 ^ k) = (List.range (2 ^ k)).filter (fun a => (((fun r : Row => !(r.2.1 ||| r.2.2).testBit k) ∘ rowOf F) a && free F a)) from ?_]
      · apply List.map_congr_left
        intro s hs
        show _ = rowOf F (s ||| 2 ^ k)
        rw [rowOf_or F s k hk']
        rfl
      · apply List.filter_congr
        intro s hs
        show free F (s ||| 2 ^ k) = _
        rw [free_or (List.mem_range.mp hs) hk', hb']
        show _ = ((!(beatenBy F s ||| beatersBy F s).testBit k) && free F s)
        rw [Bool.not_false, Bool.true_and, Bool.and_comm]
theorem peace_all (F : Frame) : peaceRows F F.length = (ofKinds F 0).map (rowOf F) := peaceRows_eq F F.length (Nat.le_refl _)
end Ar

set_option linter.all false
namespace Ar
open Rc77
theorem mem_subsets {F : Frame} {s : Nat} : s ∈ subsets F ↔ s < 2 ^ F.length := by unfold subsets; exact List.mem_range
theorem filter_rows (F : Frame) (p : Nat → Bool) (q : Row → Bool) (r : Nat → Bool) (h : ∀ s, s < 2 ^ F.length → p s = true → q (rowOf F s) = r s) :
    (((subsets F).filter p).map (rowOf F)).filter q = ((subsets F).filter fun s => p s && r s).map (rowOf F) := by
  rw [List.filter_map, List.filter_filter]
  congr 1
  apply List.filter_congr
  intro s hs
  show (q (rowOf F s) && p s) = _
  cases e : p s with
  | false => simp
  | true => rw [h s (mem_subsets.mp hs) e]; simp
theorem holds_eq {F : Frame} {s : Nat} (hs : s < 2 ^ F.length) : holds F s = (free F s && under (beatersBy F s) (beatenBy F s)) := by
  unfold holds
  congr 1
  apply Bool.eq_iff_iff.mpr
  rw [List.all_eq_true, under_iff]
  constructor
  · intro h b hb
    obtain ⟨hl, a, ha, sa, k⟩ := testBit_beatersBy.mp hb
    rw [testBit_beatenBy]
    exact shields_iff.mp (h a (mem_members.mpr ⟨ha, sa⟩)) b hl k
  · intro h a ha
    obtain ⟨ha, sa⟩ := mem_members.mp ha
    refine shields_iff.mpr fun b hb k => ?_
    rw [← testBit_beatenBy]
    exact h b (testBit_beatersBy.mpr ⟨hb, a, ha, sa, k⟩)
def holdRows (F : Frame) : List Row := (peaceRows F F.length).filter fun r => under r.2.2 r.2.1
theorem hold_all (F : Frame) : holdRows F = (ofKinds F 1).map (rowOf F) := by
  unfold holdRows
  rw [peace_all]
  unfold ofKinds
  rw [filter_rows F (ofKind F 0) _ (fun s => under (beatersBy F s) (beatenBy F s)) (fun s _ _ => rfl)]
  congr 1
  apply List.filter_congr
  intro s hs
  exact (holds_eq (mem_subsets.mp hs)).symm
def hasAll (F : Frame) (r : Row) : Bool := (List.range F.length).all fun a => r.1.testBit a || !under (beatersOf F a) r.2.1
theorem hasAll_eq (F : Frame) (s : Nat) : hasAll F (rowOf F s) = (numbers F).all fun a => !shields F s a || s.testBit a := by
  unfold hasAll numbers
  congr 1
  funext a
  show (s.testBit a || !under (beatersOf F a) (beatenBy F s)) = _
  rw [shields_eq, Bool.or_comm]
def completeRows (F : Frame) : List Row := (holdRows F).filter (hasAll F)
theorem complete_all (F : Frame) : completeRows F = (ofKinds F 2).map (rowOf F) := by
  unfold completeRows
  rw [hold_all]
  unfold ofKinds
  rw [filter_rows F (ofKind F 1) _ (fun s => (numbers F).all fun a => !shields F s a || s.testBit a) (fun s _ _ => hasAll_eq F s)]
  rfl
def everyone (F : Frame) : Nat := 2 ^ F.length - 1
theorem eq_everyone {F : Frame} {m : Nat} (hm : m < 2 ^ F.length) : (m == everyone F) = (numbers F).all fun b => m.testBit b := by
  apply Bool.eq_iff_iff.mpr
  rw [beq_iff_eq, List.all_eq_true]
  unfold everyone numbers
  constructor
  · rintro rfl b hb
    rw [Nat.testBit_two_pow_sub_one, decide_eq_true_eq]
    exact List.mem_range.mp hb
  · intro h
    apply Nat.eq_of_testBit_eq
    intro i
    rw [Nat.testBit_two_pow_sub_one]
    by_cases hi : i < F.length
    · rw [h i (List.mem_range.mpr hi)]; simp [hi]
    · have : m.testBit i = false := by
        cases e : m.testBit i with
        | false => rfl
        | true => exact absurd (bits_lt hm e) hi
      rw [this]; simp [hi]
theorem Wf.beatenBy_lt {F : Frame} (h : Wf F) (s : Nat) : beatenBy F s < 2 ^ F.length := lt_of_bits fun i hi => by
  rw [testBit_beatenBy] at hi
  obtain ⟨a, _, _, k⟩ := beaten_iff.mp hi
  exact (h.bit k).2
theorem beatersBy_lt (F : Frame) (s : Nat) : beatersBy F s < 2 ^ F.length := lt_of_bits fun i hi => (testBit_beatersBy.mp hi).1
theorem or_lt {a b n : Nat} (h : a < 2 ^ n) (k : b < 2 ^ n) : a ||| b < 2 ^ n := Nat.or_lt_two_pow h k
def reachRow (r : Row) : Nat := r.1 ||| r.2.1
theorem reachRow_eq {F : Frame} (hF : Wf F) {s : Nat} (hs : s < 2 ^ F.length) : reachRow (rowOf F s) = reach F s := by
  unfold reach numbers
  rw [mask_filter]
  apply Nat.eq_of_testBit_eq
  intro i
  rw [testBit_bitsum]
  show (s ||| beatenBy F s).testBit i = _
  rw [Nat.testBit_or, testBit_beatenBy]
  by_cases hi : i < F.length
  · simp [hi]
  · have h1 : s.testBit i = false := by
      cases e : s.testBit i with
      | false => rfl
      | true => exact absurd (bits_lt hs e) hi
    have h2 : beaten F s i = false := by
      cases e : beaten F s i with
      | false => rfl
      | true =>
        obtain ⟨a, _, _, k⟩ := beaten_iff.mp e
        exact absurd (hF.bit k).2 hi
    simp [hi, h1, h2]
theorem map_fst (F : Frame) (l : List Nat) : (l.map (rowOf F)).map (fun r => r.1) = l := by
  rw [List.map_map]
  exact List.map_id _
def stableOf (F : Frame) : List Nat := ((peaceRows F F.length).filter fun r => reachRow r == everyone F).map fun r => r.1
theorem stable_all {F : Frame} (hF : Wf F) : stableOf F = ofKinds F 4 := by
  unfold stableOf
  rw [peace_all]
  unfold ofKinds
  rw [filter_rows F (ofKind F 0) _ (fun s => (numbers F).all fun b => s.testBit b || beaten F s b) (fun s hs _ => ?_), map_fst]
  · rfl
  · show (s ||| beatenBy F s == everyone F) = _
    rw [eq_everyone (or_lt hs (hF.beatenBy_lt s))]
    congr 1
    funext b
    rw [Nat.testBit_or, testBit_beatenBy]
def barred (F : Frame) : Nat := bitsum (fun a => beats F a a) F.length
def greatOf (F : Frame) : List Nat := ((peaceRows F F.length).filter fun r => (reachRow r ||| r.2.2) ||| barred F == everyone F).map fun r => r.1
theorem free_under {F : Frame} {s t : Nat} (h : free F t = true) (k : under s t = true) : free F s = true :=
  free_iff.mpr fun a b ha hb sa sb => free_iff.mp h a b ha hb (under_iff.mp k a sa) (under_iff.mp k b sb)
/-- a set at peace with one more is at peace if .. -/
theorem free_add {F : Frame} {s k : Nat} (hf : free F s = true) (hk : k < F.length) (h1 : beats F k k = false) (h2 : beaten F s k = false) (h3 : (beatersBy F s).testBit k = false) : free F (s ||| 2 ^ k) = true := by
  refine free_iff.mpr fun a b ha hb sa sb => ?_
  rw [testBit_or_pow, Bool.or_eq_true, decide_eq_true_eq] at sa sb
  cases e : beats F a b with
  | false => rfl
  | true =>
    exfalso
    rcases sa with sa | rfl
    · rcases sb with sb | rfl
      · rw [free_iff.mp hf a b ha hb sa sb] at e; cases e
      · have : beaten F s b = true := beaten_iff.mpr ⟨a, ha, sa, e⟩
        rw [h2] at this; cases this
    · rcases sb with sb | rfl
      · have : (beatersBy F s).testBit a = true := testBit_beatersBy.mpr ⟨ha, b, hb, sb, e⟩
        rw [h3] at this; cases this
      · rw [h1] at e; cases e
theorem great_eq {F : Frame} (hF : Wf F) {s : Nat} (hs : s < 2 ^ F.length) (hf : free F s = true) :
    ((s ||| beatenBy F s) ||| beatersBy F s ||| barred F == everyone F) = (subsets F).all fun t => !(free F t && under s t) || t == s := by
  rw [eq_everyone (or_lt (or_lt (or_lt hs (hF.beatenBy_lt s)) (beatersBy_lt F s)) (show barred F < 2 ^ F.length from bitsum_lt _ _))]
  apply Bool.eq_iff_iff.mpr
  rw [List.all_eq_true, List.all_eq_true]
  constructor
  · intro h t ht
    cases e1 : free F t with
    | false => simp
    | true =>
      cases e2 : under s t with
      | false => simp
      | true =>
        rw [Bool.and_self, Bool.not_true, Bool.false_or, beq_iff_eq]
        apply Nat.eq_of_testBit_eq
        intro i
        cases e3 : t.testBit i with
        | false =>
          cases e4 : s.testBit i with
          | false => rfl
          | true => rw [under_iff.mp e2 i e4] at e3; cases e3
        | true =>
          have hi : i < F.length := bits_lt (mem_subsets.mp ht) e3
          have := h i (by unfold numbers; exact List.mem_range.mpr hi)
          rw [Nat.testBit_or, Nat.testBit_or, Nat.testBit_or, Bool.or_eq_true, Bool.or_eq_true, Bool.or_eq_true] at this
          rcases this with ((k | k) | k) | k
          · exact k.symm
          · exfalso
            rw [testBit_beatenBy] at k
            obtain ⟨a, ha, sa, z⟩ := beaten_iff.mp k
            rw [free_iff.mp e1 a i ha hi (under_iff.mp e2 a sa) e3] at z
            cases z
          · exfalso
            obtain ⟨_, a, ha, sa, z⟩ := testBit_beatersBy.mp k
            rw [free_iff.mp e1 i a hi ha e3 (under_iff.mp e2 a sa)] at z
            cases z
          · exfalso
            unfold barred at k
            rw [testBit_bitsum, Bool.and_eq_true] at k
            rw [free_iff.mp e1 i i hi hi e3 e3] at k
            cases k.2
  · intro h i hi
    unfold numbers at hi
    have hi : i < F.length := List.mem_range.mp hi
    rw [Nat.testBit_or, Nat.testBit_or, Nat.testBit_or]
    cases e1 : s.testBit i with
    | true => simp
    | false =>
      cases e2 : (beatenBy F s).testBit i with
      | true => simp
      | false =>
        cases e3 : (beatersBy F s).testBit i with
        | true => simp
        | false =>
          unfold barred
          rw [testBit_bitsum]
          cases e4 : beats F i i with
          | true => simp [hi]
          | false =>
            exfalso
            rw [testBit_beatenBy] at e2
            have hfree := free_add hf hi e4 e2 e3
            have hlt : s ||| 2 ^ i < 2 ^ F.length := or_lt hs (Nat.pow_lt_pow_right (by decide) hi)
            have := h (s ||| 2 ^ i) (mem_subsets.mpr hlt)
            have hu : under s (s ||| 2 ^ i) = true := under_iff.mpr fun j hj => by rw [testBit_or_pow, hj]; rfl
            rw [hfree, hu, Bool.and_self, Bool.not_true, Bool.false_or, beq_iff_eq] at this
            have z := congrArg (fun m => Nat.testBit m i) this
            simp only [testBit_or_pow, e1] at z
            simp at z
theorem great_all {F : Frame} (hF : Wf F) : greatOf F = ofKinds F 6 := by
  unfold greatOf
  rw [peace_all]
  unfold ofKinds
  rw [filter_rows F (ofKind F 0) _ (fun s => (subsets F).all fun t => !(free F t && under s t) || t == s) (fun s hs hp => great_eq hF hs hp), map_fst]
  rfl
def withinSome (m : Nat) (l : List Nat) : Bool := l.any fun o => under m o
def utStep (kept : List Nat) (m : Nat) : List Nat := if withinSome m kept = true then kept else kept ++ [m]
def utmost (rising : List Nat) : List Nat := (rising.reverse.foldl utStep []).reverse
theorem utStep_in {kept : List Nat} {m : Nat} (h : withinSome m kept = true) : utStep kept m = kept := if_pos h
theorem utStep_out {kept : List Nat} {m : Nat} (h : ¬ withinSome m kept = true) : utStep kept m = kept ++ [m] := if_neg h
/-- of those of l none other has all of m -/
def topOf (l : List Nat) (m : Nat) : Bool := l.all fun t => !under m t || t == m
theorem utmost_aux : ∀ (l : List Nat), l.Pairwise (· < ·) → (l.reverse.foldl utStep []).reverse = l.filter (topOf l) ∧ ∀ m ∈ l, ∃ t ∈ l.reverse.foldl utStep [], under m t = true
  | [], _ => ⟨rfl, fun m h => by cases h⟩
  | a :: l, hp => by
    obtain ⟨h1, h2⟩ := List.pairwise_cons.mp hp
    obtain ⟨ih1, ih2⟩ := utmost_aux l h2
    rw [List.reverse_cons, List.foldl_append]
    have hK : ∀ t, t ∈ l.reverse.foldl utStep [] → t ∈ l := fun t ht => by
      have : t ∈ (l.reverse.foldl utStep []).reverse := List.mem_reverse.mpr ht
      rw [ih1] at this
      exact (List.mem_filter.mp this).1
    have same : ∀ m ∈ l, topOf (a :: l) m = topOf l m := fun m hm => by
      unfold topOf
      rw [List.all_cons]
      have : under m a = false := by
        cases e : under m a with
        | false => rfl
        | true => have := under_le e; have := h1 m hm; omega
      rw [this]
      simp
    show (utStep (l.reverse.foldl utStep []) a).reverse = _ ∧ ∀ m ∈ a :: l, ∃ t ∈ utStep (l.reverse.foldl utStep []) a, _
    by_cases hw : withinSome a (l.reverse.foldl utStep []) = true
    · rw [utStep_in hw]
      obtain ⟨t, ht, hu⟩ := List.any_eq_true.mp hw
      constructor
      · have : topOf (a :: l) a = false := by
          cases e : topOf (a :: l) a with
          | false => rfl
          | true =>
            exfalso
            have := List.all_eq_true.mp e t (List.mem_cons_of_mem _ (hK t ht))
            rw [hu, Bool.not_true, Bool.false_or, beq_iff_eq] at this
            have := h1 t (hK t ht)
            omega
        show (l.reverse.foldl utStep []).reverse = _
        rw [ih1, List.filter_cons, this, if_neg (by simp)]
        exact List.filter_congr fun m hm => (same m hm).symm
      · intro m hm
        rcases List.mem_cons.mp hm with rfl | hm
        · exact ⟨t, ht, hu⟩
        · exact ih2 m hm
    · rw [utStep_out hw]
      constructor
      · have : topOf (a :: l) a = true := by
          refine List.all_eq_true.mpr fun t ht => ?_
          rcases List.mem_cons.mp ht with rfl | ht
          · simp
          · cases e : under a t with
            | false => simp
            | true =>
              exfalso
              obtain ⟨u, hu, k⟩ := ih2 t ht
              exact hw (List.any_eq_true.mpr ⟨u, hu, under_trans e k⟩)
        show (l.reverse.foldl utStep [] ++ [a]).reverse = _
        rw [List.reverse_append, ih1, List.filter_cons, this, if_pos rfl]
        show a :: l.filter (topOf l) = _
        congr 1
        exact List.filter_congr fun m hm => (same m hm).symm
      · intro m hm
        rcases List.mem_cons.mp hm with rfl | hm
        · exact ⟨m, List.mem_append_right _ (List.mem_singleton.mpr rfl), under_refl m⟩
        · obtain ⟨t, ht, hu⟩ := ih2 m hm
          exact ⟨t, List.mem_append_left _ ht, hu⟩
theorem utmost_eq {l : List Nat} (h : l.Pairwise (· < ·)) : utmost l = l.filter (topOf l) := (utmost_aux l h).1
theorem rising_kinds (F : Frame) (k : Nat) : (ofKinds F k).Pairwise (· < ·) := by
  unfold ofKinds subsets
  exact List.Pairwise.filter _ List.pairwise_lt_range
theorem all_filter (l : List Nat) (p q : Nat → Bool) : (l.filter p).all q = l.all fun t => !p t || q t := by
  induction l with
  | nil => rfl
  | cons a l ih =>
    rw [List.filter_cons, List.all_cons]
    cases e : p a with
    | false => simp [ih]
    | true => simp [ih]
theorem full_all (F : Frame) : utmost (ofKinds F 1) = ofKinds F 3 := by
  rw [utmost_eq (rising_kinds F 1)]
  unfold ofKinds
  rw [List.filter_filter]
  apply List.filter_congr
  intro s hs
  show (topOf ((subsets F).filter (ofKind F 1)) s && ofKind F 1 s) = full F s
  unfold topOf full
  rw [all_filter, Bool.and_comm]
  congr 2
  funext t
  show (!holds F t || (!under s t || t == s)) = (!(holds F t && under s t) || t == s)
  cases holds F t <;> cases under s t <;> simp
theorem rise_of {l : List Nat} (R : List Nat) (hR : R.Pairwise (· < ·)) (hm : ∀ m, m ∈ R ↔ m ∈ l) (m : Nat) (h : m ∈ l) : (utmost R).contains m = l.all fun t => !under m t || t == m := by
  rw [utmost_eq hR]
  apply Bool.eq_iff_iff.mpr
  rw [List.contains_iff_mem, List.mem_filter, List.all_eq_true]
  constructor
  · rintro ⟨_, k⟩ t ht
    exact List.all_eq_true.mp k t ((hm t).mpr ht)
  · intro k
    exact ⟨(hm m).mpr h, List.all_eq_true.mpr fun t ht => k t ((hm t).mp ht)⟩
def farOf (F : Frame) (R : List Nat) : List Nat := ((completeRows F).filter fun r => (utmost R).contains (reachRow r)).map fun r => r.1
theorem far_all {F : Frame} (hF : Wf F) (R : List Nat) (hR : R.Pairwise (· < ·)) (hm : ∀ m, m ∈ R ↔ m ∈ (completeRows F).map reachRow) : farOf F R = ofKinds F 5 := by
  unfold farOf
  rw [complete_all] at hm ⊢
  unfold ofKinds
  rw [filter_rows F (ofKind F 2) _ (fun s => (subsets F).all fun t => !(complete F t && under (reach F s) (reach F t)) || reach F t == reach F s) (fun s hs hp => ?_), map_fst]
  · rfl
  · have hin : reachRow (rowOf F s) ∈ ((ofKinds F 2).map (rowOf F)).map reachRow := List.mem_map.mpr ⟨rowOf F s, List.mem_map.mpr ⟨s, List.mem_filter.mpr ⟨mem_subsets.mpr hs, hp⟩, rfl⟩, rfl⟩
    rw [rise_of R hR hm _ hin, List.map_map, List.all_map, reachRow_eq hF hs]
    unfold ofKinds
    rw [all_filter]
    apply Bool.eq_iff_iff.mpr
    rw [List.all_eq_true, List.all_eq_true]
    have key : ∀ t ∈ subsets F, (!ofKind F 2 t || ((fun t => !under (reach F s) t || t == reach F s) ∘ (reachRow ∘ rowOf F)) t) = (!(complete F t && under (reach F s) (reach F t)) || reach F t == reach F s) := fun t ht => by
      show (!complete F t || (!under (reach F s) (reachRow (rowOf F t)) || reachRow (rowOf F t) == reach F s)) = _
      rw [reachRow_eq hF (mem_subsets.mp ht)]
      cases complete F t <;> cases under (reach F s) (reach F t) <;> simp
    constructor
    · intro h t ht; rw [← key t ht]; exact h t ht
    · intro h t ht; rw [key t ht]; exact h t ht
end Ar

set_option linter.all false
namespace Ar
open Rc77
/-- .. of sets that rise, one perhaps standing twice -/
theorem utmost_mem : ∀ (l : List Nat), l.Pairwise (· ≤ ·) → (∀ t, t ∈ l.reverse.foldl utStep [] ↔ t ∈ l ∧ topOf l t = true) ∧ ∀ m ∈ l, ∃ t ∈ l.reverse.foldl utStep [], under m t = true
  | [], _ => ⟨fun t => by simp, fun m h => by cases h⟩
  | a :: l, hp => by
    obtain ⟨h1, h2⟩ := List.pairwise_cons.mp hp
    obtain ⟨ih1, ih2⟩ := utmost_mem l h2
    rw [List.reverse_cons, List.foldl_append]
    show (∀ t, t ∈ utStep (l.reverse.foldl utStep []) a ↔ _) ∧ ∀ m ∈ a :: l, ∃ t ∈ utStep (l.reverse.foldl utStep []) a, _
    have topc : ∀ t, topOf (a :: l) t = ((!under t a || a == t) && topOf l t) := fun t => rfl
    have same : ∀ m ∈ l, topOf (a :: l) m = topOf l m := fun m hm => by
      rw [topc]
      cases e : under m a with
      | false => simp
      | true =>
        have h3 := under_le e
        have h4 := h1 m hm
        have : a = m := by omega
        simp [this]
    by_cases hw : withinSome a (l.reverse.foldl utStep []) = true
    · rw [utStep_in hw]
      obtain ⟨u, hu, hau⟩ := List.any_eq_true.mp hw
      have hul := (ih1 u).mp hu
      refine ⟨fun t => ?_, fun m hm => ?_⟩
      · rw [ih1 t]
        constructor
        · rintro ⟨h, k⟩
          exact ⟨List.mem_cons_of_mem _ h, by rw [same t h]; exact k⟩
        · rintro ⟨h, k⟩
          rcases List.mem_cons.mp h with rfl | h
          · have k2 := k
            rw [topc, Bool.and_eq_true] at k2
            have := List.all_eq_true.mp k2.2 u hul.1
            rw [hau, Bool.not_true, Bool.false_or, beq_iff_eq] at this
            subst this
            exact ⟨hul.1, k2.2⟩
          · rw [same t h] at k
            exact ⟨h, k⟩
      · rcases List.mem_cons.mp hm with rfl | hm
        · exact ⟨u, hu, hau⟩
        · exact ih2 m hm
    · rw [utStep_out hw]
      have topa : topOf (a :: l) a = true := by
        refine List.all_eq_true.mpr fun t ht => ?_
        rcases List.mem_cons.mp ht with rfl | ht
        · simp
        · cases e : under a t with
          | false => simp
          | true =>
            exfalso
            obtain ⟨u, hu, k⟩ := ih2 t ht
            exact hw (List.any_eq_true.mpr ⟨u, hu, under_trans e k⟩)
      refine ⟨fun t => ?_, fun m hm => ?_⟩
      · rw [List.mem_append, ih1 t, List.mem_singleton]
        constructor
        · rintro (⟨h, k⟩ | rfl)
          · exact ⟨List.mem_cons_of_mem _ h, by rw [same t h]; exact k⟩
          · exact ⟨List.mem_cons_self .., topa⟩
        · rintro ⟨h, k⟩
          rcases List.mem_cons.mp h with rfl | h
          · exact .inr rfl
          · rw [same t h] at k
            exact .inl ⟨h, k⟩
      · rcases List.mem_cons.mp hm with rfl | hm
        · exact ⟨m, List.mem_append_right _ (List.mem_singleton.mpr rfl), under_refl m⟩
        · obtain ⟨t, ht, hu⟩ := ih2 m hm
          exact ⟨t, List.mem_append_left _ ht, hu⟩
theorem rise_of' {l : List Nat} (R : List Nat) (hR : R.Pairwise (· ≤ ·)) (hm : ∀ m, m ∈ R ↔ m ∈ l) (m : Nat) (h : m ∈ l) : (utmost R).contains m = l.all fun t => !under m t || t == m := by
  apply Bool.eq_iff_iff.mpr
  rw [List.contains_iff_mem, List.all_eq_true]
  unfold utmost
  rw [List.mem_reverse, (utmost_mem R hR).1 m]
  constructor
  · rintro ⟨_, k⟩ t ht
    exact List.all_eq_true.mp k t ((hm t).mpr ht)
  · intro k
    exact ⟨(hm m).mpr h, List.all_eq_true.mpr fun t ht => k t ((hm t).mp ht)⟩
theorem far_all' {F : Frame} (hF : Wf F) (R : List Nat) (hR : R.Pairwise (· ≤ ·)) (hm : ∀ m, m ∈ R ↔ m ∈ (completeRows F).map reachRow) : farOf F R = ofKinds F 5 := by
  unfold farOf
  rw [complete_all] at hm ⊢
  unfold ofKinds
  rw [filter_rows F (ofKind F 2) _ (fun s => (subsets F).all fun t => !(complete F t && under (reach F s) (reach F t)) || reach F t == reach F s) (fun s hs hp => ?_), map_fst]
  · rfl
  · have hin : reachRow (rowOf F s) ∈ ((ofKinds F 2).map (rowOf F)).map reachRow := List.mem_map.mpr ⟨rowOf F s, List.mem_map.mpr ⟨s, List.mem_filter.mpr ⟨mem_subsets.mpr hs, hp⟩, rfl⟩, rfl⟩
    rw [rise_of' R hR hm _ hin, List.map_map, List.all_map, reachRow_eq hF hs]
    unfold ofKinds
    rw [all_filter]
    apply Bool.eq_iff_iff.mpr
    rw [List.all_eq_true, List.all_eq_true]
    have key : ∀ t ∈ subsets F, (!ofKind F 2 t || ((fun t => !under (reach F s) t || t == reach F s) ∘ (reachRow ∘ rowOf F)) t) = (!(complete F t && under (reach F s) (reach F t)) || reach F t == reach F s) := fun t ht => by
      show (!complete F t || (!under (reach F s) (reachRow (rowOf F t)) || reachRow (rowOf F t) == reach F s)) = _
      rw [reachRow_eq hF (mem_subsets.mp ht)]
      cases complete F t <;> cases under (reach F s) (reach F t) <;> simp
    constructor
    · intro h t ht; rw [← key t ht]; exact h t ht
    · intro h t ht; rw [key t ht]; exact h t ht
theorem peaceful_eq (F : Frame) : (peaceRows F F.length).map (·.1) = ofKinds F 0 := by rw [peace_all, map_fst]
theorem holding_eq (F : Frame) : (holdRows F).map (·.1) = ofKinds F 1 := by rw [hold_all, map_fst]
theorem complete_eq (F : Frame) : (completeRows F).map (·.1) = ofKinds F 2 := by rw [complete_all, map_fst]
end Ar

set_option linter.all false
namespace Ar
open Rc77
theorem and_div2 (x y : Nat) : (x &&& y) / 2 = (x / 2) &&& (y / 2) := by
  apply Nat.eq_of_testBit_eq
  intro i
  rw [Nat.testBit_div_two, Nat.testBit_and, Nat.testBit_and, Nat.testBit_div_two, Nat.testBit_div_two]
theorem and_mod2 (x y : Nat) : (x &&& y) % 2 = 1 ↔ x % 2 = 1 ∧ y % 2 = 1 := by
  have h := Nat.testBit_and x y 0
  simp only [Nat.testBit_zero] at h
  have h2 : (decide ((x &&& y) % 2 = 1) = true) ↔ ((decide (x % 2 = 1) && decide (y % 2 = 1)) = true) := by rw [h]
  simpa using h2
theorem testBit_without (i : Nat) : ∀ x y : Nat, (x - (x &&& y)).testBit i = (x.testBit i && !y.testBit i) := by
  induction i with
  | zero =>
    intro x y
    have h1 := and_mod2 x y
    have h2 := Nat.and_le_left (n := x) (m := y)
    have h3 := Nat.mod_two_eq_zero_or_one x
    have h4 := Nat.mod_two_eq_zero_or_one y
    have h5 := Nat.mod_two_eq_zero_or_one (x &&& y)
    simp only [Nat.testBit_zero]
    have e : (x - (x &&& y)) % 2 = 1 ↔ x % 2 = 1 ∧ ¬ y % 2 = 1 := by omega
    rw [Bool.eq_iff_iff]
    simp only [decide_eq_true_eq, Bool.and_eq_true, Bool.not_eq_true', decide_eq_false_iff_not]
    exact e
  | succ i ih =>
    intro x y
    rw [← Nat.testBit_div_two, ← Nat.testBit_div_two x, ← Nat.testBit_div_two y, ← ih (x / 2) (y / 2), ← and_div2]
    have h1 := and_mod2 x y
    have h2 := Nat.and_le_left (n := x) (m := y)
    have h3 := Nat.mod_two_eq_zero_or_one x
    have h4 := Nat.mod_two_eq_zero_or_one y
    have h5 := Nat.mod_two_eq_zero_or_one (x &&& y)
    have e : (x - (x &&& y)) / 2 = x / 2 - (x &&& y) / 2 := by omega
    rw [e]
theorem lowest : ∀ (k m : Nat), m < k → 0 < m → ∃ l, m.testBit l = true ∧ (∀ j, j < l → m.testBit j = false) ∧ m - (m &&& (m - 1)) = 2 ^ l := by
  intro k
  induction k with
  | zero => intro m h; omega
  | succ k ih =>
    intro m hk h0
    by_cases c : m % 2 = 1
    · refine ⟨0, by rw [Nat.testBit_zero]; simpa using c, fun j hj => absurd hj (Nat.not_lt_zero _), ?_⟩
      have h1 := and_div2 m (m - 1)
      have e1 : (m - 1) / 2 = m / 2 := by omega
      rw [e1, Nat.and_self] at h1
      have h2 := and_mod2 m (m - 1)
      have h5 := Nat.mod_two_eq_zero_or_one (m &&& (m - 1))
      show _ = 1
      omega
    · obtain ⟨l, hl, hj, he⟩ := ih (m / 2) (by omega) (by omega)
      refine ⟨l + 1, by rw [← Nat.testBit_div_two]; exact hl, fun j h => ?_, ?_⟩
      · cases j with
        | zero => rw [Nat.testBit_zero]; simpa using c
        | succ j => rw [← Nat.testBit_div_two]; exact hj j (by omega)
      · have h1 := and_div2 m (m - 1)
        have e1 : (m - 1) / 2 = m / 2 - 1 := by omega
        rw [e1] at h1
        have h2 := and_mod2 m (m - 1)
        have h5 := Nat.mod_two_eq_zero_or_one (m &&& (m - 1))
        have h6 := Nat.and_le_left (n := m / 2) (m := m / 2 - 1)
        rw [Nat.pow_succ, ← he]
        omega
theorem head_filter {n l : Nat} {p : Nat → Bool} (hl : l < n) (h1 : p l = true) (h2 : ∀ j, j < l → p j = false) : ((List.range n).filter p).head? = some l := by
  rw [List.head?_filter]
  rw [List.find?_range_eq_some]
  exact ⟨h1, List.mem_range.mpr hl, fun j hj => by rw [h2 j hj]; rfl⟩
def landAll (x : Nat) (l : List Nat) : Nat := l.foldl (fun a b => a &&& b) x
theorem landAll_snoc (x : Nat) (l : List Nat) (y : Nat) : landAll x (l ++ [y]) = landAll x l &&& y := by
  unfold landAll
  rw [List.foldl_append]
  rfl
theorem testBit_landAll (i : Nat) : ∀ (l : List Nat) (x : Nat), (landAll x l).testBit i = (x.testBit i && l.all fun t => t.testBit i)
  | [], x => by simp [landAll]
  | a :: l, x => by
    have h := testBit_landAll i l (x &&& a)
    show (landAll (x &&& a) l).testBit i = _
    rw [h, Nat.testBit_and, List.all_cons, Bool.and_assoc]
theorem under_landAll {s t : Nat} {l : List Nat} (ht : t ∈ l) : under s (landAll t l) = l.all fun u => under s u := by
  rw [Bool.eq_iff_iff, under_iff, List.all_eq_true]
  constructor
  · intro h u hu
    rw [under_iff]
    intro i hi
    have h1 := h i hi
    rw [testBit_landAll, Bool.and_eq_true, List.all_eq_true] at h1
    exact h1.2 u hu
  · intro h i hi
    rw [testBit_landAll, Bool.and_eq_true, List.all_eq_true]
    exact ⟨under_iff.mp (h t ht) i hi, fun u hu => under_iff.mp (h u hu) i hi⟩
theorem holds_iff {F : Frame} {s : Nat} : holds F s = true ↔ free F s = true ∧ ∀ a, a < F.length → s.testBit a = true → shields F s a = true := by
  unfold holds
  rw [Bool.and_eq_true, List.all_eq_true]
  constructor
  · exact fun ⟨h1, h2⟩ => ⟨h1, fun a ha hs => h2 a (mem_members.mpr ⟨ha, hs⟩)⟩
  · exact fun ⟨h1, h2⟩ => ⟨h1, fun a ha => h2 a (mem_members.mp ha).1 (mem_members.mp ha).2⟩
theorem mem_kinds {F : Frame} {k s : Nat} : s ∈ ofKinds F k ↔ s < 2 ^ F.length ∧ ofKind F k s = true := by
  unfold ofKinds
  rw [List.mem_filter, mem_subsets]
theorem holds_zero (F : Frame) : holds F 0 = true := by
  rw [holds_iff, free_iff]
  exact ⟨fun a b _ _ h => by simp at h, fun a _ h => by simp at h⟩
theorem zero_holds (F : Frame) : 0 ∈ ofKinds F 1 := mem_kinds.mpr ⟨Nat.pow_pos (by decide), holds_zero F⟩
theorem full_some (F : Frame) : ∃ t, t ∈ ofKinds F 3 := by
  obtain ⟨t, ht, _⟩ := (utmost_aux (ofKinds F 1) (rising_kinds F 1)).2 0 (zero_holds F)
  refine ⟨t, ?_⟩
  rw [← full_all]
  unfold utmost
  rw [List.mem_reverse]
  exact ht
theorem full_holds {F : Frame} {t : Nat} (h : t ∈ ofKinds F 3) : holds F t = true := by
  have h1 := (mem_kinds.mp h).2
  have h2 : full F t = true := h1
  unfold full at h2
  rw [Bool.and_eq_true] at h2
  exact h2.1
theorem beaten_mono {F : Frame} {s t b : Nat} (h : under s t = true) (hb : beaten F s b = true) : beaten F t b = true := by
  rw [beaten_iff] at hb ⊢
  obtain ⟨a, h1, h2, h3⟩ := hb
  exact ⟨a, h1, under_iff.mp h a h2, h3⟩
theorem shields_mono {F : Frame} {s t a : Nat} (h : under s t = true) (hb : shields F s a = true) : shields F t a = true := by
  rw [shields_iff] at hb ⊢
  exact fun b h1 h2 => beaten_mono h (hb b h1 h2)
theorem under_or_left (s t : Nat) : under s (s ||| t) = true := under_iff.mpr fun i h => by rw [Nat.testBit_or, h, Bool.true_or]
theorem under_or_right (s t : Nat) : under t (s ||| t) = true := under_iff.mpr fun i h => by rw [Nat.testBit_or, h, Bool.or_true]
theorem or_under {s t u : Nat} (h : under s u = true) (k : under t u = true) : under (s ||| t) u = true := under_iff.mpr fun i hi => by
  rw [Nat.testBit_or, Bool.or_eq_true] at hi
  rcases hi with z | z
  · exact under_iff.mp h i z
  · exact under_iff.mp k i z
theorem within_iff {F : Frame} {s : Nat} : within F s = true ↔ holds F s = true ∧ ∀ t ∈ ofKinds F 3, under s t = true := by
  unfold within
  rw [Bool.and_eq_true, List.all_eq_true]
theorem within_or {F : Frame} {s t : Nat} (h : within F s = true) (k : within F t = true) : within F (s ||| t) = true := by
  rw [within_iff] at h k ⊢
  have hu : ∀ u ∈ ofKinds F 3, under (s ||| t) u = true := fun u hu => or_under (h.2 u hu) (k.2 u hu)
  refine ⟨holds_iff.mpr ⟨?_, fun a ha hs => ?_⟩, hu⟩
  · obtain ⟨u, hf⟩ := full_some F
    exact free_under (holds_iff.mp (full_holds hf)).1 (hu u hf)
  · rw [Nat.testBit_or, Bool.or_eq_true] at hs
    rcases hs with z | z
    · exact shields_mono (under_or_left s t) ((holds_iff.mp h.1).2 a ha z)
    · exact shields_mono (under_or_right s t) ((holds_iff.mp k.1).2 a ha z)
/-- the greatest of those within is the ideal one -/
theorem ideal_max {F : Frame} {m : Nat} (hm : m < 2 ^ F.length) (hw : within F m = true) (hg : ∀ t, t < 2 ^ F.length → within F t = true → t ≤ m) : ((subsets F).find? (ideal F)).getD 0 = m := by
  have top : ∀ t, t < 2 ^ F.length → within F t = true → under t m = true := fun t ht htw => by
    have h1 := hg (m ||| t) (or_lt hm ht) (within_or hw htw)
    have h2 := under_le (under_or_left m t)
    have h3 : m ||| t = m := by omega
    have h4 := under_or_right m t
    rw [h3] at h4
    exact h4
  have hid : ideal F m = true := by
    unfold ideal
    rw [hw, Bool.true_and, List.all_eq_true]
    intro t ht
    cases c : within F t with
    | false => rfl
    | true => rw [top t (mem_subsets.mp ht) c]; rfl
  cases e : (subsets F).find? (ideal F) with
  | none => exact absurd hid (by rw [List.find?_eq_none] at e; exact e m (mem_subsets.mpr hm))
  | some s =>
    have h1 := List.find?_some e
    have h2 := List.mem_of_find?_eq_some e
    have h3 : within F s = true ∧ ∀ t ∈ subsets F, (!within F t || under t s) = true := by
      have h1' : ideal F s = true := h1
      unfold ideal at h1'
      rw [Bool.and_eq_true, List.all_eq_true] at h1'
      exact h1'
    have h4 := h3.2 m (mem_subsets.mpr hm)
    rw [hw] at h4
    exact under_antisymm (top s (mem_subsets.mp h2) h3.1) h4
theorem head_flat {g : Nat → List Nat} : ∀ (m k : Nat), k < m → (∀ j, j < k → g j = []) → g k ≠ [] → ((List.range m).flatMap g).head? = (g k).head? := by
  intro m
  induction m with
  | zero => intro k h; omega
  | succ m ih =>
    intro k hk h1 h2
    rw [List.range_succ, List.flatMap_append, List.flatMap_singleton, List.head?_append]
    by_cases c : k = m
    · subst c
      have e : (List.range k).flatMap g = [] := by
        rw [List.flatMap_eq_nil_iff]
        exact fun j hj => h1 j (List.mem_range.mp hj)
      rw [e]
      rfl
    · rw [ih k (by omega) h1 h2]
      obtain ⟨x, l, e⟩ := List.exists_cons_of_ne_nil h2
      rw [e]
      rfl
theorem and_ne_zero {x y i : Nat} (h1 : x.testBit i = true) (h2 : y.testBit i = true) : x &&& y ≠ 0 := fun e => by
  have h := Nat.testBit_and x y i
  rw [e, h1, h2, Nat.zero_testBit] at h
  cases h
theorem first_iff {F : Frame} {x k : Nat} : firstIn F x = some k ↔ (rounds F k).testBit x = true ∧ k < F.length + 1 ∧ ∀ j, j < k → (rounds F j).testBit x = false := by
  unfold firstIn
  rw [List.find?_range_eq_some]
  constructor
  · exact fun ⟨a, b, c⟩ => ⟨a, List.mem_range.mp (by first | exact b | exact List.mem_range.mpr b), fun j hj => by simpa using c j hj⟩
  · exact fun ⟨a, b, c⟩ => ⟨a, by first | exact b | exact List.mem_range.mpr b, fun j hj => by simpa using c j hj⟩
theorem answer_some {F : Frame} (hF : Wf F) {b k l : Nat} (hk : k < F.length + 1) (h1 : ∀ j, j < k → rounds F j &&& beatersOf F b = 0)
    (hl : (rounds F k &&& beatersOf F b).testBit l = true) (hj : ∀ j, j < l → (rounds F k &&& beatersOf F b).testBit j = false) : answer F b = some l := by
  have hll : l < F.length := by
    rw [Nat.testBit_and, Bool.and_eq_true, testBit_beatersOf, Bool.and_eq_true] at hl
    simpa using hl.2.1
  have same : ∀ x, x < F.length → (firstIn F x == some k && beats F x b) = (rounds F k &&& beatersOf F b).testBit x := fun x hx => by
    rw [Nat.testBit_and, hF.beatersOf]
    cases hb : beats F x b with
    | false => rw [Bool.and_false, Bool.and_false]
    | true =>
      rw [Bool.and_true, Bool.and_true, Bool.eq_iff_iff]
      have hB : (beatersOf F b).testBit x = true := by rw [hF.beatersOf]; exact hb
      constructor
      · intro h
        have h' : firstIn F x = some k := by simpa using h
        exact (first_iff.mp h').1
      · intro h
        have h' : firstIn F x = some k := first_iff.mpr ⟨h, hk, fun j hj => by
          cases c : (rounds F j).testBit x with
          | false => rfl
          | true => exact absurd (h1 j hj) (and_ne_zero c hB)⟩
        simpa using h'
  have hg : ((numbers F).filter fun x => firstIn F x == some k && beats F x b).head? = some l :=
    head_filter (p := fun x => firstIn F x == some k && beats F x b) hll (by show (firstIn F l == some k && beats F l b) = true; rw [same l hll]; exact hl)
      (fun j h => by show (firstIn F j == some k && beats F j b) = false; rw [same j (by omega)]; exact hj j h)
  unfold answer
  rw [head_flat (F.length + 1) k hk (fun j hjk => ?_) (fun e => by rw [e] at hg; cases hg)]
  · exact hg
  · rw [List.filter_eq_nil_iff]
    intro x hx h
    rw [Bool.and_eq_true] at h
    have h' : firstIn F x = some j := by simpa using h.1
    exact absurd (h1 j hjk) (and_ne_zero (first_iff.mp h').1 (by rw [hF.beatersOf]; exact h.2))
theorem answer_none {F : Frame} (hF : Wf F) {b : Nat} (h1 : ∀ j, j < F.length + 1 → rounds F j &&& beatersOf F b = 0) : answer F b = none := by
  unfold answer
  rw [List.head?_eq_none_iff, List.flatMap_eq_nil_iff]
  intro j hj
  rw [List.filter_eq_nil_iff]
  intro x hx h
  rw [Bool.and_eq_true] at h
  have h' : firstIn F x = some j := by simpa using h.1
  exact absurd (h1 j (List.mem_range.mp hj)) (and_ne_zero (first_iff.mp h').1 (by rw [hF.beatersOf]; exact h.2))
theorem findIdx_map {p : Nat → Bool} (f : Nat → Nat) (n : Nat) : ((List.range n).map f).findIdx? p = (List.range n).find? fun k => p (f k) := by
  cases e : (List.range n).find? (fun k => p (f k)) with
  | none =>
    rw [List.findIdx?_eq_none_iff]
    intro x hx
    obtain ⟨k, hk, rfl⟩ := List.mem_map.mp hx
    have := List.find?_eq_none.mp e k hk
    simpa using this
  | some k =>
    rw [List.find?_range_eq_some] at e
    obtain ⟨h1, h2, h3⟩ := e
    have hk : k < n := by first | exact h2 | exact List.mem_range.mp h2
    rw [List.findIdx?_eq_some_iff_getElem]
    refine ⟨by simpa using hk, by simpa using h1, fun j hj => ?_⟩
    have := h3 j hj
    simpa using this
theorem count_any (l : List Nat) (a : Nat) : decide (0 < l.countP fun t => t.testBit a) = l.any fun t => t.testBit a := by
  rw [Bool.eq_iff_iff, decide_eq_true_eq, List.countP_pos_iff, List.any_eq_true]
theorem count_all (l : List Nat) (a : Nat) : decide (l.countP (fun t => t.testBit a) = l.length) = l.all fun t => t.testBit a := by
  rw [Bool.eq_iff_iff, decide_eq_true_eq, List.countP_eq_length, List.all_eq_true]
theorem mem_left {F : Frame} {s b : Nat} : b ∈ left F s ↔ b < F.length ∧ s.testBit b = false ∧ beaten F s b = false := by
  unfold left
  rw [List.mem_filter]
  constructor
  · rintro ⟨h1, h2⟩
    refine ⟨List.mem_range.mp h1, ?_⟩
    simpa using h2
  · rintro ⟨h1, h2, h3⟩
    refine ⟨List.mem_range.mpr h1, ?_⟩
    rw [h2, h3]
    rfl
theorem testBit_everyone (F : Frame) (i : Nat) : (everyone F).testBit i = decide (i < F.length) := by
  unfold everyone
  exact Nat.testBit_two_pow_sub_one ..
theorem left_mask (F : Frame) (s : Nat) : everyone F - (everyone F &&& (s ||| beatenBy F s)) = mask (left F s) := by
  apply Nat.eq_of_testBit_eq
  intro i
  rw [testBit_without, testBit_mask, Nat.testBit_or, testBit_beatenBy, testBit_everyone, Bool.eq_iff_iff, List.contains_iff_mem, mem_left]
  simp
theorem mask_left_lt (F : Frame) (s : Nat) : mask (left F s) < 2 ^ F.length := lt_of_bits fun i hi => by
  rw [testBit_mask, List.contains_iff_mem, mem_left] at hi
  exact hi.1
theorem left_length (F : Frame) (s : Nat) : (left F s).length = (List.range F.length).countP fun a => (mask (left F s)).testBit a := by
  have e : left F s = (List.range F.length).filter fun a => (mask (left F s)).testBit a := by
    conv => lhs; unfold left
    unfold numbers
    apply List.filter_congr
    intro b hb
    rw [testBit_mask, Bool.eq_iff_iff, List.contains_iff_mem, mem_left]
    have := List.mem_range.mp hb
    simp [this]
  rw [List.countP_eq_length_filter, ← e]
theorem cut_length (F : Frame) (s : Nat) : (cut F s).length = F.length := by
  unfold cut numbers
  rw [List.length_map, List.length_range]
theorem cut_eq (F : Frame) (s : Nat) : cut F s = (List.range F.length).map fun a => if (mask (left F s)).testBit a = true then F.getD a 0 &&& mask (left F s) else 2 ^ a := by
  unfold cut numbers
  apply List.map_congr_left
  intro a _
  rw [testBit_mask]
  rfl
theorem cut_wf (F : Frame) (s : Nat) : Wf (cut F s) := by
  intro m hm
  rw [cut_length]
  rw [cut_eq] at hm
  obtain ⟨a, ha, rfl⟩ := List.mem_map.mp hm
  have ha' := List.mem_range.mp ha
  split
  · exact Nat.lt_of_le_of_lt (Nat.and_le_right) (mask_left_lt F s)
  · exact Nat.pow_lt_pow_right (by decide) ha'
theorem and_pow_t {m b : Nat} (c : m.testBit b = true) : m &&& 2 ^ b = 2 ^ b := by
  apply Nat.eq_of_testBit_eq
  intro i
  rw [Nat.testBit_and, Nat.testBit_two_pow]
  by_cases h : b = i
  · subst h; rw [c]; simp
  · simp [h]
theorem and_pow_f {m b : Nat} (c : m.testBit b = false) : m &&& 2 ^ b = 0 := by
  apply Nat.eq_of_testBit_eq
  intro i
  rw [Nat.testBit_and, Nat.testBit_two_pow, Nat.zero_testBit]
  by_cases h : b = i
  · subst h; rw [c]; simp
  · simp [h]
theorem put_off (m b : Nat) : m - (m &&& 2 ^ b) = put m b false := by
  unfold put
  rw [if_neg (by decide)]
  apply Nat.eq_of_testBit_eq
  intro i
  cases c : m.testBit b with
  | true =>
    rw [if_pos rfl]
    have e : m &&& 2 ^ b = 2 ^ b := and_pow_t c
    rw [e]
  | false =>
    rw [if_neg (by decide)]
    have e : m &&& 2 ^ b = 0 := and_pow_f c
    rw [e, Nat.sub_zero]
theorem put_on (m b : Nat) : (m - (m &&& 2 ^ b)) ||| 2 ^ b = put m b true := by
  unfold put
  rw [if_pos rfl]
  apply Nat.eq_of_testBit_eq
  intro i
  show _ = (m ||| 2 ^ b).testBit i
  rw [Nat.testBit_or, testBit_without, Nat.testBit_or]
  cases m.testBit i <;> cases (2 ^ b).testBit i <;> rfl
theorem put_lt {m b n : Nat} (hm : m < 2 ^ n) (hb : b < n) (on : Bool) : put m b on < 2 ^ n := by
  have h2 : 2 ^ b < 2 ^ n := Nat.pow_lt_pow_right (by decide) hb
  cases on with
  | true => rw [← put_on]; exact or_lt (by omega) h2
  | false => rw [← put_off]; omega
theorem turn_wf {F : Frame} (hF : Wf F) {a b : Nat} (ha : a < F.length) (hb : b < F.length) (on : Bool) : Wf (F.set a (put (F.getD a 0) b on)) := by
  intro m hm
  rw [List.length_set]
  rcases List.mem_or_eq_of_mem_set hm with h | h
  · exact hF m h
  · rw [h]
    refine put_lt (hF _ ?_) hb on
    rw [List.getD_eq_getElem?_getD, List.getElem?_eq_getElem ha]
    exact List.getElem_mem ha
end Ar

set_option linter.all false
namespace Ar
open Rc77
/-- what a call answers, in numbers -/
def outL (F : Rc77.Frame) (c : Rc77.Call) : List Int := (does ⟨F⟩ c).2.value :: (does ⟨F⟩ c).2.numbers.map fun (n : Nat) => (n : Int)
/-- what stands behind a call's number, by that number: the call, and how many numbers it takes -/
def ArgsOf (r : List Int) : Nat → Rc77.Call → Nat → Prop
  | 0, c, u => c = .init ∧ u = 0
  | 1, c, u => ∃ l : List Nat, r[0]? = some (l.length : Int) ∧ (r.drop 1).take l.length = l.map (fun (n : Nat) => (n : Int)) ∧ l.length ≤ 16 ∧ c = .set l (l.length : Int) ∧ u = l.length + 1
  | 2, c, u => ∃ x y z, r[0]? = some x ∧ r[1]? = some y ∧ r[2]? = some z ∧ c = .turn x y z ∧ u = 3
  | 3, c, u => ∃ x y, r[0]? = some x ∧ r[1]? = some y ∧ c = .sets x y ∧ u = 2
  | 4, c, u => ∃ (x : Int) (m : Nat), r[0]? = some x ∧ r[1]? = some (m : Int) ∧ c = .is x m ∧ u = 2
  | 5, c, u => c = .ground ∧ u = 0
  | 6, c, u => c = .ideal ∧ u = 0
  | 7, c, u => ∃ x, r[0]? = some x ∧ c = .round x ∧ u = 1
  | 8, c, u => ∃ x, r[0]? = some x ∧ c = .answer x ∧ u = 1
  | 9, c, u => ∃ x y, r[0]? = some x ∧ r[1]? = some y ∧ c = .status x y ∧ u = 2
  | 10, c, u => ∃ m : Nat, r[0]? = some (m : Int) ∧ c = .cut m ∧ u = 1
  | _, _, _ => False
theorem shape_cases {p : Int} {n k : Nat} (h : PyRc77.shape p = some (n, k)) :
    (p = 0 ∧ n = 0 ∧ k = 0) ∨ (p = 1 ∧ n = 0 ∧ k = 1) ∨ (p = 2 ∧ n = 3 ∧ k = 0) ∨ (p = 3 ∧ n = 2 ∧ k = 0) ∨ (p = 4 ∧ n = 2 ∧ k = 0) ∨ (p = 5 ∧ n = 0 ∧ k = 0) ∨ (p = 6 ∧ n = 0 ∧ k = 0) ∨ (p = 7 ∧ n = 1 ∧ k = 0) ∨ (p = 8 ∧ n = 1 ∧ k = 0) ∨ (p = 9 ∧ n = 2 ∧ k = 0) ∨ (p = 10 ∧ n = 1 ∧ k = 0) := by
  by_cases e0 : p = 0
  · subst e0
    have h' : some ((0 : Nat), (0 : Nat)) = some (n, k) := h
    have h1 := congrArg Prod.fst (Option.some.inj h')
    have h2 := congrArg Prod.snd (Option.some.inj h')
    dsimp only at h1 h2
    subst h1 h2
    exact .inl ⟨rfl, rfl, rfl⟩
  by_cases e1 : p = 1
  · subst e1
    have h' : some ((0 : Nat), (1 : Nat)) = some (n, k) := h
    have h1 := congrArg Prod.fst (Option.some.inj h')
    have h2 := congrArg Prod.snd (Option.some.inj h')
    dsimp only at h1 h2
    subst h1 h2
    exact .inr (.inl ⟨rfl, rfl, rfl⟩)
  by_cases e2 : p = 2
  · subst e2
    have h' : some ((3 : Nat), (0 : Nat)) = some (n, k) := h
    have h1 := congrArg Prod.fst (Option.some.inj h')
    have h2 := congrArg Prod.snd (Option.some.inj h')
    dsimp only at h1 h2
    subst h1 h2
    exact .inr (.inr (.inl ⟨rfl, rfl, rfl⟩))
  by_cases e3 : p = 3
  · subst e3
    have h' : some ((2 : Nat), (0 : Nat)) = some (n, k) := h
    have h1 := congrArg Prod.fst (Option.some.inj h')
    have h2 := congrArg Prod.snd (Option.some.inj h')
    dsimp only at h1 h2
    subst h1 h2
    exact .inr (.inr (.inr (.inl ⟨rfl, rfl, rfl⟩)))
  by_cases e4 : p = 4
  · subst e4
    have h' : some ((2 : Nat), (0 : Nat)) = some (n, k) := h
    have h1 := congrArg Prod.fst (Option.some.inj h')
    have h2 := congrArg Prod.snd (Option.some.inj h')
    dsimp only at h1 h2
    subst h1 h2
    exact .inr (.inr (.inr (.inr (.inl ⟨rfl, rfl, rfl⟩))))
  by_cases e5 : p = 5
  · subst e5
    have h' : some ((0 : Nat), (0 : Nat)) = some (n, k) := h
    have h1 := congrArg Prod.fst (Option.some.inj h')
    have h2 := congrArg Prod.snd (Option.some.inj h')
    dsimp only at h1 h2
    subst h1 h2
    exact .inr (.inr (.inr (.inr (.inr (.inl ⟨rfl, rfl, rfl⟩)))))
  by_cases e6 : p = 6
  · subst e6
    have h' : some ((0 : Nat), (0 : Nat)) = some (n, k) := h
    have h1 := congrArg Prod.fst (Option.some.inj h')
    have h2 := congrArg Prod.snd (Option.some.inj h')
    dsimp only at h1 h2
    subst h1 h2
    exact .inr (.inr (.inr (.inr (.inr (.inr (.inl ⟨rfl, rfl, rfl⟩))))))
  by_cases e7 : p = 7
  · subst e7
    have h' : some ((1 : Nat), (0 : Nat)) = some (n, k) := h
    have h1 := congrArg Prod.fst (Option.some.inj h')
    have h2 := congrArg Prod.snd (Option.some.inj h')
    dsimp only at h1 h2
    subst h1 h2
    exact .inr (.inr (.inr (.inr (.inr (.inr (.inr (.inl ⟨rfl, rfl, rfl⟩)))))))
  by_cases e8 : p = 8
  · subst e8
    have h' : some ((1 : Nat), (0 : Nat)) = some (n, k) := h
    have h1 := congrArg Prod.fst (Option.some.inj h')
    have h2 := congrArg Prod.snd (Option.some.inj h')
    dsimp only at h1 h2
    subst h1 h2
    exact .inr (.inr (.inr (.inr (.inr (.inr (.inr (.inr (.inl ⟨rfl, rfl, rfl⟩))))))))
  by_cases e9 : p = 9
  · subst e9
    have h' : some ((2 : Nat), (0 : Nat)) = some (n, k) := h
    have h1 := congrArg Prod.fst (Option.some.inj h')
    have h2 := congrArg Prod.snd (Option.some.inj h')
    dsimp only at h1 h2
    subst h1 h2
    exact .inr (.inr (.inr (.inr (.inr (.inr (.inr (.inr (.inr (.inl ⟨rfl, rfl, rfl⟩)))))))))
  by_cases e10 : p = 10
  · subst e10
    have h' : some ((1 : Nat), (0 : Nat)) = some (n, k) := h
    have h1 := congrArg Prod.fst (Option.some.inj h')
    have h2 := congrArg Prod.snd (Option.some.inj h')
    dsimp only at h1 h2
    subst h1 h2
    exact .inr (.inr (.inr (.inr (.inr (.inr (.inr (.inr (.inr (.inr (⟨rfl, rfl, rfl⟩))))))))))
  exfalso
  unfold PyRc77.shape at h
  rw [if_neg e0, if_neg e1, if_neg e2, if_neg e3, if_neg e4, if_neg e5, if_neg e6, if_neg e7, if_neg e8, if_neg e9, if_neg e10] at h
  cases h
theorem call_inv {p : Int} {r t : List Int} {c0 : List (List Int)} (h : PyFlat.call PyRc77.shape (p :: r) = some (c0, t)) :
    ∃ n k xs, PyRc77.shape p = some (n, k) ∧ n ≤ r.length ∧ PyFlat.rows k (r.drop n) = some (xs, t) ∧ c0 = (p :: r.take n) :: xs := by
  unfold PyFlat.call at h
  dsimp only at h
  cases hs : PyRc77.shape p with
  | none => rw [hs] at h; cases h
  | some nk =>
    obtain ⟨n, k⟩ := nk
    rw [hs] at h
    dsimp only at h
    by_cases hl : r.length < n
    · rw [if_pos hl] at h; cases h
    · rw [if_neg hl] at h
      cases hr : PyFlat.rows k (r.drop n) with
      | none => rw [hr] at h; cases h
      | some xt =>
        obtain ⟨xs, t'⟩ := xt
        rw [hr] at h
        dsimp only at h
        have h := Option.some.inj h
        have h1 := congrArg Prod.fst h
        have h2 := congrArg Prod.snd h
        dsimp only at h1 h2
        subst h1 h2
        exact ⟨n, k, xs, rfl, by omega, hr, rfl⟩
theorem rows0 {r t : List Int} {xs : List (List Int)} (h : PyFlat.rows 0 r = some (xs, t)) : xs = [] ∧ t = r := by
  unfold PyFlat.rows at h
  have h := Option.some.inj h
  have h1 := congrArg Prod.fst h
  have h2 := congrArg Prod.snd h
  exact ⟨h1.symm, h2.symm⟩
theorem rows1 {r t : List Int} {xs : List (List Int)} (h : PyFlat.rows 1 r = some (xs, t)) : ∃ (n : Int) (r' : List Int), r = n :: r' ∧ 0 ≤ n ∧ n.toNat ≤ r'.length ∧ xs = [r'.take n.toNat] ∧ t = r'.drop n.toNat := by
  unfold PyFlat.rows at h
  cases r with
  | nil => unfold PyFlat.row at h; cases h
  | cons n r' =>
    by_cases hc : 0 ≤ n ∧ n.toNat ≤ r'.length
    · have e : PyFlat.row (n :: r') = some (r'.take n.toNat, r'.drop n.toNat) := by unfold PyFlat.row; exact if_pos hc
      rw [e] at h
      dsimp only at h
      have e2 : PyFlat.rows 0 (r'.drop n.toNat) = some ([], r'.drop n.toNat) := rfl
      rw [e2] at h
      have h := Option.some.inj h
      have h1 := congrArg Prod.fst h
      have h2 := congrArg Prod.snd h
      exact ⟨n, r', rfl, hc.1, hc.2, h1.symm, h2.symm⟩
    · have e : PyFlat.row (n :: r') = none := by unfold PyFlat.row; exact if_neg hc
      rw [e] at h
      cases h
theorem nats_back : ∀ {l : List Int}, (l.all fun (z : Int) => Rc77Neutral.natural z 32) = true → (l.map Int.toNat).map (fun (n : Nat) => (n : Int)) = l
  | [], _ => rfl
  | a :: l, h => by
    rw [List.all_cons, Bool.and_eq_true] at h
    have h1 : 0 ≤ a := by
      have := h.1
      unfold Rc77Neutral.natural at this
      rw [Bool.and_eq_true, decide_eq_true_eq] at this
      exact this.1
    rw [List.map_cons, List.map_cons, nats_back h.2, Int.toNat_of_nonneg h1]
theorem nat_of {z : Int} (h : Rc77Neutral.natural z 32 = true) : z = ((z.toNat : Nat) : Int) := by
  unfold Rc77Neutral.natural at h
  rw [Bool.and_eq_true, decide_eq_true_eq] at h
  have := h.1
  omega
theorem parse {p : Int} {r t : List Int} {c0 : List (List Int)} (h : PyFlat.call PyRc77.shape (p :: r) = some (c0, t)) (ha : Rc77Neutral.asked1 (PyRc77.whole c0) = true) :
    ∃ (k : Nat) (call : Rc77.Call) (u : Nat), p = ((k : Nat) : Int) ∧ k < 11 ∧ u ≤ r.length ∧ t = r.drop u ∧ Rc77Neutral.callOf (PyRc77.whole c0) = some call ∧ ArgsOf r k call u := by
  obtain ⟨n, k, xs, hs, hn, hr, hc⟩ := call_inv h
  rcases shape_cases hs with ⟨rfl, rfl, rfl⟩ | ⟨rfl, rfl, rfl⟩ | ⟨rfl, rfl, rfl⟩ | ⟨rfl, rfl, rfl⟩ | ⟨rfl, rfl, rfl⟩ | ⟨rfl, rfl, rfl⟩ | ⟨rfl, rfl, rfl⟩ | ⟨rfl, rfl, rfl⟩ | ⟨rfl, rfl, rfl⟩ | ⟨rfl, rfl, rfl⟩ | ⟨rfl, rfl, rfl⟩
  · obtain ⟨rfl, rfl⟩ := rows0 hr
    subst hc
    exact ⟨0, .init, 0, rfl, by decide, hn, rfl, rfl, rfl, rfl⟩
  · rw [List.drop_zero] at hr
    obtain ⟨m, r', rfl, h0, hm, rfl, rfl⟩ := rows1 hr
    subst hc
    generalize hx : r'.take m.toNat = x at ha
    have hxl : x.length = m.toNat := by rw [← hx, List.length_take]; omega
    have ha' : ((x.all (fun (z : Int) => Rc77Neutral.natural z 32) && Rc77Neutral.long x (x.length : Int) 1 16) && (Rc77Neutral.whole32 (x.length : Int))) = true := ha
    rw [Bool.and_eq_true, Bool.and_eq_true] at ha'
    have hl : x.length ≤ 16 := by
      have := ha'.1.2
      unfold Rc77Neutral.long at this
      rw [decide_eq_true_eq] at this
      split at this <;> omega
    have hb := nats_back ha'.1.1
    refine ⟨1, .set (Rc77Neutral.natsOf x) (x.length : Int), x.length + 1, rfl, by decide, by rw [List.length_cons]; omega, by rw [List.drop_succ_cons, hxl], rfl, x.map Int.toNat, ?_, ?_, ?_, ?_, ?_⟩
    · rw [List.length_map]
      show some m = some (x.length : Int)
      congr 1
      omega
    · rw [List.length_map, hb]
      show (r'.take x.length) = x
      rw [hxl, hx]
    · rw [List.length_map]; exact hl
    · rw [List.length_map]; rfl
    · rw [List.length_map]
  · obtain ⟨rfl, rfl⟩ := rows0 hr
    subst hc
    match r, hn, ha with
    | x :: y :: z :: r', hn, _ => exact ⟨2, .turn x y z, 3, rfl, by decide, hn, rfl, rfl, x, y, z, rfl, rfl, rfl, rfl, rfl⟩
  · obtain ⟨rfl, rfl⟩ := rows0 hr
    subst hc
    match r, hn, ha with
    | x :: y :: r', hn, _ => exact ⟨3, .sets x y, 2, rfl, by decide, hn, rfl, rfl, x, y, rfl, rfl, rfl, rfl⟩
  · obtain ⟨rfl, rfl⟩ := rows0 hr
    subst hc
    match r, hn, ha with
    | x :: y :: r', hn, ha =>
      have ha' : (Rc77Neutral.whole32 x && Rc77Neutral.natural y 32) = true := ha
      rw [Bool.and_eq_true] at ha'
      exact ⟨4, .is x y.toNat, 2, rfl, by decide, hn, rfl, rfl, x, y.toNat, rfl, congrArg some (nat_of ha'.2), rfl, rfl⟩
  · obtain ⟨rfl, rfl⟩ := rows0 hr
    subst hc
    exact ⟨5, .ground, 0, rfl, by decide, hn, rfl, rfl, rfl, rfl⟩
  · obtain ⟨rfl, rfl⟩ := rows0 hr
    subst hc
    exact ⟨6, .ideal, 0, rfl, by decide, hn, rfl, rfl, rfl, rfl⟩
  · obtain ⟨rfl, rfl⟩ := rows0 hr
    subst hc
    match r, hn, ha with
    | x :: r', hn, _ => exact ⟨7, .round x, 1, rfl, by decide, hn, rfl, rfl, x, rfl, rfl, rfl⟩
  · obtain ⟨rfl, rfl⟩ := rows0 hr
    subst hc
    match r, hn, ha with
    | x :: r', hn, _ => exact ⟨8, .answer x, 1, rfl, by decide, hn, rfl, rfl, x, rfl, rfl, rfl⟩
  · obtain ⟨rfl, rfl⟩ := rows0 hr
    subst hc
    match r, hn, ha with
    | x :: y :: r', hn, _ => exact ⟨9, .status x y, 2, rfl, by decide, hn, rfl, rfl, x, y, rfl, rfl, rfl, rfl⟩
  · obtain ⟨rfl, rfl⟩ := rows0 hr
    subst hc
    match r, hn, ha with
    | x :: r', hn, ha =>
      have ha' : Rc77Neutral.natural x 32 = true := ha
      exact ⟨10, .cut x.toNat, 1, rfl, by decide, hn, rfl, rfl, x.toNat, congrArg some (nat_of ha'), rfl, rfl⟩
theorem calls_nil {f : Nat} {cs : List (List (List Int))} (h : PyFlat.calls PyRc77.shape f [] = some cs) : cs = [] := by
  cases f <;> (unfold PyFlat.calls at h; exact (Option.some.inj h).symm)
theorem calls_cons {f : Nat} {p : Int} {r : List Int} {cs : List (List (List Int))} (h : PyFlat.calls PyRc77.shape f (p :: r) = some cs) :
    ∃ f' c0 t cs', PyFlat.call PyRc77.shape (p :: r) = some (c0, t) ∧ PyFlat.calls PyRc77.shape f' t = some cs' ∧ cs = c0 :: cs' := by
  cases f with
  | zero => unfold PyFlat.calls at h; cases h
  | succ f =>
    unfold PyFlat.calls at h
    cases hc : PyFlat.call PyRc77.shape (p :: r) with
    | none => rw [hc] at h; cases h
    | some ct =>
      obtain ⟨c0, t⟩ := ct
      rw [hc] at h
      dsimp only at h
      cases hcs : PyFlat.calls PyRc77.shape f t with
      | none => rw [hcs] at h; cases h
      | some cs' =>
        rw [hcs] at h
        dsimp only at h
        exact ⟨f, c0, t, cs', rfl, hcs, (Option.some.inj h).symm⟩
theorem kinds_short {F : Frame} (k : Nat) (hn : F.length ≤ 16) : (ofKinds F k).length ≤ 65536 := by
  have h1 : (ofKinds F k).length ≤ (subsets F).length := List.length_filter_le _ _
  unfold subsets at h1
  rw [List.length_range] at h1
  have h2 : 2 ^ F.length ≤ 2 ^ 16 := Nat.pow_le_pow_right (by decide) hn
  have h3 : (2 : Nat) ^ 16 = 65536 := by decide
  omega
theorem out_len {F : Frame} (hn : F.length ≤ 16) (call : Rc77.Call) : (outL F call).length ≤ 65537 := by
  unfold outL
  rw [List.length_cons, List.length_map]
  have h : (does ⟨F⟩ call).2.numbers.length ≤ 65536 := by
    cases call with
    | sets k room =>
      unfold does
      dsimp only
      split
      · exact Nat.zero_le _
      · have := kinds_short k.toNat hn
        have h2 : ((ofKinds F k.toNat).take (room_ room)).length ≤ (ofKinds F k.toNat).length := by rw [List.length_take]; omega
        exact Nat.le_trans h2 this
    | init => exact Nat.zero_le _
    | ground => show 1 ≤ 65536; decide
    | ideal => show 1 ≤ 65536; decide
    | set l n => unfold does; dsimp only; split <;> exact Nat.zero_le _
    | turn a b on => unfold does; dsimp only; split <;> exact Nat.zero_le _
    | is k t => unfold does; dsimp only; split <;> exact Nat.zero_le _
    | round a => unfold does; dsimp only; split <;> exact Nat.zero_le _
    | answer a => unfold does; dsimp only; split <;> exact Nat.zero_le _
    | status k a => unfold does; dsimp only; split <;> exact Nat.zero_le _
    | cut t => unfold does; dsimp only; split <;> exact Nat.zero_le _
  omega
/-- before the place i: w is written, F stands, m calls are to come -/
structure LI (ns A : List Int) (m i : Nat) (w : List Int) (F : Frame) (c : Nat) : Prop where
  cs : ∃ f cs, PyFlat.calls PyRc77.shape f (ns.drop i) = some cs ∧ cs.length = m ∧ (∀ c0 ∈ cs, Rc77Neutral.asked1 (PyRc77.whole c0) = true) ∧ w ++ PyFlat.told (PyFlat.played Rc77Neutral.step ⟨F⟩ (cs.map PyRc77.whole)) = A
  few : m ≤ 200
  cc : c ≤ 2 * (200 - m)
  wl : w.length ≤ 65538 * (200 - m)
  ii : i ≤ ns.length
theorem LI.done {ns A w : List Int} {m i : Nat} {F : Frame} {c : Nat} (h : LI ns A m i w F c) (hi : ¬ i < ns.length) : w = A := by
  obtain ⟨f, cs, h1, h2, h3, h4⟩ := h.cs
  rw [List.drop_of_length_le (by omega)] at h1
  obtain rfl := calls_nil h1
  rw [← h4]
  show w = w ++ []
  rw [List.append_nil]
theorem LI.next {ns A w : List Int} {m i : Nat} {F : Frame} {c : Nat} (h : LI ns A m i w F c) (hi : i < ns.length) :
    ∃ (k : Nat) (call : Rc77.Call) (u m' : Nat), ns[i]? = some (k : Int) ∧ k < 11 ∧ ArgsOf (ns.drop (i + 1)) k call u ∧ c ≤ 400 ∧ w.length + 65538 ≤ 16777216 ∧ m' < m ∧
      LI ns A m' (i + 1 + u) (w ++ ((outL F call).length : Int) :: outL F call) (does ⟨F⟩ call).1.frame (c + 2) ∨ ¬ F.length ≤ 16 := by
  by_cases hF : F.length ≤ 16
  · obtain ⟨f, cs, h1, h2, h3, h4⟩ := h.cs
    have ed : ns.drop i = ns[i] :: ns.drop (i + 1) := (List.getElem_cons_drop hi).symm
    rw [ed] at h1
    obtain ⟨f', c0, t, cs', hc, hcs, rfl⟩ := calls_cons h1
    have ha := h3 c0 (List.mem_cons_self ..)
    obtain ⟨k, call, u, hk, hk11, hu, ht, hcall, hargs⟩ := parse hc ha
    rw [List.length_cons] at h2
    have hf := h.few
    have hcc := h.cc
    have hwl := h.wl
    have hol := out_len hF call
    rw [List.length_drop] at hu
    refine ⟨k, call, u, cs'.length, .inl ⟨?_, hk11, hargs, by omega, by omega, by omega, ⟨⟨f', cs', ?_, rfl, fun c1 h1 => h3 c1 (List.mem_cons_of_mem _ h1), ?_⟩, by omega, by omega, ?_, by omega⟩⟩⟩
    · rw [List.getElem?_eq_getElem hi, hk]
    · rw [ht, List.drop_drop] at hcs
      exact hcs
    · rw [← h4, List.map_cons]
      have es : Rc77Neutral.step ⟨F⟩ (PyRc77.whole c0) = ((does ⟨F⟩ call).1, outL F call) := by
        unfold Rc77Neutral.step
        rw [hcall]
        rfl
      show w ++ ((outL F call).length : Int) :: outL F call ++ _ = w ++ PyFlat.told ((Rc77Neutral.step ⟨F⟩ (PyRc77.whole c0)).2 :: PyFlat.played Rc77Neutral.step (Rc77Neutral.step ⟨F⟩ (PyRc77.whole c0)).1 (cs'.map PyRc77.whole))
      rw [es]
      unfold PyFlat.told
      rw [List.flatMap_cons, List.append_assoc]
    · rw [List.length_append, List.length_cons]
      have : 65538 * (200 - m) + 65538 ≤ 65538 * (200 - cs'.length) := by
        have e : 200 - cs'.length = (200 - m) + 1 := by omega
        rw [e, Nat.mul_add, Nat.mul_one]
        exact Nat.le_refl _
      omega
  · exact ⟨0, .init, 0, 0, .inr hF⟩
theorem LI.start {ns : List Int} (h : PyRc77.answers_asked ns = true) : ∃ m, LI ns (PyRc77.answers ns) m 0 [] [] 0 := by
  unfold PyRc77.answers_asked at h
  cases hc : PyRc77.calls ns with
  | none => rw [hc] at h; cases h
  | some cs =>
    rw [hc] at h
    dsimp only at h
    unfold PyRc77.calls at hc
    cases hf : PyFlat.calls PyRc77.shape ns.length ns with
    | none => rw [hf] at hc; cases hc
    | some cs0 =>
      have hc' := hc
      rw [hf] at hc
      dsimp only at hc
      have hc := Option.some.inj hc
      subst hc
      rw [Bool.and_eq_true] at h
      have h1 := h.1
      unfold PyFlat.atMost at h1
      rw [decide_eq_true_eq, List.length_map] at h1
      have h2 := h.2
      unfold Rc77Neutral.asked at h2
      rw [Bool.and_eq_true, List.all_eq_true] at h2
      refine ⟨cs0.length, ⟨⟨ns.length, cs0, hf, rfl, fun c0 hc0 => h2.1 _ (List.mem_map_of_mem hc0), ?_⟩, h1, Nat.zero_le _, Nat.zero_le _, Nat.zero_le _⟩⟩
      unfold PyRc77.answers PyRc77.calls
      rw [hf]
      rfl
end Ar

set_option linter.all false
namespace ST
open PySem
def gm : Nat → Nat → Nat
  | 0, x => x
  | m + 1, x => gm m (x * 5 + 1)
theorem gm_add : ∀ m n x, gm (m + n) x = gm n (gm m x)
  | 0, n, x => by rw [Nat.zero_add]; rfl
  | m + 1, n, x => by rw [Nat.succ_add]; exact gm_add m n _
theorem gm_pow : ∀ j, ∃ B, ∀ x, gm (2 ^ j) x = x + 2 ^ (j + 2) * ((2 * B + 1) * x) + 2 ^ j * (2 * B + 1)
  | 0 => ⟨0, fun x => by show x * 5 + 1 = _; simp; omega⟩
  | j + 1 => by
    obtain ⟨B, h⟩ := gm_pow j
    refine ⟨B + 2 ^ j * ((2 * B + 1) * (2 * B + 1)), fun x => ?_⟩
    have e : 2 ^ (j + 1) = 2 ^ j + 2 ^ j := by rw [Nat.pow_succ]; omega
    rw [e, gm_add, h, h]
    have e2 : 2 ^ (j + 2) = 4 * 2 ^ j := by rw [Nat.pow_add]; omega
    have e3 : 2 ^ (j + 1 + 2) = 8 * 2 ^ j := by rw [Nat.pow_add, Nat.pow_add]; omega
    rw [e2, e3]
    generalize 2 ^ j = P
    generalize hA : 2 * B + 1 = A
    have hA' : 2 * (B + P * (A * A)) + 1 = A + 2 * (P * (A * A)) := by omega
    rw [hA']
    simp only [Nat.mul_add, Nat.add_mul]
    have f1 : 4 * P * (A * (4 * P * (A * x))) = 16 * (P * P * A * A * x) := by
      simp only [Nat.mul_comm, Nat.mul_left_comm, Nat.mul_assoc]
    have f2 : 8 * P * (2 * (P * (A * A)) * x) = 16 * (P * P * A * A * x) := by
      simp only [Nat.mul_comm, Nat.mul_left_comm, Nat.mul_assoc]
    have f3 : 4 * P * (A * (P * A)) = 4 * (P * P * A * A) := by
      simp only [Nat.mul_comm, Nat.mul_left_comm, Nat.mul_assoc]
    have f4 : P * (2 * (P * (A * A))) = 2 * (P * P * A * A) := by
      simp only [Nat.mul_comm, Nat.mul_left_comm, Nat.mul_assoc]
    have f5 : 4 * P * (A * x) = 4 * (P * (A * x)) := Nat.mul_assoc _ _ _
    have f6 : 8 * P * (A * x) = 8 * (P * (A * x)) := Nat.mul_assoc _ _ _
    rw [f1, f2, f3, f4, f5, f6]
    omega
theorem gm_cover : ∀ k x e, ∃ m, m < 2 ^ k ∧ gm m x % 2 ^ k = e % 2 ^ k
  | 0, x, e => ⟨0, by decide, by rw [Nat.pow_zero, Nat.mod_one, Nat.mod_one]⟩
  | k + 1, x, e => by
    obtain ⟨m, hm, h⟩ := gm_cover k x e
    have e1 : 2 ^ (k + 1) = 2 ^ k + 2 ^ k := by rw [Nat.pow_succ]; omega
    by_cases hq : gm m x % 2 ^ (k + 1) = e % 2 ^ (k + 1)
    · exact ⟨m, by omega, hq⟩
    · obtain ⟨B, hB⟩ := gm_pow k
      refine ⟨m + 2 ^ k, by omega, ?_⟩
      rw [gm_add, hB]
      have e2 : 2 ^ (k + 2) = 2 * 2 ^ (k + 1) := by rw [Nat.pow_succ]; omega
      generalize gm m x = y at h hq ⊢
      have e3 : y + 2 ^ (k + 2) * ((2 * B + 1) * y) + 2 ^ k * (2 * B + 1) = (y + 2 ^ k) + 2 ^ (k + 1) * (2 * ((2 * B + 1) * y) + B) := by
        rw [e2, Nat.mul_add, Nat.mul_add, e1]
        generalize (2 * B + 1) * y = z
        generalize 2 ^ k = P
        have g1 : P * (2 * B) = (P + P) * B := by rw [Nat.add_mul, ← Nat.mul_assoc, Nat.mul_comm P 2, Nat.two_mul, Nat.add_mul]
        have g2 : 2 * (P + P) * z = (P + P) * (2 * z) := by simp only [Nat.mul_comm, Nat.mul_left_comm, Nat.mul_assoc]
        rw [g1, g2]
        omega
      rw [e3, Nat.add_mul_mod_self_left]
      have p1 : 0 < 2 ^ k := Nat.pow_pos (by decide)
      have hy := Nat.div_add_mod y (2 ^ k)
      have he := Nat.div_add_mod e (2 ^ k)
      rw [e1] at hq ⊢
      generalize 2 ^ k = P at h hq hy he p1 ⊢
      -- y = P a + r, e = P b + r
      have two : ∀ z r : Nat, r < P → z % P = r → z % (P + P) = r ∨ z % (P + P) = P + r := fun z r hr hz => by
        have d := Nat.mod_lt z (show 0 < P + P by omega)
        have q : z % (P + P) % P = z % P := by
          have : P ∣ P + P := ⟨2, by omega⟩
          exact Nat.mod_mod_of_dvd z this
        rw [hz] at q
        by_cases c : z % (P + P) < P
        · rw [Nat.mod_eq_of_lt c] at q; exact .inl q
        · have : z % (P + P) - P < P := by omega
          have q2 : (z % (P + P) - P + P) % P = r := by rw [Nat.sub_add_cancel (by omega)]; exact q
          rw [Nat.add_mod_right, Nat.mod_eq_of_lt this] at q2
          exact .inr (by omega)
      have hr : e % P < P := Nat.mod_lt _ p1
      have sh : (y + P) % (P + P) = (y % (P + P) + P) % (P + P) := by rw [Nat.mod_add_mod]
      rw [sh]
      rcases two y (e % P) hr h with a | a <;> rcases two e (e % P) hr rfl with b | b
      · exact absurd (a.trans b.symm) hq
      · rw [a, b, Nat.mod_eq_of_lt (by omega)]; omega
      · rw [a, b]
        have : P + e % P + P = e % P + (P + P) := by omega
        rw [this, Nat.add_mod_right, Nat.mod_eq_of_lt (by omega)]
      · exact absurd (a.trans b.symm) hq
def lp (M : Nat) : Nat → Nat → Nat → Nat × Nat
  | 0, i, q => (i, q)
  | m + 1, i, q => lp M m (SetTable.leap M i q).1 (SetTable.leap M i q).2
theorem lp_add (M : Nat) : ∀ m n i q, lp M (m + n) i q = lp M n (lp M m i q).1 (lp M m i q).2
  | 0, n, i, q => by rw [Nat.zero_add]; rfl
  | m + 1, n, i, q => by rw [Nat.succ_add]; exact lp_add M m n _ _
theorem lp_gm (k : Nat) : ∀ m i, (lp (2 ^ k - 1) m i 0).1 % 2 ^ k = gm m i % 2 ^ k ∧ (lp (2 ^ k - 1) m i 0).2 = 0
  | 0, i => ⟨rfl, rfl⟩
  | m + 1, i => by
    have p1 : 0 < 2 ^ k := Nat.pow_pos (by decide)
    have e : 2 ^ k - 1 + 1 = 2 ^ k := by omega
    have h := lp_gm k m ((i * 5 + 1) % 2 ^ k)
    have cong : ∀ m x y, x % 2 ^ k = y % 2 ^ k → gm m x % 2 ^ k = gm m y % 2 ^ k := by
      intro m
      induction m with
      | zero => intro x y h; exact h
      | succ m ih =>
        intro x y h
        refine ih _ _ ?_
        rw [Nat.add_mod, Nat.mul_mod, h, ← Nat.mul_mod, ← Nat.add_mod]
    have hl : SetTable.leap (2 ^ k - 1) i 0 = ((i * 5 + 1) % 2 ^ k, 0) := by
      unfold SetTable.leap
      rw [e]
    show (lp (2 ^ k - 1) m (SetTable.leap (2 ^ k - 1) i 0).1 (SetTable.leap (2 ^ k - 1) i 0).2).1 % 2 ^ k = gm m (i * 5 + 1) % 2 ^ k ∧ (lp (2 ^ k - 1) m (SetTable.leap (2 ^ k - 1) i 0).1 (SetTable.leap (2 ^ k - 1) i 0).2).2 = 0
    rw [hl]
    exact ⟨h.1.trans (cong m _ _ (Nat.mod_mod _ _)), h.2⟩
theorem lp_lt (k : Nat) : ∀ m i q, i < 2 ^ k → (lp (2 ^ k - 1) m i q).1 < 2 ^ k
  | 0, _, _, h => h
  | m + 1, i, q, _ => lp_lt k m _ _ (by
    have p1 : 0 < 2 ^ k := Nat.pow_pos (by decide)
    show (i * 5 + 1 + q / 32) % (2 ^ k - 1 + 1) < _
    rw [Nat.sub_add_cancel p1]
    exact Nat.mod_lt _ p1)
/-- every slot is a run's start before long -/
theorem lp_reach (k i q e : Nat) (hi : i < 2 ^ k) (he : e < 2 ^ k) (hq : q < 2 ^ 20) : ∃ m, m < 2 ^ k + 4 ∧ (lp (2 ^ k - 1) m i q).1 = e := by
  have q4 : (lp (2 ^ k - 1) 4 i q).2 = 0 := by
    show q / 32 / 32 / 32 / 32 = 0
    omega
  obtain ⟨m, hm, h⟩ := gm_cover k (lp (2 ^ k - 1) 4 i q).1 e
  refine ⟨4 + m, by omega, ?_⟩
  rw [lp_add, q4]
  have a := (lp_gm k m (lp (2 ^ k - 1) 4 i q).1).1
  rw [h, Nat.mod_eq_of_lt he, Nat.mod_eq_of_lt (lp_lt k m _ _ (lp_lt k 4 i q hi))] at a
  exact a
end ST

set_option linter.all false
namespace ST
open PySem SetTable
def Rise (xs : Array Nat) : Prop := ∀ (i j a b : Nat), i < j → xs[i]? = some a → xs[j]? = some b → a < b
theorem Rise.list {xs : Array Nat} (h : xs.toList.Pairwise (· < ·)) : Rise xs := fun i j a b hij ha hb => by
  rw [← Array.getElem?_toList] at ha hb
  obtain ⟨h1, e1⟩ := List.getElem?_eq_some_iff.mp ha
  obtain ⟨h2, e2⟩ := List.getElem?_eq_some_iff.mp hb
  have := List.pairwise_iff_getElem.mp h i j h1 h2 hij
  rw [e1, e2] at this
  exact this
theorem Rise.pw {xs : Array Nat} (h : Rise xs) : xs.toList.Pairwise (· < ·) := by
  refine List.pairwise_iff_getElem.mpr fun i j h1 h2 hij => ?_
  refine h i j _ _ hij ?_ ?_
  · rw [← Array.getElem?_toList]; exact List.getElem?_eq_getElem h1
  · rw [← Array.getElem?_toList]; exact List.getElem?_eq_getElem h2
theorem Rise.nodup {xs : Array Nat} (h : Rise xs) : xs.toList.Nodup := h.pw.imp (fun h => Nat.ne_of_lt h)
theorem below_go {xs : Array Nat} {j : Nat} (hR : Rise xs) : ∀ (fuel lo hi : Nat), lo ≤ hi → hi ≤ xs.size → hi - lo ≤ fuel →
    (∀ i a, i < lo → xs[i]? = some a → a < j) → (∀ i a, hi ≤ i → xs[i]? = some a → j ≤ a) →
    below.go xs j fuel lo hi ≤ xs.size ∧ (∀ i a, i < below.go xs j fuel lo hi → xs[i]? = some a → a < j) ∧ (∀ i a, below.go xs j fuel lo hi ≤ i → xs[i]? = some a → j ≤ a)
  | 0, lo, hi, h1, h2, h3, hl, hh => by
    have e : lo = hi := by omega
    subst e
    exact ⟨h2, hl, hh⟩
  | fuel + 1, lo, hi, h1, h2, h3, hl, hh => by
    show (if lo < hi then (if xs.getD ((lo + hi) / 2) j < j then below.go xs j fuel ((lo + hi) / 2 + 1) hi else below.go xs j fuel lo ((lo + hi) / 2)) else lo) ≤ _ ∧ _
    by_cases c : lo < hi
    · have hm : (lo + hi) / 2 < xs.size := by omega
      have hg : xs[(lo + hi) / 2]? = some (xs.getD ((lo + hi) / 2) j) := by
        rw [Array.getD_eq_getD_getElem?, Array.getElem?_eq_getElem hm]
        rfl
      by_cases c2 : xs.getD ((lo + hi) / 2) j < j
      · have go := below_go hR fuel ((lo + hi) / 2 + 1) hi (by omega) h2 (by omega) (fun i a hi' ha => by
          by_cases e : i = (lo + hi) / 2
          · rw [e, hg] at ha; cases ha; exact c2
          · have := hR i ((lo + hi) / 2) a _ (by omega) ha hg
            omega) hh
        have e : below.go xs j (fuel + 1) lo hi = below.go xs j fuel ((lo + hi) / 2 + 1) hi := by
          show (if lo < hi then (if xs.getD ((lo + hi) / 2) j < j then below.go xs j fuel ((lo + hi) / 2 + 1) hi else below.go xs j fuel lo ((lo + hi) / 2)) else lo) = _
          rw [if_pos c, if_pos c2]
        rw [if_pos c, if_pos c2, e]
        exact go
      · have go := below_go hR fuel lo ((lo + hi) / 2) (by omega) (by omega) (by omega) hl (fun i a hi' ha => by
          by_cases e : i = (lo + hi) / 2
          · rw [e, hg] at ha; cases ha; omega
          · have := hR ((lo + hi) / 2) i _ a (by omega) hg ha
            omega)
        have e : below.go xs j (fuel + 1) lo hi = below.go xs j fuel lo ((lo + hi) / 2) := by
          show (if lo < hi then (if xs.getD ((lo + hi) / 2) j < j then below.go xs j fuel ((lo + hi) / 2 + 1) hi else below.go xs j fuel lo ((lo + hi) / 2)) else lo) = _
          rw [if_pos c, if_neg c2]
        rw [if_pos c, if_neg c2, e]
        exact go
    · have e : below.go xs j (fuel + 1) lo hi = lo := by
        show (if lo < hi then _ else lo) = _
        rw [if_neg c]
      rw [if_neg c, e]
      have e2 : lo = hi := by omega
      subst e2
      exact ⟨h2, hl, hh⟩
theorem below_spec {xs : Array Nat} (hR : Rise xs) (j : Nat) : below xs j ≤ xs.size ∧ (∀ i a, i < below xs j → xs[i]? = some a → a < j) ∧ (∀ i a, below xs j ≤ i → xs[i]? = some a → j ≤ a) :=
  below_go hR xs.size 0 xs.size (Nat.zero_le _) (Nat.le_refl _) (by omega) (fun i a h => absurd h (Nat.not_lt_zero _)) (fun i a h ha => by
    have := (Array.getElem?_eq_some_iff.mp ha).1
    omega)
/-- a slot is in the places iff below finds it -/
theorem mem_place {xs : Array Nat} (hR : Rise xs) {j : Nat} : j ∈ xs.toList ↔ xs[below xs j]? = some j := by
  constructor
  · intro h
    obtain ⟨i, hi, e⟩ := List.mem_iff_getElem.mp h
    have ha : xs[i]? = some j := by rw [← Array.getElem?_toList, List.getElem?_eq_getElem hi, e]
    obtain ⟨b1, b2, b3⟩ := below_spec hR j
    have : below xs j = i := by
      rcases Nat.lt_trichotomy (below xs j) i with c | c | c
      · obtain ⟨v, hv⟩ : ∃ v, xs[below xs j]? = some v := ⟨_, Array.getElem?_eq_getElem (by have := (Array.getElem?_eq_some_iff.mp ha).1; omega)⟩
        have x1 := b3 _ v (Nat.le_refl _) hv
        have x2 := hR _ i v j c hv ha
        omega
      · exact c
      · have := b2 i j c ha
        omega
    rw [this]
    exact ha
  · intro h
    rw [← Array.getElem?_toList] at h
    exact List.mem_of_getElem? h
theorem insertAt_list {α : Type} (xs : Array α) (p : Nat) (x : α) : (insertAt xs p x).toList = xs.toList.take p ++ x :: xs.toList.drop p := by
  unfold insertAt
  simp [Array.toList_extract]
  rw [List.take_of_length_le (by rw [List.length_drop, Array.length_toList]; exact Nat.le_refl _)]
theorem rise_insert {xs : Array Nat} (hR : Rise xs) {j : Nat} (hj : j ∉ xs.toList) : Rise (insertAt xs (below xs j) j) := by
  apply Rise.list
  rw [insertAt_list]
  obtain ⟨b1, b2, b3⟩ := below_spec hR j
  have hp := hR.pw
  have lo : ∀ a ∈ xs.toList.take (below xs j), a < j := fun a ha => by
    obtain ⟨i, hi, e⟩ := List.mem_iff_getElem.mp ha
    rw [List.length_take] at hi
    refine b2 i a (by omega) ?_
    rw [← Array.getElem?_toList, ← e, List.getElem_take]
    exact List.getElem?_eq_getElem _
  have hi : ∀ a ∈ xs.toList.drop (below xs j), j < a := fun a ha => by
    have hm : a ∈ xs.toList := List.mem_of_mem_drop ha
    obtain ⟨i, hi, e⟩ := List.mem_iff_getElem.mp ha
    rw [List.length_drop] at hi
    have := b3 (below xs j + i) a (by omega) (by
      rw [← Array.getElem?_toList, ← e, List.getElem_drop]
      exact List.getElem?_eq_getElem _)
    have ne : a ≠ j := fun z => hj (z ▸ hm)
    omega
  refine List.pairwise_append.mpr ⟨hp.sublist (List.take_sublist _ _), List.pairwise_cons.mpr ⟨hi, hp.sublist (List.drop_sublist _ _)⟩, fun a ha b hb => ?_⟩
  rcases List.mem_cons.mp hb with rfl | hb
  · exact lo a ha
  · have := lo a ha; have := hi b hb; omega
theorem insertAt_size {α : Type} (xs : Array α) (p : Nat) (x : α) : (insertAt xs p x).size = xs.size + 1 := by
  rw [← Array.length_toList, insertAt_list, List.length_append, List.length_cons, List.length_take, List.length_drop, Array.length_toList]
  omega
theorem mem_insertAt {α : Type} (xs : Array α) (p : Nat) (x y : α) : y ∈ (insertAt xs p x).toList ↔ y = x ∨ y ∈ xs.toList := by
  rw [insertAt_list, List.mem_append, List.mem_cons]
  constructor
  · rintro (h | h | h)
    · exact .inr (List.mem_of_mem_take h)
    · exact .inl h
    · exact .inr (List.mem_of_mem_drop h)
  · rintro (h | h)
    · exact .inr (.inl h)
    · have : y ∈ xs.toList.take p ++ xs.toList.drop p := by rw [List.take_append_drop]; exact h
      rcases List.mem_append.mp this with h | h
      · exact .inl h
      · exact .inr (.inr h)
structure TOk (t : SetTable) (n : Nat) : Prop where
  size : t.place.size = n
  nodum : t.dummies = #[]
  pow : ∃ k, 3 ≤ k ∧ k ≤ 23 ∧ t.mask = 2 ^ k - 1
  rise : Rise t.place
  le : ∀ a ∈ t.place.toList, a ≤ t.mask
  room : n * 5 < t.mask * 3
  plain : t.plain = true
theorem TOk.fill {t : SetTable} {n : Nat} (h : TOk t n) : t.fill = n := by
  unfold SetTable.fill
  rw [h.nodum, h.size]
  rfl
theorem has_nil (j : Nat) : has #[] j = false := by
  unfold has
  simp
theorem slot_eq {t : SetTable} {n : Nat} (h : TOk t n) (j : Nat) : (j ∈ t.place.toList ∧ ∃ i, t.slot j = .live i ∧ t.place[i]? = some j) ∨ (j ∉ t.place.toList ∧ t.slot j = .empty) := by
  unfold SetTable.slot
  by_cases c : t.place[below t.place j]? = some j
  · refine .inl ⟨(mem_place h.rise).mpr c, below t.place j, ?_, c⟩
    simp [c]
  · refine .inr ⟨fun z => c ((mem_place h.rise).mp z), ?_⟩
    have : (t.place[below t.place j]? == some j) = false := by
      apply beq_eq_false_iff_ne.mpr
      exact c
    simp [this, h.nodum, has_nil]
theorem nodup_len : ∀ {l m : List Nat}, l.Nodup → (∀ a ∈ l, a ∈ m) → l.length ≤ m.length
  | [], m, _, _ => Nat.zero_le _
  | a :: l, m, hd, hs => by
    obtain ⟨h1, h2⟩ := List.nodup_cons.mp hd
    have hm : a ∈ m := hs a (List.mem_cons_self ..)
    have := nodup_len (l := l) (m := m.erase a) h2 fun b hb => (List.mem_erase_of_ne (fun (z : b = a) => h1 (by rw [← z]; exact hb))).mpr (hs b (List.mem_cons_of_mem _ hb))
    rw [List.length_erase_of_mem hm] at this
    have := List.length_pos_of_mem hm
    rw [List.length_cons]
    omega
theorem TOk.free {t : SetTable} {n : Nat} (h : TOk t n) : ∃ e, e ≤ t.mask ∧ e ∉ t.place.toList := by
  apply Classical.byContradiction
  intro hn
  have hsub : ∀ e ∈ List.range (t.mask + 1), e ∈ t.place.toList := fun e he => by
    apply Classical.byContradiction
    intro hx
    exact hn ⟨e, by have := List.mem_range.mp he; omega, hx⟩
  have hl := nodup_len (List.nodup_range (n := t.mask + 1)) hsub
  rw [List.length_range, Array.length_toList, h.size] at hl
  have := h.room
  omega
structure PSt (t : SetTable) (p : Probe) : Prop where
  more : p.j + p.more = runEnd t.mask p.i
  dum : p.dummy = none
  i : p.i ≤ t.mask
theorem runEnd_le {M i : Nat} (h : i ≤ M) : i ≤ runEnd M i ∧ runEnd M i ≤ M ∧ runEnd M i ≤ i + 9 := by
  unfold runEnd
  split <;> omega
def atRun (t : SetTable) (i q : Nat) : Probe := { j := i, more := runEnd t.mask i - i, i := i, perturb := q, dummy := none }
theorem atRun_ok {t : SetTable} {i q : Nat} (h : i ≤ t.mask) : PSt t (atRun t i q) := ⟨by show i + (runEnd t.mask i - i) = runEnd t.mask i; have := (runEnd_le h).1; omega, rfl, h⟩
/-- how a probe ends -/
def Ended (t : SetTable) (hashAt : Nat → Int) (h : Int) : Option Met → Prop
  | some (.empty j d) => d = none ∧ j ≤ t.mask ∧ j ∉ t.place.toList
  | some (.candidate _ i _) => hashAt i = h ∧ i < t.place.size
  | none => False
theorem probe_run {t : SetTable} {n : Nat} (T : TOk t n) (hashAt : Nat → Int) (h : Int) (fuel' : Nat) (i q : Nat) (hi : i ≤ t.mask) (next : ∀ fuel, fuel' ≤ fuel → Ended t hashAt h (probe.go t hashAt h fuel (atRun t (leap t.mask i q).1 (leap t.mask i q).2))) :
    ∀ (m j fuel : Nat), j + m = runEnd t.mask i → fuel' + m + 1 ≤ fuel → Ended t hashAt h (probe.go t hashAt h fuel { j := j, more := m, i := i, perturb := q, dummy := none }) := by
  intro m
  induction m with
  | zero =>
    intro j fuel hj hf
    cases fuel with
    | zero => omega
    | succ fuel =>
      have adv : t.advance { j := j, more := 0, i := i, perturb := q, dummy := none } = atRun t (leap t.mask i q).1 (leap t.mask i q).2 := by
        unfold SetTable.advance atRun
        simp
      show Ended t hashAt h (match t.slot j with
        | .empty => some (.empty j none)
        | .dummy => _
        | .live i' => if hashAt i' == h then some (.candidate j i' _) else probe.go t hashAt h fuel (t.advance { j := j, more := 0, i := i, perturb := q, dummy := none }))
      have hle := (runEnd_le hi).2.1
      rcases slot_eq T j with ⟨_, i', e, he⟩ | ⟨e1, e⟩
      · rw [e]
        dsimp only
        by_cases c : hashAt i' = h
        · rw [if_pos (by simp [c])]
          exact ⟨c, (Array.getElem?_eq_some_iff.mp he).1⟩
        · rw [if_neg (by simp [c]), adv]
          exact next fuel (by omega)
      · rw [e]
        exact ⟨rfl, by omega, e1⟩
  | succ m ih =>
    intro j fuel hj hf
    cases fuel with
    | zero => omega
    | succ fuel =>
      have adv : t.advance { j := j, more := m + 1, i := i, perturb := q, dummy := none } = { j := j + 1, more := m, i := i, perturb := q, dummy := none } := by
        unfold SetTable.advance
        simp
      show Ended t hashAt h (match t.slot j with
        | .empty => some (.empty j none)
        | .dummy => _
        | .live i' => if hashAt i' == h then some (.candidate j i' _) else probe.go t hashAt h fuel (t.advance { j := j, more := m + 1, i := i, perturb := q, dummy := none }))
      have hle := (runEnd_le hi).2.1
      rcases slot_eq T j with ⟨_, i', e, he⟩ | ⟨e1, e⟩
      · rw [e]
        dsimp only
        by_cases c : hashAt i' = h
        · rw [if_pos (by simp [c])]
          exact ⟨c, (Array.getElem?_eq_some_iff.mp he).1⟩
        · rw [if_neg (by simp [c]), adv]
          exact ih (j + 1) fuel (by omega) (by omega)
      · rw [e]
        exact ⟨rfl, by omega, e1⟩
theorem leap_le {k i q : Nat} : (leap (2 ^ k - 1) i q).1 ≤ 2 ^ k - 1 := by
  have p1 : 0 < 2 ^ k := Nat.pow_pos (by decide)
  show (i * 5 + 1 + q / 32) % (2 ^ k - 1 + 1) ≤ _
  have := Nat.mod_lt (i * 5 + 1 + q / 32) (show 0 < 2 ^ k - 1 + 1 by omega)
  omega
theorem probe_runs {t : SetTable} {n : Nat} (T : TOk t n) {k : Nat} (hk : t.mask = 2 ^ k - 1) (hashAt : Nat → Int) (h : Int) {e : Nat} (he : e ≤ t.mask) (hf : e ∉ t.place.toList) :
    ∀ (m i q fuel : Nat), i ≤ t.mask → (lp t.mask m i q).1 = e → 10 * m + 1 ≤ fuel → Ended t hashAt h (probe.go t hashAt h fuel (atRun t i q))
  | 0, i, q, fuel, hi, hm, hfu => by
    have hm : i = e := hm
    subst hm
    cases fuel with
    | zero => omega
    | succ fuel =>
      show Ended t hashAt h (match t.slot i with
        | .empty => some (.empty i none)
        | .dummy => _
        | .live i' => _)
      rcases slot_eq T i with ⟨z, _⟩ | ⟨e1, e2⟩
      · exact absurd z hf
      · rw [e2]
        exact ⟨rfl, hi, e1⟩
  | m + 1, i, q, fuel, hi, hm, hfu => by
    have hr := runEnd_le hi
    refine probe_run T hashAt h (10 * m + 1) i q hi (fun fu hfu' => probe_runs T hk hashAt h he hf m _ _ fu ?_ hm hfu') (runEnd t.mask i - i) i fuel (by omega) (by omega)
    rw [hk]
    exact leap_le
theorem bits_small {h : Int} (h0 : 0 ≤ h) (h1 : h < 65536) : bits h = h.toNat ∧ bits h < 65536 := by
  unfold bits
  rw [Int.emod_eq_of_lt h0 (by omega)]
  exact ⟨rfl, by omega⟩
/-- whatever is asked: the probe ends -/
theorem probe_ends {t : SetTable} {n : Nat} (T : TOk t n) (hashAt : Nat → Int) {h : Int} (h0 : 0 ≤ h) (h1 : h < 65536) : Ended t hashAt h (t.probe hashAt h (t.probeStart h)) := by
  obtain ⟨k, k3, k23, hk⟩ := T.pow
  obtain ⟨e, he, hf⟩ := T.free
  have p1 : 0 < 2 ^ k := Nat.pow_pos (by decide)
  have hs : t.probeStart h = atRun t (bits h % (t.mask + 1)) (bits h) := rfl
  have hi : bits h % (t.mask + 1) ≤ t.mask := by have := Nat.mod_lt (bits h) (show 0 < t.mask + 1 by omega); omega
  have hb := (bits_small h0 h1).2
  obtain ⟨m, hm, hl⟩ := lp_reach k (bits h % (t.mask + 1)) (bits h) e (by rw [hk] at hi ⊢; omega) (by rw [hk] at he; omega) (by omega)
  unfold SetTable.probe
  rw [hs]
  refine probe_runs T hk hashAt h he hf m _ _ _ hi (by rw [hk]; rw [hk] at hl; exact hl) ?_
  unfold turns
  rw [hk]
  omega
theorem freeSlot_some {t : SetTable} {n : Nat} (T : TOk t n) {h : Int} (h0 : 0 ≤ h) (h1 : h < 65536) : ∃ j, t.freeSlot h = some (j, false) ∧ j ≤ t.mask ∧ j ∉ t.place.toList := by
  have E := probe_ends T (fun _ => h + 1) h0 h1
  unfold SetTable.freeSlot
  cases e : t.probe (fun _ => h + 1) h (t.probeStart h) with
  | none => rw [e] at E; exact E.elim
  | some m =>
    rw [e] at E
    cases m with
    | empty j d =>
      obtain ⟨rfl, a, b⟩ := E
      exact ⟨j, rfl, a, b⟩
    | candidate j i nx =>
      obtain ⟨a, _⟩ := E
      have a : h + 1 = h := a
      omega
end ST

set_option linter.all false
namespace ST
open PySem SetTable
abbrev Own := Array (Option Nat)
def isFree (o : Own) (j : Nat) : Bool := (o.getD j (some 0)).isNone
theorem isFree_lt {o : Own} {j : Nat} (h : isFree o j = true) : j < o.size ∧ o[j]? = some none := by
  unfold isFree at h
  rw [Array.getD_eq_getD_getElem?] at h
  cases e : o[j]? with
  | none => rw [e] at h; simp at h
  | some v =>
    rw [e] at h
    cases v with
    | none => exact ⟨(Array.getElem?_eq_some_iff.mp e).1, rfl⟩
    | some _ => simp at h
theorem free_some {M : Nat} {o : Own} {e : Nat} (he : isFree o e = true) : ∀ (m fuel i q : Nat), (lp M m i q).1 = e → i ≤ M → (∀ i q, (leap M i q).1 ≤ M) → m < fuel → ∃ j, layClean.free M o fuel i q = some j ∧ isFree o j = true
  | m, 0, _, _, _, _, _, h => absurd h (Nat.not_lt_zero _)
  | m, fuel + 1, i, q, hm, hi, hl, hf => by
    have hr := runEnd_le hi
    cases c : (List.range (runEnd M i + 1 - i)).find? fun k => (o.getD (i + k) (some 0)).isNone with
    | some k =>
      refine ⟨i + k, ?_, ?_⟩
      · show (match (List.range (runEnd M i + 1 - i)).find? fun k => (o.getD (i + k) (some 0)).isNone with
          | some k => some (i + k)
          | none => _) = _
        rw [c]
      · exact List.find?_some (p := fun k => (o.getD (i + k) (some 0)).isNone) c
    | none =>
      have hne : ∀ k, k < runEnd M i + 1 - i → isFree o (i + k) = false := fun k hk => by
        have := List.find?_eq_none.mp c k (List.mem_range.mpr hk)
        cases c2 : isFree o (i + k) with
        | false => rfl
        | true => exact absurd c2 this
      cases m with
      | zero =>
        have hm : i = e := hm
        have := hne 0 (by omega)
        rw [Nat.add_zero, hm, he] at this
        cases this
      | succ m =>
        obtain ⟨j, h1, h2⟩ := free_some he m fuel (leap M i q).1 (leap M i q).2 hm (hl i q) hl (by omega)
        refine ⟨j, ?_, h2⟩
        show (match (List.range (runEnd M i + 1 - i)).find? fun k => (o.getD (i + k) (some 0)).isNone with
          | some k => some (i + k)
          | none => layClean.free M o fuel (leap M i q).1 (leap M i q).2) = _
        rw [c]
        exact h1
/-- the owners, slot by slot -/
def livesFrom (o : Own) (js : List Nat) : List (Nat × Nat) := js.filterMap fun j => (o.getD j none).map (j, ·)
theorem lives_set {o : Own} {j v : Nat} (hj : o[j]? = some none) : ∀ (js : List Nat), js.Nodup →
    ((livesFrom (o.setIfInBounds j (some v)) js).map (·.2)).Perm (if j ∈ js then v :: (livesFrom o js).map (·.2) else (livesFrom o js).map (·.2))
  | [], _ => by simp [livesFrom]
  | i :: js, hd => by
    obtain ⟨h1, h2⟩ := List.nodup_cons.mp hd
    have ih := lives_set hj (v := v) js h2
    have hlt := (Array.getElem?_eq_some_iff.mp hj).1
    unfold livesFrom at ih ⊢
    rw [List.filterMap_cons, List.filterMap_cons]
    by_cases e : i = j
    · subst e
      have g1 : (o.setIfInBounds i (some v)).getD i none = some v := by
        rw [Array.getD_eq_getD_getElem?, Array.getElem?_setIfInBounds_self_of_lt hlt]
        rfl
      have g2 : o.getD i none = none := by rw [Array.getD_eq_getD_getElem?, hj]; rfl
      rw [g1, g2, if_neg h1] at *
      simp only [Option.map_some, Option.map_none, List.map_cons, List.mem_cons, true_or, if_true]
      exact ih.cons v
    · have g1 : (o.setIfInBounds j (some v)).getD i none = o.getD i none := by
        rw [Array.getD_eq_getD_getElem?, Array.getElem?_setIfInBounds_ne (Ne.symm e), ← Array.getD_eq_getD_getElem?]
      rw [g1]
      have hmem : (j ∈ i :: js) ↔ j ∈ js := by
        rw [List.mem_cons]
        exact ⟨fun h => h.resolve_left (fun z => e z.symm), .inr⟩
      cases c : o.getD i none with
      | none =>
        simp only [Option.map_none]
        by_cases hm : j ∈ js
        · rw [if_pos hm] at ih; rw [if_pos (hmem.mpr hm)]; exact ih
        · rw [if_neg hm] at ih; rw [if_neg (fun z => hm (hmem.mp z))]; exact ih
      | some w =>
        simp only [Option.map_some, List.map_cons]
        by_cases hm : j ∈ js
        · rw [if_pos hm] at ih
          rw [if_pos (hmem.mpr hm)]
          exact (ih.cons w).trans (List.Perm.swap _ _ _)
        · rw [if_neg hm] at ih
          rw [if_neg (fun z => hm (hmem.mp z))]
          exact ih.cons w
theorem lives_len (o : Own) : ∀ js : List Nat, (livesFrom o js).length + (js.filter fun j => (o.getD j none).isNone).length = js.length
  | [] => rfl
  | i :: js => by
    have ih := lives_len o js
    unfold livesFrom at ih ⊢
    rw [List.filterMap_cons, List.filter_cons]
    cases c : o.getD i none with
    | none =>
      simp only [Option.map_none, Option.isNone_none, if_true, List.length_cons]
      omega
    | some w =>
      simp only [Option.map_some, Option.isNone_some, Bool.false_eq_true, if_false, List.length_cons]
      omega
/-- one step of the laying -/
def layStep (M : Nat) (acc : Option (Own × Nat)) (h : Int) : Option (Own × Nat) := do
  let (owner, k) ← acc
  let j ← layClean.free M owner (turns M) (bits h % (M + 1)) (bits h)
  pure (owner.setIfInBounds j (some k), k + 1)
structure LOk (M : Nat) (o : Own) (n : Nat) : Prop where
  size : o.size = M + 1
  perm : ((livesFrom o (List.range (M + 1))).map (·.2)).Perm (List.range n)
theorem lay_all (k : Nat) : ∀ (hs : List Int) (o : Own) (n : Nat), LOk (2 ^ k - 1) o n → n + hs.length ≤ 2 ^ k - 1 → (∀ h ∈ hs, 0 ≤ h ∧ h < 65536) →
    ∃ o', hs.foldl (layStep (2 ^ k - 1)) (some (o, n)) = some (o', n + hs.length) ∧ LOk (2 ^ k - 1) o' (n + hs.length)
  | [], o, n, L, _, _ => ⟨o, rfl, L⟩
  | h :: hs, o, n, L, hl, hb => by
    have p1 : 0 < 2 ^ k := Nat.pow_pos (by decide)
    have hM : 2 ^ k - 1 + 1 = 2 ^ k := by omega
    rw [List.length_cons] at hl
    -- a free slot
    have hfree : ∃ e, e < 2 ^ k ∧ isFree o e = true := by
      have a := lives_len o (List.range (2 ^ k - 1 + 1))
      have b := L.perm.length_eq
      rw [List.length_map, List.length_range] at b
      rw [List.length_range] at a
      have c : 0 < ((List.range (2 ^ k - 1 + 1)).filter fun j => (o.getD j none).isNone).length := by omega
      obtain ⟨e, he⟩ := List.exists_mem_of_length_pos c
      obtain ⟨h1, h2⟩ := List.mem_filter.mp he
      have h1 := List.mem_range.mp h1
      refine ⟨e, by omega, ?_⟩
      unfold isFree
      have hlt : e < o.size := by rw [L.size]; exact h1
      rw [Array.getD_eq_getD_getElem?, Array.getElem?_eq_getElem hlt] at h2 ⊢
      exact h2
    obtain ⟨e, he, hf⟩ := hfree
    obtain ⟨h0, h1⟩ := hb h (List.mem_cons_self ..)
    have hbi := (bits_small h0 h1).2
    have hi : bits h % (2 ^ k - 1 + 1) < 2 ^ k := by rw [hM]; exact Nat.mod_lt _ p1
    obtain ⟨m, hm, hlp⟩ := lp_reach k (bits h % (2 ^ k - 1 + 1)) (bits h) e hi he (by omega)
    obtain ⟨j, hj, hjf⟩ := free_some hf m (turns (2 ^ k - 1)) _ _ hlp (by omega) (fun _ _ => leap_le) (by unfold turns; omega)
    obtain ⟨hjl, hjn⟩ := isFree_lt hjf
    have st : layStep (2 ^ k - 1) (some (o, n)) h = some (o.setIfInBounds j (some n), n + 1) := by
      unfold layStep
      simp only [Option.bind_eq_bind, Option.bind_some, hj]
      rfl
    have L' : LOk (2 ^ k - 1) (o.setIfInBounds j (some n)) (n + 1) := by
      refine ⟨by rw [Array.size_setIfInBounds]; exact L.size, ?_⟩
      have p := lives_set hjn (v := n) (List.range (2 ^ k - 1 + 1)) List.nodup_range
      rw [if_pos (List.mem_range.mpr (by rw [L.size] at hjl; exact hjl))] at p
      refine p.trans ?_
      rw [show List.range (n + 1) = List.range n ++ [n] from List.range_succ]
      exact ((L.perm.cons n).trans (List.perm_append_singleton n (List.range n)).symm)
    obtain ⟨o', h3, h4⟩ := lay_all k hs _ _ L' (by omega) (fun x hx => hb x (List.mem_cons_of_mem _ hx))
    refine ⟨o', ?_, ?_⟩
    · rw [List.foldl_cons, st, h3, List.length_cons]
      congr 2
      omega
    · rw [List.length_cons]
      have : n + (hs.length + 1) = n + 1 + hs.length := by omega
      rw [this]
      exact h4
theorem lives_empty (M : Nat) : ∀ js : List Nat, livesFrom (Array.replicate (M + 1) none) js = []
  | [] => rfl
  | j :: js => by
    have ih := lives_empty M js
    unfold livesFrom at ih ⊢
    rw [List.filterMap_cons]
    have : (Array.replicate (M + 1) (none : Option Nat)).getD j none = none := by
      rw [Array.getD_eq_getD_getElem?]
      cases e : (Array.replicate (M + 1) (none : Option Nat))[j]? with
      | none => rfl
      | some v =>
        have := Array.getElem?_eq_some_iff.mp e
        obtain ⟨h, h2⟩ := this
        simp at h2
        simp [← h2]
    rw [this]
    exact ih
theorem laid_some (k finger moves : Nat) (led : Bool) (hs : Array Int) (hn : hs.size ≤ 2 ^ k - 1) (hb : ∀ h ∈ hs.toList, 0 ≤ h ∧ h < 65536) :
    ∃ t order, laid (2 ^ k - 1) finger moves led true hs = some (t, order) ∧ order.toList.Perm (List.range hs.size) ∧ t.place.size = hs.size ∧ t.dummies = #[] ∧ t.mask = 2 ^ k - 1 ∧ Rise t.place ∧ (∀ a ∈ t.place.toList, a ≤ t.mask) ∧ t.plain = true ∧ t.led = led := by
  have p1 : 0 < 2 ^ k := Nat.pow_pos (by decide)
  have L0 : LOk (2 ^ k - 1) (Array.replicate (2 ^ k - 1 + 1) none) 0 := ⟨by simp, by rw [lives_empty]; exact List.Perm.nil⟩
  obtain ⟨o, h1, h2⟩ := lay_all k hs.toList _ 0 L0 (by rw [Array.length_toList]; omega) hb
  rw [Nat.zero_add, Array.length_toList] at h1 h2
  have hc : layClean (2 ^ k - 1) hs = some o := by
    unfold layClean
    rw [← Array.foldl_toList]
    have : hs.toList.foldl (fun acc h => do
        let (owner, k') ← acc
        let j ← layClean.free (2 ^ k - 1) owner (turns (2 ^ k - 1)) (bits h % (2 ^ k - 1 + 1)) (bits h)
        pure (owner.setIfInBounds j (some k'), k' + 1)) (some (Array.replicate (2 ^ k - 1 + 1) none, 0)) = some (o, hs.size) := h1
    rw [this]
    rfl
  refine ⟨{ mask := 2 ^ k - 1, place := ((livesFrom o (List.range (2 ^ k - 1 + 1))).map (·.1)).toArray, dummies := #[], finger, led, moves, plain := true }, ((livesFrom o (List.range (2 ^ k - 1 + 1))).map (·.2)).toArray, ?_, ?_, ?_⟩
  · unfold laid
    rw [hc]
    rfl
  · exact h2.perm
  · have hlen := h2.perm.length_eq
    rw [List.length_map, List.length_range] at hlen
    have sub : ∀ js : List Nat, ((livesFrom o js).map (·.1)).Sublist js := by
      intro js
      induction js with
      | nil => exact List.Sublist.slnil
      | cons j js ih =>
        unfold livesFrom at ih ⊢
        rw [List.filterMap_cons]
        cases o.getD j none with
        | none => exact ih.cons j
        | some v => exact ih.cons_cons j
    refine ⟨?_, rfl, rfl, Rise.list ?_, fun a ha => ?_, rfl, rfl⟩
    · show ((livesFrom o (List.range (2 ^ k - 1 + 1))).map (·.1)).toArray.size = _
      rw [List.size_toArray, List.length_map]
      exact hlen
    · exact List.Pairwise.sublist (sub _) List.pairwise_lt_range
    · have := List.mem_range.mp ((sub _).subset ha)
      show a ≤ 2 ^ k - 1
      omega
end ST

set_option linter.all false
namespace ST
open PySem SetTable
/-- the table fits n elements, room or not -/
structure TOk0 (t : SetTable) (n : Nat) (led : Bool) : Prop where
  size : t.place.size = n
  nodum : t.dummies = #[]
  pow : ∃ k, 3 ≤ k ∧ k ≤ 23 ∧ t.mask = 2 ^ k - 1
  rise : Rise t.place
  le : ∀ a ∈ t.place.toList, a ≤ t.mask
  fit : n ≤ t.mask
  plain : t.plain = true
  led : t.led = led
theorem TOk0.ok {t : SetTable} {n : Nat} {led : Bool} (h : TOk0 t n led) (r : n * 5 < t.mask * 3) : TOk t n := ⟨h.size, h.nodum, h.pow, h.rise, h.le, r, h.plain⟩
theorem TOk0.fill {t : SetTable} {n : Nat} {led : Bool} (h : TOk0 t n led) : t.fill = n := by
  unfold SetTable.fill
  rw [h.nodum, h.size]
  rfl
theorem TOk0.fits {t : SetTable} {n : Nat} {led : Bool} (h : TOk0 t n led) : t.fits n = true := by
  unfold SetTable.fits
  rw [h.fill, h.size]
  simp [h.fit]
/-- an element: a small int under its own hash -/
def Small (e : Int × Value) : Prop := ∃ tok, e.2 = .int e.1 tok ∧ 0 ≤ e.1 ∧ e.1 < 65536
structure SOk (es : Array (Int × Value)) (t : SetTable) (led : Bool) : Prop where
  tab : TOk0 t es.size led
  room : es.size * 5 < t.mask * 3
  small : ∀ e ∈ es.toList, Small e
theorem SOk.ok {es : Array (Int × Value)} {t : SetTable} {led : Bool} (h : SOk es t led) : TOk t es.size := h.tab.ok h.room
theorem fresh_ok (led : Bool) : SOk #[] (.fresh 0 0 led) led :=
  ⟨⟨rfl, rfl, ⟨3, by decide, by decide, rfl⟩, fun i j a b _ h => by simp [SetTable.fresh] at h, fun a h => by simp [SetTable.fresh] at h, by simp, rfl, rfl⟩, by simp [SetTable.fresh], fun e h => by simp at h⟩
theorem put_ok {t : SetTable} {n j : Nat} {led : Bool} (T : TOk0 t n led) (hr : n * 5 < t.mask * 3) (hj : j ≤ t.mask) (hn : j ∉ t.place.toList) : (t.put j).2 = below t.place j ∧ TOk0 (t.put j).1 (n + 1) led ∧ (t.put j).1.mask = t.mask := by
  have e : t.put j = ({ t with place := insertAt t.place (below t.place j) j, dummies := t.dummies }, below t.place j) := by
    unfold SetTable.put
    rw [T.nodum, has_nil]
    rfl
  rw [e]
  refine ⟨rfl, ⟨by show (insertAt _ _ _).size = _; rw [insertAt_size, T.size], T.nodum, T.pow, rise_insert T.rise hn, fun a ha => ?_, ?_, T.plain, T.led⟩, rfl⟩
  · rcases (mem_insertAt _ _ _ _).mp ha with rfl | ha
    · exact hj
    · exact T.le a ha
  · show n + 1 ≤ t.mask
    obtain ⟨k, k3, _, hk⟩ := T.pow
    have : 2 ^ 3 ≤ 2 ^ k := Nat.pow_le_pow_right (by decide) k3
    omega
theorem layNew_ok {es : Array (Int × Value)} {t : SetTable} {led : Bool} {h : Int} {x : Value} (S : SOk es t led) (h0 : 0 ≤ h) (h1 : h < 65536) :
    ∃ p t', layNew t es h x = (insertAt es p (h, x), t', false, false) ∧ TOk0 t' (es.size + 1) led ∧ t'.mask = t.mask := by
  obtain ⟨j, e, hj, hn⟩ := freeSlot_some S.ok h0 h1
  obtain ⟨e1, T', e2⟩ := put_ok S.tab S.room hj hn
  have hf := T'.fits
  refine ⟨(t.put j).2, (t.put j).1, ?_, T', e2⟩
  unfold layNew
  rw [e]
  show (insertAt es (t.put j).2 (h, x), (t.put j).1.orStandIn (insertAt es (t.put j).2 (h, x)).size, false, !(t.put j).1.fits (insertAt es (t.put j).2 (h, x)).size) = _
  rw [insertAt_size, hf]
  unfold SetTable.orStandIn
  rw [hf]
  rfl
theorem sizeAbove_go : ∀ (fuel k n : Nat), n < 2 ^ (k + fuel) → ∃ m, k ≤ m ∧ sizeAbove.go n fuel (2 ^ k) = 2 ^ m ∧ n < 2 ^ m ∧ (m = k ∨ 2 ^ (m - 1) ≤ n)
  | 0, k, n, h => ⟨k, Nat.le_refl _, rfl, h, .inl rfl⟩
  | fuel + 1, k, n, h => by
    by_cases c : 2 ^ k ≤ n
    · obtain ⟨m, h1, h2, h3, h4⟩ := sizeAbove_go fuel (k + 1) n (by rw [show k + 1 + fuel = k + (fuel + 1) by omega]; exact h)
      refine ⟨m, by omega, ?_, h3, .inr ?_⟩
      · show (if 2 ^ k ≤ n then sizeAbove.go n fuel (2 ^ k * 2) else 2 ^ k) = _
        rw [if_pos c, ← Nat.pow_succ]
        exact h2
      · rcases h4 with rfl | h4
        · simpa using c
        · exact h4
    · refine ⟨k, Nat.le_refl _, ?_, by omega, .inl rfl⟩
      show (if 2 ^ k ≤ n then sizeAbove.go n fuel (2 ^ k * 2) else 2 ^ k) = _
      rw [if_neg c]
theorem sizeAbove_pow {n : Nat} (h : n < 2 ^ 20) : ∃ k, 3 ≤ k ∧ k ≤ 21 ∧ sizeAbove n = 2 ^ k ∧ n < 2 ^ k := by
  obtain ⟨m, h1, h2, h3, h4⟩ := sizeAbove_go 64 3 n (Nat.lt_of_lt_of_le h (Nat.pow_le_pow_right (by decide) (by decide)))
  refine ⟨m, h1, ?_, h2, h3⟩
  rcases h4 with rfl | h4
  · decide
  · have : 2 ^ (m - 1) < 2 ^ 20 := Nat.lt_of_le_of_lt h4 h
    have := (Nat.pow_lt_pow_iff_right (by decide : 1 < 2)).mp this
    omega
theorem filterMap_range {α : Type} (es : Array α) : (List.range es.size).filterMap (es[·]?) = es.toList := by
  apply List.ext_getElem?
  intro i
  have key : ∀ (l : List α) (f : Nat → Option α) (n : Nat), (∀ k, k < n → ∃ v, f k = some v) → ((List.range n).filterMap f)[i]? = if i < n then f i else none := by
    intro _ f n
    induction n with
    | zero => intro _; simp
    | succ n ih =>
      intro hf
      obtain ⟨v, hv⟩ := hf n (by omega)
      have ih := ih (fun k hk => hf k (by omega))
      have hlen : ∀ m, m ≤ n → ((List.range m).filterMap f).length = m := by
        intro m
        induction m with
        | zero => intro _; rfl
        | succ m ih2 =>
          intro hm
          obtain ⟨u, hu⟩ := hf m (by omega)
          rw [List.range_succ, List.filterMap_append, List.length_append, ih2 (by omega)]
          simp [hu]
      rw [List.range_succ, List.filterMap_append, List.getElem?_append, hlen n (Nat.le_refl _)]
      by_cases c : i < n
      · rw [if_pos c, ih, if_pos c, if_pos (by omega)]
      · rw [if_neg c]
        by_cases c2 : i = n
        · subst c2; simp [hv]
        · rw [if_neg (by omega)]
          have : i - n ≠ 0 := by omega
          simp [hv, this]
  rw [key es.toList _ es.size (fun k hk => ⟨_, Array.getElem?_eq_getElem hk⟩), Array.getElem?_toList]
  by_cases c : i < es.size
  · rw [if_pos c]
  · rw [if_neg c]
    exact (Array.getElem?_eq_none (by omega)).symm
theorem reorder_perm {α : Type} {order : Array Nat} {es : Array α} (h : order.toList.Perm (List.range es.size)) : (order.filterMap (es[·]?)).toList.Perm es.toList := by
  rw [Array.toList_filterMap]
  have := h.filterMap (es[·]?)
  rw [filterMap_range] at this
  exact this
theorem relaid_ok {es : Array (Int × Value)} {t : SetTable} {led : Bool} (T : TOk0 t es.size led) (sm : ∀ e ∈ es.toList, Small e) (hn : 1 ≤ es.size) (hn2 : es.size ≤ 65536) :
    ∃ t' order, t.relaid (es.map (·.1)) (grown es.size) = some (t', order) ∧ order.toList.Perm (List.range es.size) ∧ TOk0 t' es.size led ∧ es.size * 5 < t'.mask * 3 ∧ sizeAbove (grown es.size) ≤ 2 ^ 21 := by
  have hg : 2 * es.size ≤ grown es.size ∧ grown es.size < 2 ^ 20 := by
    unfold grown
    split <;> omega
  obtain ⟨k, k3, k21, e, hk⟩ := sizeAbove_pow hg.2
  have hk2 : 2 ^ k ≤ 2 ^ 21 := Nat.pow_le_pow_right (by decide) k21
  unfold SetTable.relaid
  rw [e, T.plain, T.led]
  obtain ⟨t', order, h1, h2, h3, h4, h5, h6, h7, h8, h9⟩ := laid_some k t.finger (t.movedTo (2 ^ k - 1)) led (es.map (·.1)) (by rw [Array.size_map]; omega) (fun h hh => by
    rw [Array.toList_map] at hh
    obtain ⟨x, hx, rfl⟩ := List.mem_map.mp hh
    obtain ⟨_, _, a, b⟩ := sm x hx
    exact ⟨a, b⟩)
  rw [Array.size_map] at h2 h3
  refine ⟨t', order, h1, h2, ⟨h3, h4, ⟨k, k3, by omega, h5⟩, h6, h7, by rw [h5]; omega, h8, h9⟩, by rw [h5]; omega, hk2⟩
theorem relayAll_ok {es : Array (Int × Value)} {t : SetTable} {led : Bool} (T : TOk0 t es.size led) (sm : ∀ e ∈ es.toList, Small e) (hn : 1 ≤ es.size) (hn2 : es.size ≤ 65536) :
    ∃ es' t', relayAll t es (grown es.size) = (es', t', false) ∧ es'.toList.Perm es.toList ∧ SOk es' t' led := by
  obtain ⟨t', order, h1, h2, h3, h4, _⟩ := relaid_ok T sm hn hn2
  have hp := reorder_perm (es := es) h2
  have hsz : (order.filterMap (es[·]?)).size = es.size := by
    have := hp.length_eq
    rw [Array.length_toList, Array.length_toList] at this
    exact this
  refine ⟨order.filterMap (es[·]?), t', ?_, hp, ⟨by rw [hsz]; exact h3, by rw [hsz]; exact h4, fun e he => sm e (hp.mem_iff.mp he)⟩⟩
  unfold relayAll
  rw [h1]
  have hc : coversAll order es.size = true := by
    unfold coversAll
    exact List.isPerm_iff.mpr h2
  have hf : t'.fits (order.filterMap (es[·]?)).size = true := by rw [hsz]; exact h3.fits
  show (if (coversAll order es.size && t'.fits (order.filterMap (es[·]?)).size) = true then _ else _) = _
  rw [hc, hf]
  rfl
end ST

set_option linter.all false
set_option maxRecDepth 100000
set_option Elab.async false
namespace ST
open PySem PySem.Spec PyProof.Rows
theorem hash_small {v : Int} (h0 : 0 ≤ v) (h1 : v < 65536) : hashInt v = v := by
  have e : rawHash v = v := by
    unfold rawHash
    have e2 : ((v.natAbs : Nat) : Int) = v := by omega
    have e1 : ((v.natAbs : Nat) : Int) % ((2 ^ 61 - 1 : Nat) : Int) = v := by rw [e2]; exact Int.emod_eq_of_lt h0 (by omega)
    have h3 : ¬ v < 0 := by omega
    dsimp only
    simp only [e1, if_neg h3]
    rw [if_neg (by simp; omega)]
  unfold hashInt
  rw [e, if_neg (by simp; omega)]
theorem SOk.elems {es : Array (Int × Value)} {t : SetTable} {led : Bool} (S : SOk es t led) (prog : Program) (w : World) : ElemsOf (PySem.intKind prog w) es.toList := fun e he => by
  obtain ⟨tok, h1, h2, h3⟩ := S.small e he
  refine ⟨⟨e.1, by rw [h1]; exact intKind_is _ _ _ _, ?_⟩, by rw [h1]; rfl⟩
  exact (hash_small h2 h3).symm
/-- at a stands a set of small ints whose members are those of ns; at most m elements (one may stand twice) -/
def SetAt (h : Heap) (a : Addr) (ns : List Int) (m : Nat) (led : Bool) : Prop :=
  ∃ o es ep t, h.get? a = some o ∧ o.ExactSet ∧ o.data = .set es ep t ∧ SOk es t led ∧ (∀ v, v ∈ es.toList.map (·.1) ↔ v ∈ ns) ∧ es.size ≤ m
theorem small_line {n : Nat} (h : n ≤ 65537) : n ≤ sizeLine := by rw [sizeLine_eq]; omega
section
variable {prog : Program} {w : World} {A : Around} {E : Value → Shared → Prop} {s : Shared}
theorem upd_set {h : Heap} {a : Addr} {o : Obj} {es : Array (Int × Value)} {ep : Nat} {t : SetTable} (ho : h.get? a = some o) (hd : o.data = .set es ep t) (es' : Array (Int × Value)) (t' : SetTable) :
    (h.update a (Obj.putSet es' t')).get? a = some { o with data := .set es' (ep + 1) t' } := by
  have := Heap.get?_update_self (Obj.putSet es' t') ho (by rw [putSet_of es' t' hd]; rfl)
  rw [putSet_of es' t' hd] at this
  exact this
theorem smalls_insert {es : Array (Int × Value)} {p : Nat} {v : Int} {tok : Tok} (sm : ∀ e ∈ es.toList, Small e) (h0 : 0 ≤ v) (h1 : v < 65536) : ∀ e ∈ (SetTable.insertAt es p (v, Value.int v tok)).toList, Small e := fun e he => by
  rcases (mem_insertAt _ _ _ _).mp he with rfl | he
  · exact ⟨tok, rfl, h0, h1⟩
  · exact sm e he
theorem fst_insert {es : Array (Int × Value)} {p : Nat} {v : Int} {x : Value} {ns : List Int} (hm : ∀ u, u ∈ es.toList.map (·.1) ↔ u ∈ ns) (u : Int) : u ∈ (SetTable.insertAt es p (v, x)).toList.map (·.1) ↔ u ∈ ns ++ [v] := by
  rw [List.mem_append, List.mem_singleton, ← hm u]
  constructor
  · intro h
    obtain ⟨e, he, rfl⟩ := List.mem_map.mp h
    rcases (mem_insertAt _ _ _ _).mp he with rfl | he
    · exact .inr rfl
    · exact .inl (List.mem_map.mpr ⟨e, he, rfl⟩)
  · rintro (h | rfl)
    · obtain ⟨e, he, rfl⟩ := List.mem_map.mp h
      exact List.mem_map.mpr ⟨e, (mem_insertAt _ _ _ _).mpr (.inr he), rfl⟩
    · exact List.mem_map.mpr ⟨_, (mem_insertAt _ _ _ _).mpr (.inl rfl), rfl⟩
theorem fst_perm {es es' : Array (Int × Value)} {ns : List Int} (p : es'.toList.Perm es.toList) (hm : ∀ u, u ∈ es.toList.map (·.1) ↔ u ∈ ns) (u : Int) : u ∈ es'.toList.map (·.1) ↔ u ∈ ns := by
  rw [← hm u]
  exact (p.map _).mem_iff
theorem unseen (v : Int) (tok : Tok) (l : List Value) (h : ∀ y ∈ l, ∃ i u, y = Value.int i u) : searchCouldBeSeen (.int v tok) l = pure false := by
  have key : ∀ (l : List Value), (∀ y ∈ l, ∃ i u, y = Value.int i u) → ∀ (f : Value → Option Bool × Unit → Sem (ForInStep (Option Bool × Unit))), (∀ i u r, f (.int i u) r = pure (.yield (none, ()))) →
      forIn l ((none, ()) : Option Bool × Unit) f = (pure (none, ()) : Sem (Option Bool × Unit)) := by
    intro l
    induction l with
    | nil => intro _ f _; rfl
    | cons y l ih =>
      intro hl f hf
      obtain ⟨i, u, rfl⟩ := hl y (List.mem_cons_self ..)
      rw [List.forIn_cons, hf]
      show forIn l _ f = _
      exact ih (fun z hz => hl z (List.mem_cons_of_mem _ hz)) f hf
  unfold searchCouldBeSeen
  simp [carriedByValue]
  rw [key l h _ (fun i u r => by simp)]
  rfl
theorem probe_met {t : SetTable} {n : Nat} (T : TOk t n) {f : Nat → Int} {v : Int} (h0 : 0 ≤ v) (h1 : v < 65536) {r : Option SetTable.Met} (e : t.probe f v (Option.getD none (t.probeStart v)) = r) : Ended t f v r := by
  rw [← e]
  exact probe_ends T f h0 h1
/-- one more int -/
theorem add_ok {a : Addr} {ns : List Int} {m : Nat} {led : Bool} {v : Int} {tok : Tok} {Q : Bool → Shared → Prop} (S : SetAt s.heap a ns m led) (h0 : 0 ≤ v) (h1 : v < 65536) (hm : m < 65536)
    (h : ∀ b h', Heap.SameBut a s.heap h' → SetAt h' a (ns ++ [v]) (m + 1) led → Q b { s with heap := h' }) : wpAny (model prog w) A (setAddHashed a (.int v tok) v) Q E s := by
  obtain ⟨o, es, ep, t, ho, hex, hd, K, hmem, hz⟩ := S
  have hf := K.tab.fits
  have keep : v ∈ es.toList.map (·.1) → SetAt s.heap a (ns ++ [v]) (m + 1) led := fun hin => ⟨o, es, ep, t, ho, hex, hd, K, fun u => by
    rw [hmem u, List.mem_append, List.mem_singleton]
    exact ⟨.inl, fun z => z.elim id fun e => by rw [e]; exact (hmem v).mp hin⟩, by omega⟩
  have same : s = { s with heap := s.heap } := by cases s; rfl
  unfold setAddHashed setAddHashedIn
  refine wpAny_holding (wpAny_bind (wpAny_setState_of ho hd hf ?_))
  dsimp only
  by_cases hb : byScan (.int v tok) es = true
  · rw [hb]
    simp only [↓reduceIte]
    unfold setAddByScan
    refine wpAny_bind ?_
    refine wpAny_bind (wpAny_rule ?_)
    have hv : (PySem.intKind prog w).hash v = v := hash_small h0 h1
    have sc := wpAny_setScan_of (prog := prog) (w := w) (A := A) (E := E) (knd := PySem.intKind prog w) (k := v) (x := .int v tok) (adding := true) (intKind_is _ _ _ _) ho hd hf (K.elems prog w)
      (Q := fun r s' => s' = s ∧ r = (match es.toList.findIdx? (fun e => (PySem.intKind prog w).is v e.2) with | some j => .found (0 + j) | none => .absent)) ⟨rfl, rfl⟩
    rw [hv] at sc
    refine wpAny_bind (wpAny_mono sc (fun r s' hr => ?_) fun _ _ z => z)
    obtain ⟨rfl, rfl⟩ := hr
    cases hr : List.findIdx? (fun e => (PySem.intKind prog w).is v e.2) es.toList with
    | some j =>
      dsimp only
      obtain ⟨hj, hpj, _⟩ := List.findIdx?_eq_some_iff_getElem.mp hr
      refine wpAny_pure (wpAny_pure ?_)
      rw [same]
      refine h false s'.heap (Heap.SameBut.refl a _) (keep ?_)
      refine List.mem_map.mpr ⟨es.toList[j], List.getElem_mem hj, ?_⟩
      obtain ⟨tk, e1, _, _⟩ := K.small _ (List.getElem_mem hj)
      rw [e1] at hpj
      have : (es.toList[j].1 == v) = true := hpj
      exact beq_iff_eq.mp this
    | none =>
      dsimp only
      obtain ⟨p, t', hl, T', hmask⟩ := layNew_ok (x := .int v tok) K h0 h1
      rw [hl]
      dsimp only
      refine wpAny_bind (wpAny_pure ?_)
      rw [T'.plain]
      simp only [↓reduceIte]
      refine wpAny_bind ?_
      rw [hashByValue_scannable 8 (show (Value.int v tok).scannable = true from rfl)]
      refine wpAny_pure ?_
      simp only [show plainKind (Value.int v tok) = true from rfl, ↓reduceIte]
      have hsz : (SetTable.insertAt es p (v, Value.int v tok)).size = es.size + 1 := insertAt_size _ _ _
      refine wpAny_bind (wpAny_storeSet_of ho hd ?_ (small_line (by rw [hsz]; omega)))
      have ho1 := upd_set ho hd (SetTable.insertAt es p (v, Value.int v tok)) t'
      have hsb1 := Heap.SameBut.update s'.heap a (Obj.putSet (SetTable.insertAt es p (v, Value.int v tok)) t')
      have sm1 := smalls_insert (p := p) (tok := tok) K.small h0 h1
      by_cases hfull : t'.tooFull = true
      · rw [if_pos (by simp [hfull])]
        obtain ⟨es2, t2, e2, p2, K2⟩ := relayAll_ok (by rw [hsz]; exact T') sm1 (by rw [hsz]; omega) (by rw [hsz]; omega)
        rw [e2]
        dsimp only
        refine wpAny_bind (wpAny_pure ?_)
        have hz2 : es2.size = es.size + 1 := by
          have := p2.length_eq
          rw [Array.length_toList, Array.length_toList, hsz] at this
          exact this
        refine wpAny_bind (wpAny_storeSet_of ho1 rfl ?_ (small_line (by omega)))
        refine wpAny_pure (wpAny_pure (h true _ (hsb1.trans (Heap.SameBut.update _ a _)) ⟨_, es2, _, t2, upd_set ho1 rfl es2 t2, hex, rfl, K2, fst_perm p2 (fst_insert hmem), by omega⟩))
      · rw [if_neg (by simp [hfull])]
        refine wpAny_pure (wpAny_pure (h true _ hsb1 ⟨_, _, _, t', ho1, hex, rfl, ⟨by rw [hsz]; exact T', ?_, sm1⟩, fst_insert hmem, by omega⟩))
        unfold SetTable.tooFull at hfull
        rw [T'.fill] at hfull
        rw [hsz]
        simp only [ge_iff_le, decide_eq_true_eq, Nat.not_le] at hfull
        exact hfull
  · have hb' : byScan (.int v tok) es = false := by simpa using hb
    rw [hb']
    simp only [Bool.false_eq_true, ↓reduceIte]
    -- the search by probes
    have hodd : t.gaveWay = false := by
      obtain ⟨k, k3, _, hk⟩ := K.tab.pow
      unfold SetTable.gaveWay
      rw [hk]
      obtain ⟨j, rfl⟩ : ∃ j, k = j + 1 := ⟨k - 1, by omega⟩
      have : 0 < 2 ^ j := Nat.pow_pos (by decide)
      rw [Nat.pow_succ]
      apply beq_eq_false_iff_ne.mpr
      omega
    unfold setSearch setSearchFrom
    refine wpAny_bind (wpAny_bind (wpAny_setState_of ho hd hf ?_))
    dsimp only
    rw [hodd]
    simp only [Bool.false_eq_true, ↓reduceIte]
    split
    · rename_i met hmet
      have E2 := probe_met K.ok h0 h1 hmet
      cases met with
      | empty j d =>
        obtain ⟨rfl, hj, hjn⟩ := E2
        dsimp only
        refine wpAny_pure ?_
        dsimp only
        refine wpAny_bind (wpAny_setState_of ho hd hf ?_)
        obtain ⟨_, T', hmask⟩ := put_ok K.tab K.room hj hjn
        dsimp only
        generalize hp : (t.put j).2 = p
        generalize ht : (t.put j).1 = t' at T' hmask ⊢
        rw [T'.plain]
        simp only [↓reduceIte]
        refine wpAny_bind ?_
        rw [hashByValue_scannable 8 (show (Value.int v tok).scannable = true from rfl)]
        refine wpAny_pure ?_
        simp only [show plainKind (Value.int v tok) = true from rfl, ↓reduceIte]
        have hsz : (SetTable.insertAt es p (v, Value.int v tok)).size = es.size + 1 := insertAt_size _ _ _
        refine wpAny_bind (wpAny_storeSet_of ho hd ?_ (small_line (by rw [hsz]; omega)))
        have ho1 := upd_set ho hd (SetTable.insertAt es p (v, Value.int v tok)) t'
        have hsb1 := Heap.SameBut.update s.heap a (Obj.putSet (SetTable.insertAt es p (v, Value.int v tok)) t')
        have sm1 := smalls_insert (p := p) (tok := tok) K.small h0 h1
        by_cases hfull : t'.tooFull = true
        · rw [if_pos (by simp [hfull])]
          obtain ⟨t2, order, e2, p2, T2, r2, z2⟩ := relaid_ok (es := SetTable.insertAt es p (v, Value.int v tok)) (by rw [hsz]; exact T') sm1 (by rw [hsz]; omega) (by rw [hsz]; omega)
          refine wpAny_bind ?_
          unfold setRelay
          have hf1 : t'.fits (SetTable.insertAt es p (v, Value.int v tok)).size = true := by rw [hsz]; exact T'.fits
          refine wpAny_bind (wpAny_setState_of ho1 rfl hf1 ?_)
          dsimp only
          rw [if_neg (by rw [hsz] at z2; rw [sizeLine_eq]; omega)]
          rw [show es.size + 1 = (SetTable.insertAt es p (v, Value.int v tok)).size from hsz.symm, e2]
          have hq := reorder_perm (es := SetTable.insertAt es p (v, Value.int v tok)) p2
          have hz2 : (order.filterMap ((SetTable.insertAt es p (v, Value.int v tok))[·]?)).size = (SetTable.insertAt es p (v, Value.int v tok)).size := by
            have := hq.length_eq
            rw [Array.length_toList, Array.length_toList] at this
            exact this
          refine wpAny_bind ?_
          show wpAny _ _ (if ((order.filterMap ((SetTable.insertAt es p (v, Value.int v tok))[·]?)).size != (SetTable.insertAt es p (v, Value.int v tok)).size) = true then _ else _) _ _ _
          rw [if_neg (by rw [hz2]; simp)]
          refine wpAny_pure ?_
          refine wpAny_storeSet_of ho1 rfl ?_ (small_line (by rw [hz2, hsz]; omega))
          refine wpAny_pure (h true _ (hsb1.trans (Heap.SameBut.update _ a _)) ⟨_, _, _, t2, upd_set ho1 rfl _ t2, hex, rfl, ⟨by rw [hz2]; exact T2, by rw [hz2]; exact r2, fun e he => sm1 e (hq.mem_iff.mp he)⟩, fst_perm hq (fst_insert hmem), by show (order.filterMap ((SetTable.insertAt es p (v, Value.int v tok))[·]?)).size ≤ m + 1; rw [hz2, hsz]; omega⟩)
        · rw [if_neg (by simp [hfull])]
          refine wpAny_pure (h true _ hsb1 ⟨_, _, _, t', ho1, hex, rfl, ⟨by rw [hsz]; exact T', ?_, sm1⟩, fst_insert hmem, by omega⟩)
          unfold SetTable.tooFull at hfull
          rw [T'.fill] at hfull
          rw [hsz]
          simp only [ge_iff_le, decide_eq_true_eq, Nat.not_le] at hfull
          exact hfull
      | candidate j i nx =>
        obtain ⟨hc, hi⟩ := E2
        rw [K.tab.size] at hi
        obtain ⟨e, he⟩ : ∃ e, es[i]? = some e := ⟨_, Array.getElem?_eq_getElem hi⟩
        have hc' : (es[i]?.map (·.1)).getD 0 = v := hc
        rw [he] at hc'
        have hc' : e.1 = v := hc'
        have hin : e ∈ es.toList := List.mem_of_getElem? (by rw [Array.getElem?_toList]; exact he)
        obtain ⟨tk, e1, _, _⟩ := K.small e hin
        obtain ⟨eh, ev⟩ := e
        have hc' : eh = v := hc'
        have e1 : ev = Value.int eh tk := e1
        subst hc' e1
        have fin : wpAny (model prog w) A (do
            let equal ← holding [Value.int eh tk] (eqBool (Value.int eh tk) (Value.int eh tok))
            let x ← setState a
            if (true && equal) = true then pure (SetFound.there none) else unsupported "x") (fun r s' => s' = s ∧ r = SetFound.there none) E s := by
          refine wpAny_bind (wpAny_holding (wpAny_eqBool_int ?_))
          refine wpAny_bind (wpAny_setState_of ho hd hf ?_)
          simp only [decide_true, beq_self_eq_true, Bool.and_self, ↓reduceIte]
          exact wpAny_pure ⟨rfl, rfl⟩
        have last : wpAny (model prog w) A (pure false) Q E s := wpAny_pure (by rw [same]; exact h false s.heap (Heap.SameBut.refl a _) (keep (List.mem_map.mpr ⟨_, hin, rfl⟩)))
        dsimp only
        have un : searchCouldBeSeen (Value.int eh tok) (List.map (fun x => x.snd) (Array.filter (fun x => x.fst == eh) es).toList) = pure false := unseen eh tok _ fun y hy => by
          obtain ⟨e', he', rfl⟩ := List.mem_map.mp hy
          rw [Array.toList_filter] at he'
          obtain ⟨t9, h9, _⟩ := K.small e' (List.mem_filter.mp he').1
          exact ⟨_, _, h9⟩
        rw [un, he]
        have go : ∀ {X : Bool → (Array (Int × Value) × Nat × SetTable) → Sem SetFound}, wpAny (model prog w) A (do
            let equal ← holding [Value.int eh tk] (eqBool (Value.int eh tk) (Value.int eh tok))
            let x ← setState a
            if (true && equal) = true then pure (SetFound.there none) else X equal x) (fun r s' => s' = s ∧ r = SetFound.there none) E s := fun {X} => by
          refine wpAny_bind (wpAny_holding (wpAny_eqBool_int ?_))
          refine wpAny_bind (wpAny_setState_of ho hd hf ?_)
          simp only [decide_true, beq_self_eq_true, Bool.and_self, ↓reduceIte]
          exact wpAny_pure ⟨rfl, rfl⟩
        split
        · refine wpAny_bind (wpAny_pure ?_)
          simp only [Bool.false_eq_true, ↓reduceIte]
          refine wpAny_mono go (fun r s' hr => ?_) fun _ _ z => z
          obtain ⟨rfl, rfl⟩ := hr
          exact last
        · refine wpAny_mono go (fun r s' hr => ?_) fun _ _ z => z
          obtain ⟨rfl, rfl⟩ := hr
          exact last
    · rename_i hmet
      exfalso
      rename_i hmet
      cases hq : t.probe _ v (Option.getD none (t.probeStart v)) with
      | none => exact probe_met K.ok h0 h1 hq
      | some r => exact hmet r hq
end
end ST

set_option linter.all false
set_option maxRecDepth 100000
set_option Elab.async false
namespace ST
open PySem PySem.Spec PyProof.Rows
theorem owner_si : Manifest.owners.lookup (String.ofList ['r', 'o', 't', 'a', 'r', 'e', 't', 'i', '_', 't', 'e', 's'].reverse) = some Manifest.sig_set_iterator := by kernel_rfl
theorem slot_si_next : Slot "set_iterator" "__next__" "set_iterator.__next__" :=
  .of (owner := "set_iterator") (n := "__next__") (by rw [typeLookup_type, builtinLookup_eq_fast]; kernel_rfl) (by decide +kernel) (by decide +kernel) (by decide +kernel)
    (by first | exact .inl (by decide +kernel) | exact .inr (by decide +kernel)) (by rw [isSubtype_type]; kernel_rfl)
theorem entry_si_next : entryFor table "set_iterator.__next__" = some Builtin.«set_iterator.__next__» := entryFor_of_tree (by kernel_rfl)
theorem args_si_next (a : Value) : argsOk "set_iterator.__next__" ⟨[a], []⟩ := by
  unfold argsOk; rw [signature?_of (id := "set_iterator.__next__") (n := ['_', '_', 't', 'x', 'e', 'n', '_', '_']) (o := ['r', 'o', 't', 'a', 'r', 'e', 't', 'i', '_', 't', 'e', 's']) (by kernel_rfl) owner_si]; kernel_rfl
theorem entry_set_iter : entryFor table "set.__iter__" = some Builtin.«frozenset.__iter__» :=
  entryFor_alias (id' := "frozenset.__iter__") (by kernel_rfl) rfl (by decide +kernel) (by kernel_rfl)
theorem slot_si_iter : Slot "set_iterator" "__iter__" "set_iterator.__iter__" :=
  .of (owner := "set_iterator") (n := "__iter__") (by rw [typeLookup_type, builtinLookup_eq_fast]; kernel_rfl) (by decide +kernel) (by decide +kernel) (by decide +kernel)
    (by first | exact .inl (by decide +kernel) | exact .inr (by decide +kernel)) (by rw [isSubtype_type]; kernel_rfl)
theorem entry_si_iter : entryFor table "set_iterator.__iter__" = some Builtin.«dict_keyiterator.__iter__» :=
  entryFor_alias (id' := "dict_keyiterator.__iter__") (by kernel_rfl) rfl (by decide +kernel) (by kernel_rfl)
theorem args_si_iter (a : Value) : argsOk "set_iterator.__iter__" ⟨[a], []⟩ := by
  unfold argsOk; rw [signature?_of (id := "set_iterator.__iter__") (n := ['_', '_', 'r', 'e', 't', 'i', '_', '_']) (o := ['r', 'o', 't', 'a', 'r', 'e', 't', 'i', '_', 't', 'e', 's']) (by kernel_rfl) owner_si]; kernel_rfl
theorem len_set : typeLookup (.type "set") "__len__" = pure (some (.builtin "set.__len__")) := by rw [typeLookup_type, builtinLookup_eq_fast]; kernel_rfl
theorem nolen_si : typeLookup (.type "set_iterator") "__len__" = pure none := by rw [typeLookup_type, builtinLookup_eq_fast]; kernel_rfl
theorem hint_si : typeLookup (.type "set_iterator") "__length_hint__" = pure (some (.builtin "set_iterator.__length_hint__")) := by rw [typeLookup_type, builtinLookup_eq_fast]; kernel_rfl
theorem erase_perm {α : Type} : ∀ (l : List α) (i : Nat) (h : i < l.length), (l[i] :: l.eraseIdx i).Perm l
  | a :: l, 0, _ => List.Perm.refl _
  | a :: l, i + 1, h => by
    show (l[i]'(by simpa using h) :: a :: l.eraseIdx i).Perm (a :: l)
    exact (List.Perm.swap _ _ _).trans ((erase_perm l i (by simpa using h)).cons a)
theorem go_perm {α : Type} (next : Nat → Nat) : ∀ (fuel k : Nat) (left : List α) (out : Array α), left.length = fuel → (pickOrder.go next fuel k left out).toList.Perm (out.toList ++ left)
  | 0, k, left, out, h => by
    have : left = [] := List.length_eq_zero_iff.mp h
    subst this
    show out.toList.Perm _
    rw [List.append_nil]
  | fuel + 1, k, left, out, h => by
    have hlt : next k % left.length < left.length := Nat.mod_lt _ (by omega)
    have e : left[next k % left.length]? = some left[next k % left.length] := List.getElem?_eq_getElem hlt
    show (match left[next k % left.length]? with
      | some x => pickOrder.go next fuel (k + 1) (left.eraseIdx (next k % left.length)) (out.push x)
      | none => out).toList.Perm _
    rw [e]
    dsimp only
    refine (go_perm next fuel (k + 1) _ _ (by rw [List.length_eraseIdx_of_lt hlt, h]; rfl)).trans ?_
    rw [Array.toList_push, List.append_assoc]
    refine List.Perm.append_left _ ?_
    exact erase_perm left _ hlt
theorem pick_perm {α : Type} (next : Nat → Nat) (xs : Array α) : (pickOrder next xs).toList.Perm xs.toList := by
  have := go_perm next xs.size 0 xs.toList #[] (by simp)
  exact this
/-- the elements in the order in which a walk meets them -/
def order (byText : Bool) (next : Nat → Nat) (es : Array (Int × Value)) : List (Int × Value) := if byText = true then (pickOrder next es).toList else es.toList
theorem order_perm (byText : Bool) (next : Nat → Nat) (es : Array (Int × Value)) : (order byText next es).Perm es.toList := by
  unfold order
  split
  · exact pick_perm _ _
  · exact List.Perm.refl _
theorem order_len (byText : Bool) (next : Nat → Nat) (es : Array (Int × Value)) : (order byText next es).length = es.size := by rw [(order_perm byText next es).length_eq, Array.length_toList]
/-- where the walk stands ahead of its i-th element -/
def slotAt (byText : Bool) (t : SetTable) (i : Nat) : Nat := if byText = true then 0 else match i with
  | 0 => 0
  | i + 1 => t.place.getD i 0 + 1
theorem below_slot {t : SetTable} {n : Nat} {led : Bool} (T : TOk0 t n led) {i : Nat} (hi : i ≤ n) : SetTable.below t.place (slotAt false t i) = i := by
  have hs := T.size
  cases i with
  | zero =>
    obtain ⟨b1, b2, _⟩ := below_spec T.rise 0
    show SetTable.below t.place 0 = 0
    cases c : SetTable.below t.place 0 with
    | zero => rfl
    | succ m =>
      have hlt : 0 < t.place.size := by omega
      have := b2 0 _ (by omega) (Array.getElem?_eq_getElem hlt)
      omega
  | succ i =>
    show SetTable.below t.place (t.place.getD i 0 + 1) = i + 1
    have hlt : i < t.place.size := by omega
    have hg : t.place[i]? = some (t.place.getD i 0) := by rw [Array.getD_eq_getD_getElem?, Array.getElem?_eq_getElem hlt]; rfl
    obtain ⟨b1, b2, b3⟩ := below_spec T.rise (t.place.getD i 0 + 1)
    rcases Nat.lt_trichotomy (SetTable.below t.place (t.place.getD i 0 + 1)) (i + 1) with c | c | c
    · have := b3 i _ (by omega) hg
      omega
    · exact c
    · have hlt2 : i + 1 < t.place.size := by omega
      have h2 := b2 (i + 1) _ c (Array.getElem?_eq_getElem hlt2)
      have h3 := T.rise i (i + 1) _ _ (by omega) hg (Array.getElem?_eq_getElem hlt2)
      omega
section
variable {prog : Program} {w : World} {A : Around} {E : Value → Shared → Prop} {s : Shared}
abbrev byT (w : World) : Bool := w.params.followText "set-order"
theorem byText_ok {Q : Bool → Shared → Prop} (h : Q (byT w) s) : wpAny (model prog w) A setsByText Q E s := by
  unfold setsByText
  exact wpAny_bind (wpAny_askSetting (wpAny_pure h))
/-- the object at S, the set -/
structure SObj (w : World) (o : Obj) (es : Array (Int × Value)) (ep : Nat) (t : SetTable) : Prop where
  ex : o.ExactSet
  dat : o.data = .set es ep t
  ok : SOk es t (!byT w)
theorem walk_ok {S : Addr} {o : Obj} {es : Array (Int × Value)} {ep : Nat} {t : SetTable} {Q : Array (Int × Value) → Shared → Prop} (K : SObj w o es ep t) (ho : s.heap.get? S = some o) (hb : byT w = true)
    (h : Q (pickOrder (w.params.setOrder S ep) es) s) : wpAny (model prog w) A (setWalk S) Q E s := by
  unfold setWalk
  refine wpAny_bind (wpAny_setState_of ho K.dat K.ok.tab.fits ?_)
  dsimp only
  refine wpAny_bind (byText_ok ?_)
  rw [hb]
  simp only [↓reduceIte]
  exact wpAny_bind (wpAny_askSetting (wpAny_pure h))
/-- one step of the walk -/
theorem setNext_ok {S : Addr} {o : Obj} {es : Array (Int × Value)} {ep i : Nat} {t : SetTable} {Q : Option (Value × Nat) → Shared → Prop} (K : SObj w o es ep t) (ho : s.heap.get? S = some o) (hi : i ≤ es.size)
    (h : Q ((order (byT w) (w.params.setOrder S ep) es)[i]?.map fun e => (e.2, slotAt (byT w) t (i + 1))) s) : wpAny (model prog w) A (setNext S (slotAt (byT w) t i) i ep) Q E s := by
  unfold setNext
  refine wpAny_bind (wpAny_setState_of ho K.dat K.ok.tab.fits ?_)
  dsimp only
  refine wpAny_bind (byText_ok ?_)
  cases hb : byT w with
  | true =>
    rw [hb] at h
    simp only [↓reduceIte, bne_self_eq_false, Bool.false_eq_true]
    refine wpAny_bind (walk_ok K ho hb (wpAny_pure ?_))
    have : (order true (w.params.setOrder S ep) es)[i]? = (pickOrder (w.params.setOrder S ep) es)[i]? := by
      show (if true = true then _ else _)[i]? = _
      rw [if_pos rfl, Array.getElem?_toList]
    rw [this] at h
    exact h
  | false =>
    rw [hb] at h
    simp only [Bool.false_eq_true, ↓reduceIte]
    have hl : t.led = true := by have := K.ok.tab.led; rw [hb] at this; exact this
    have hp := K.ok.tab.plain
    have hbel := below_slot K.ok.tab hi
    split
    · rename_i hd
      have hd' : (!t.plain && decide (es.size > 1)) = true := hd
      rw [hp] at hd'
      cases hd'
    · refine wpAny_bind ?_
      show wpAny _ _ (if (!t.led && !es.isEmpty) = true then unsupported "set:maker-not-led" else pure ()) _ _ _
      rw [hl]
      simp only [Bool.not_true, Bool.false_and, Bool.false_eq_true, ↓reduceIte]
      refine wpAny_pure (wpAny_pure ?_)
      rw [hbel]
      have ho2 : (order false (w.params.setOrder S ep) es)[i]? = es[i]? := by
        show (if false = true then _ else es.toList)[i]? = _
        rw [if_neg Bool.false_ne_true, Array.getElem?_toList]
      rw [ho2] at h
      have hs := K.ok.tab.size
      by_cases c : i < es.size
      · have h1 : es[i]? = some es[i] := Array.getElem?_eq_getElem c
        have hlt : i < t.place.size := by omega
        have h2 : t.place[i]? = some (t.place.getD i 0) := by rw [Array.getD_eq_getD_getElem?, Array.getElem?_eq_getElem hlt]; rfl
        rw [h1] at h ⊢
        rw [h2]
        exact h
      · have h1 : es[i]? = none := Array.getElem?_eq_none (by omega)
        rw [h1] at h ⊢
        exact h
/-- the iterator ahead of its i-th element -/
def itObj (w : World) (S : Addr) (t : SetTable) (n ep i : Nat) : Obj := { cls := .type "set_iterator", data := .fields #[rawInt (slotAt (byT w) t i), rawInt i, .ref S, rawInt n, rawInt ep] }
theorem iter_ok {S : Addr} {o : Obj} {es : Array (Int × Value)} {ep : Nat} {t : SetTable} {Q : Value → Shared → Prop} (K : SObj w o es ep t) (ho : s.heap.get? S = some o)
    (h : Q (.ref s.heap.objs.size) { s with heap := s.heap.push (itObj w S t es.size ep 0) }) : wpAny (model prog w) A (pyIter (.ref S)) Q E s := by
  have hT : s.TypeIs (.ref S) "set" := ⟨o, ho, K.ex.1⟩
  refine wpAny_pyIter_slot hT F.slot_set_iter (wpAny_call_entry F.slot_set_iter hT entry_set_iter ?_ (F.args_set_iter_1 _))
  unfold Builtin.«frozenset.__iter__» Builtin.Frozenset.slot0 slotArgs
  simp only [List.isEmpty_nil, Bool.not_true, Bool.false_eq_true, ↓reduceIte, bind_assoc, List.length_nil, bne_self_eq_false]
  unfold Builtin.Frozenset.addrOf Builtin.Frozenset.sizeOf
  refine wpAny_bind (wpAny_pure ?_)
  try dsimp only
  refine wpAny_bind (wpAny_pure ?_)
  refine wpAny_bind (wpAny_bind (wpAny_setEntries_of ho K.dat K.ok.tab.fits (wpAny_pure ?_)))
  refine wpAny_bind ?_
  unfold setDrawn
  refine wpAny_bind (wpAny_setState_of ho K.dat K.ok.tab.fits ?_)
  dsimp only
  refine wpAny_bind (byText_ok (wpAny_pure ?_))
  have hp := K.ok.tab.plain
  split
  · rename_i hd
    exfalso
    have hd' : (!byT w && (!t.plain && decide (es.size > 1))) = true := hd
    rw [hp] at hd'
    simp at hd'
  · refine wpAny_bind (wpAny_pure ?_)
    refine wpAny_bind (wpAny_setEpoch_of ho K.dat K.ok.tab.fits ?_)
    refine wpAny_bind (wpAny_newObj_type (wpAny_pure ⟨_, rfl, "set_iterator", _, ⟨_, Heap.get?_push_size _ rfl, rfl⟩, slot_si_next.lookup, ?_⟩))
    have e : slotAt (byT w) t 0 = 0 := by unfold slotAt; split <;> rfl
    have : itObj w S t es.size ep 0 = { cls := .type "set_iterator", data := .fields #[rawInt 0, rawInt 0, .ref S, rawInt es.size, rawInt ep] } := by
      unfold itObj
      rw [e]
      rfl
    rw [this] at h
    exact h
theorem next_item {S I : Addr} {o : Obj} {es : Array (Int × Value)} {ep i : Nat} {t : SetTable} {e : Int × Value} {Q : Option Value → Shared → Prop} (K : SObj w o es ep t) (ho : s.heap.get? S = some o)
    (hI : s.heap.get? I = some (itObj w S t es.size ep i)) (he : (order (byT w) (w.params.setOrder S ep) es)[i]? = some e)
    (h : ∀ h', h'.get? I = some (itObj w S t es.size ep (i + 1)) → Heap.SameBut I s.heap h' → Q (some e.2) { s with heap := h' }) : wpAny (model prog w) A (pyNext (.ref I)) Q E s := by
  have hT : s.TypeIs (.ref I) "set_iterator" := ⟨_, hI, rfl⟩
  have hi : i < es.size := by
    have := (List.getElem?_eq_some_iff.mp he).1
    rw [order_len] at this
    exact this
  unfold pyNext
  refine wpAny_bind (wpAny_attempt (wpAny_callSpecial?_slot (name := Str.ofString "__next__") hT slot_si_next
    (wpAny_call_entry slot_si_next hT entry_si_next ?_ (args_si_next _))))
  unfold Builtin.«set_iterator.__next__»
  refine wpAny_bind (wpAny_pure ?_)
  dsimp only
  refine wpAny_bind (wpAny_fieldsOf hI rfl ?_)
  show wpAny _ _ (setEntries S >>= _) _ _ _
  refine wpAny_bind (wpAny_setEntries_of ho K.dat K.ok.tab.fits ?_)
  rw [if_neg (by simp)]
  show wpAny _ _ (setNext S (Int.toNat ((slotAt (byT w) t i : Nat) : Int)) (Int.toNat (i : Int)) (Int.toNat (ep : Int)) >>= _) _ _ _
  simp only [Int.toNat_natCast]
  refine wpAny_bind (setNext_ok K ho (by omega) ?_)
  rw [he]
  dsimp only [Option.map_some]
  refine wpAny_bind (wpAny_setField hI rfl (by simp) ?_)
  have h1 : (s.heap.update I (Obj.mapFields (·.setIfInBounds 0 (rawInt (slotAt (byT w) t (i + 1)))))).get? I = some { cls := .type "set_iterator", data := .fields #[rawInt (slotAt (byT w) t (i + 1)), rawInt i, .ref S, rawInt es.size, rawInt ep] } := by
    have := Heap.get?_update_self (Obj.mapFields (·.setIfInBounds 0 (rawInt (slotAt (byT w) t (i + 1))))) hI (Obj.isFreed_of_fields (Obj.data_mapFields rfl _))
    rw [this]
    rfl
  refine wpAny_bind (wpAny_setField h1 rfl (by simp) ?_)
  have h2 := Heap.get?_update_self (Obj.mapFields (·.setIfInBounds 1 (rawInt ((i : Int) + 1)))) h1 (Obj.isFreed_of_fields (Obj.data_mapFields rfl _))
  refine wpAny_pure ⟨_, rfl, ?_⟩
  refine wpAny_pure (h _ ?_ ((Heap.SameBut.update ..).trans (Heap.SameBut.update ..)))
  rw [h2]
  rfl
theorem next_end {S I : Addr} {o : Obj} {es : Array (Int × Value)} {ep : Nat} {t : SetTable} {Q : Option Value → Shared → Prop} (hh : A.handled = none) (K : SObj w o es ep t) (ho : s.heap.get? S = some o)
    (hI : s.heap.get? I = some (itObj w S t es.size ep es.size)) (h : ∀ h', Heap.ExtBut I s.heap h' → Q none { s with heap := h' }) : wpAny (model prog w) A (pyNext (.ref I)) Q E s := by
  have hT : s.TypeIs (.ref I) "set_iterator" := ⟨_, hI, rfl⟩
  unfold pyNext
  refine wpAny_bind (wpAny_attempt (wpAny_callSpecial?_slot (name := Str.ofString "__next__") hT slot_si_next
    (wpAny_call_entry slot_si_next hT entry_si_next ?_ (args_si_next _))))
  unfold Builtin.«set_iterator.__next__»
  refine wpAny_bind (wpAny_pure ?_)
  dsimp only
  refine wpAny_bind (wpAny_fieldsOf hI rfl ?_)
  show wpAny _ _ (setEntries S >>= _) _ _ _
  refine wpAny_bind (wpAny_setEntries_of ho K.dat K.ok.tab.fits ?_)
  rw [if_neg (by simp)]
  show wpAny _ _ (setNext S (Int.toNat ((slotAt (byT w) t es.size : Nat) : Int)) (Int.toNat (es.size : Int)) (Int.toNat (ep : Int)) >>= _) _ _ _
  simp only [Int.toNat_natCast]
  refine wpAny_bind (setNext_ok K ho (Nat.le_refl _) ?_)
  rw [List.getElem?_eq_none (by rw [order_len]; exact Nat.le_refl _)]
  dsimp only [Option.map_none]
  refine wpAny_bind (wpAny_setField hI rfl (by simp) ?_)
  show wpAny _ _ (newExc (.type "StopIteration") [] >>= _) _ _ _
  refine wpAny_bind ?_
  simp only [newExc, newTuple]
  refine wpAny_bind (wpAny_newObj_type ?_ (by size_fits))
  refine wpAny_bind (m := firstArgMember _ _) (wpAny_of_eq (a := Value.none) (by first | rfl | (simp only [firstArgMember]; rfl)) ?_)
  refine wpAny_newObj_type ?_ (by size_fits)
  simp only [raiseNew]
  refine wpAny_bind (wpAny_handled ?_)
  rw [show A.in1.handled = none from hh]
  refine wpAny_bind (wpAny_pure (wpAny_throw ?_))
  refine wpAny_bind (wpAny_isInstance (T := "StopIteration") (b := true) ⟨_, Heap.get?_push_size _ rfl, rfl⟩ isSubtype_stop ?_)
  exact wpAny_pure (h _ (((Heap.SameBut.update ..).extBut.push _).push _))
theorem walks_set {S I : Addr} {o : Obj} {es : Array (Int × Value)} {ep : Nat} {t : SetTable} (hh : A.handled = none) (K : SObj w o es ep t) (hne : S ≠ I) :
    Walks prog w A I [I, S] [I] es.size (fun i v => ∃ e, (order (byT w) (w.params.setOrder S ep) es)[i]? = some e ∧ v = e.2) (fun i h => h.get? I = some (itObj w S t es.size ep i) ∧ h.get? S = some o) where
  sub := fun b hb => by simp at hb; simp [hb]
  frame := fun _ _ _ st hk => ⟨hk I (by simp) _ st.1, hk S (by simp) _ st.2⟩
  item := fun i s Q E hi st hQ => by
    have he : (order (byT w) (w.params.setOrder S ep) es)[i]? = some ((order (byT w) (w.params.setOrder S ep) es)[i]'(by rw [order_len]; exact hi)) := List.getElem?_eq_getElem _
    refine next_item K st.2 st.1 he fun h' h1 h2 => ?_
    exact hQ _ h' s.toks ⟨_, he, rfl⟩ ⟨h1, (h2.2 S hne).trans st.2⟩ fun b o' hb e => (h2.2 b (fun z => hb (by simp [z]))).trans e
  done := fun s Q E st hQ => next_end hh K st.2 st.1 fun h' he' => hQ h' s.toks fun b o hb e => he' b o (fun z => hb (by simp [z])) e
  self := fun _ s _ _ st hQ => by
    have hT : s.TypeIs (.ref I) "set_iterator" := ⟨_, st.1, rfl⟩
    refine wpAny_pyIter_slot hT slot_si_iter (wpAny_call_entry slot_si_iter hT entry_si_iter ?_ (args_si_iter _))
    show wpAny _ _ (ret (.ref I)) _ _ _
    exact wpAny_pure ⟨_, rfl, "set_iterator", _, hT, slot_si_next.lookup, hQ⟩
set_option maxHeartbeats 1600000 in
/-- the members of a set as a list -/
theorem collect_set {S : Addr} {o : Obj} {es : Array (Int × Value)} {ep : Nat} {t : SetTable} {Q : List Value → Shared → Prop} (hh : A.handled = none) (K : SObj w o es ep t) (ho : s.heap.get? S = some o) (hn : es.size ≤ sizeLine)
    (h : ∀ h' tk, s.heap.objs.size < h'.objs.size → (∀ b u, s.heap.get? b = some u → h'.get? b = some u) → Q ((order (byT w) (w.params.setOrder S ep) es).map (·.2)) { s with heap := h', toks := tk }) : wpAny (model prog w) A (collect (.ref S)) Q E s := by
  have hSlt : S < s.heap.objs.size := Heap.lt_size ho
  unfold collect
  refine wpAny_bind (wpAny_runValue (codeAny_builtin F.entry_proto_collect ?_))
  rw [Around.under_plainId F.plain_proto_collect _]
  show wpAny _ A.in1 (newList [] >>= fun l => again (.builtin "list.__iadd__" ⟨[l, .ref S], []⟩)) _ _ s
  refine wpAny_bind (wpAny_newObj_type ?_)
  refine wpAny_pure ⟨plainId_quiet F.plain_list_iadd _, codeAny_builtin F.entry_list_iadd ?_⟩
  rw [Around.under_plainId F.plain_list_iadd _]
  generalize hL : s.heap.objs.size = L at hSlt
  have hSL : L ≠ S := Nat.ne_of_gt hSlt
  have ho1 : (s.heap.push { cls := .type "list", data := .seq ([] : List Value).toArray }).get? S = some o := Heap.get?_push_of_some _ ho
  have hL1 : (s.heap.push { cls := .type "list", data := .seq ([] : List Value).toArray }).get? L = some { cls := .type "list", data := .seq ([] : List Value).toArray } := by rw [← hL]; exact Heap.get?_push_size _ rfl
  have hz1 : (s.heap.push { cls := .type "list", data := .seq ([] : List Value).toArray }).objs.size = L + 1 := by rw [Heap.size_push, hL]
  have kp1 : ∀ b u, s.heap.get? b = some u → (s.heap.push { cls := .type "list", data := .seq ([] : List Value).toArray }).get? b = some u := fun b u e => Heap.get?_push_of_some _ e
  generalize s.heap.push { cls := .type "list", data := .seq ([] : List Value).toArray } = H1 at ho1 hL1 hz1 kp1 ⊢
  have h1 : Builtin.List.listSameRef (.ref L) (.ref S) = false := by simp [Builtin.List.listSameRef, hSL]
  show wpAny _ A.in1 (Builtin.List.listExtendWith (.ref L) (.ref S) (.ref L)) _ _ _
  unfold Builtin.List.listExtendWith
  have hT1 : Shared.TypeIs { s with heap := H1 } (.ref S) "set" := ⟨o, ho1, K.ex.1⟩
  refine wpAny_bind (wpAny_typeOf hT1 ?_)
  rw [if_neg (by rw [h1]; decide)]
  refine wpAny_bind (iter_ok K ho1 ?_)
  dsimp only
  rw [hz1]
  have ho2 : (H1.push (itObj w S t es.size ep 0)).get? S = some o := Heap.get?_push_of_some _ ho1
  have hL2 : (H1.push (itObj w S t es.size ep 0)).get? L = some { cls := .type "list", data := .seq ([] : List Value).toArray } := Heap.get?_push_of_some _ hL1
  have hI2 : (H1.push (itObj w S t es.size ep 0)).get? (L + 1) = some (itObj w S t es.size ep 0) := by rw [← hz1]; exact Heap.get?_push_size _ rfl
  have kp2 : ∀ b u, s.heap.get? b = some u → (H1.push (itObj w S t es.size ep 0)).get? b = some u := fun b u e => Heap.get?_push_of_some _ (kp1 b u e)
  generalize H1.push (itObj w S t es.size ep 0) = H2 at ho2 hL2 hI2 kp2 ⊢
  have hT2 : Shared.TypeIs { s with heap := H2 } (.ref S) "set" := ⟨o, ho2, K.ex.1⟩
  refine wpAny_bind (wpAny_holding ?_)
  unfold Builtin.List.listLengthHint
  refine wpAny_bind (wpAny_specialOf hT2 len_set ?_)
  dsimp only
  rw [show splitId "set.__len__" = some ("set", "__len__") from by decide +kernel]
  dsimp only
  refine wpAny_bind (wpAny_isInstance (b := true) hT2 (by rw [isSubtype_type]; kernel_rfl) ?_)
  rw [if_neg (by decide)]
  rw [if_pos (by decide +kernel)]
  refine wpAny_bind (wpAny_typeOf hT2 ?_)
  refine wpAny_pure ?_
  rw [if_pos (by decide +kernel)]
  refine wpAny_bind (wpAny_rule ?_)
  refine wpAny_bind ?_
  show wpAny _ A.in1 (updateSeq L (·.push .none) >>= fun _ => updateSeq L (·.pop)) _ _ _
  refine wpAny_bind (wpAny_updateSeq hL2 rfl ?_)
  have hL3 := Heap.get?_update_self (Obj.mapSeq (·.push Value.none)) hL2 rfl
  refine wpAny_updateSeq hL3 rfl ?_
  have hL4 := Heap.get?_update_self (Obj.mapSeq (·.pop)) hL3 rfl
  have oth : ∀ b u, b ≠ L → H2.get? b = some u → ((H2.update L (Obj.mapSeq (·.push Value.none))).update L (Obj.mapSeq (·.pop))).get? b = some u :=
    fun b u hb e => (Heap.get?_update_other _ _ (Ne.symm hb)).trans ((Heap.get?_update_other _ _ (Ne.symm hb)).trans e)
  have W := (walks_set (prog := prog) (A := A.in1) (I := L + 1) (by simpa using hh) K (Nat.ne_of_lt (Nat.lt_succ_of_lt hSlt))).toS
  have hLf : L ∉ [L + 1, S] := by
    intro hm
    rcases List.mem_cons.mp hm with z | z
    · exact Nat.ne_of_lt (Nat.lt_succ_self L) z
    · exact hSL (List.mem_singleton.mp z)
  refine wpAny_pure ⟨plainId_quiet F.plain_extend_loop _, codeAny_extend_loopS W hn L hLf _ es.size 0 _ _ _ rfl (Nat.zero_le _) ⟨oth _ _ (Nat.ne_of_gt (Nat.lt_succ_self L)) hI2, oth _ _ (fun z => hSL z.symm) ho2⟩ hL4 (ItemsOf.nil _) fun s' acc' c' hm hS' hacc => ?_⟩
  show wpAny _ A (load L >>= _) _ _ s'
  refine wpAny_bind (wpAny_load hS' ?_)
  obtain ⟨h', g', d', tk', os'⟩ := s'
  have eg : g' = s.gens := hm.gens
  have ed : d' = s.drawn := hm.drawn
  have eo : os' = s.os := hm.os
  subst eg ed eo
  refine wpAny_pure ?_
  have hlist : acc'.toList = (order (byT w) (w.params.setOrder S ep) es).map (·.2) := by
    apply List.ext_getElem?
    intro i
    rw [Array.getElem?_toList, List.getElem?_map]
    by_cases c : i < es.size
    · have hlt : i < acc'.size := by rw [hacc.1]; exact c
      obtain ⟨e, he, hv⟩ := hacc.2 i _ (Array.getElem?_eq_getElem hlt)
      rw [Array.getElem?_eq_getElem hlt, he, hv]
      rfl
    · rw [Array.getElem?_eq_none (by rw [hacc.1]; omega), List.getElem?_eq_none (by rw [order_len]; omega)]
      rfl
  rw [hlist]
  refine h h' tk' (by rw [hL]; exact Heap.lt_size hS') fun b u e => ?_
  have hb : b < L := by rw [← hL]; exact Heap.lt_size e
  refine hm.heap b u (fun z => ?_) (oth b u (Nat.ne_of_lt hb) (kp2 b u e))
  rcases List.mem_cons.mp z with z | z
  · exact Nat.ne_of_lt hb z
  · exact Nat.ne_of_lt (Nat.lt_succ_of_lt hb) (List.mem_singleton.mp z)
end
end ST

set_option linter.all false
set_option maxRecDepth 100000
set_option Elab.async false
namespace ST
open PySem PySem.Spec PyProof.Rows
section
variable {prog : Program} {w : World} {A : Around} {R : Result → Shared → Prop} {I : Addr} {fp wr : List Addr} {G : Array GenState → Array GenState → Prop} {n : Nat} {P : Nat → Value → Prop} {St : Nat → Shared → Prop}
theorem SetAt.moved {h h' : Heap} {a : Addr} {ns : List Int} {m : Nat} {led : Bool} (S : SetAt h a ns m led) (k : ∀ o, h.get? a = some o → h'.get? a = some o) : SetAt h' a ns m led :=
  let ⟨o, es, ep, t, ho, r⟩ := S
  ⟨o, es, ep, t, k o ho, r⟩
/-- the loop that fills a set -/
theorem fill_loop (W : WalksS prog w A.in1 I fp wr G n P St) (S : Addr) (hSf : S ∉ fp) (val : Nat → Int) (hval : ∀ i v, P i v → ∃ t, v = .int (val i) t) (hsm : ∀ i, i < n → 0 ≤ val i ∧ val i < 65536) (hb : n ≤ 65536) (led : Bool) :
    ∀ (k i : Nat) (s : Shared), n - i = k → i ≤ n → St i s → SetAt s.heap S ((List.range i).map val) i led →
      (∀ s', Moved (S :: wr) G s s' → SetAt s'.heap S ((List.range n).map val) n led → R (.ok (.ret .none)) s') →
      codeAny (model prog w) A (.builtin "set.update.loop" ⟨[.ref S, .ref I], []⟩) R s := by
  have hSw : S ∉ wr := fun h => hSf (W.sub _ h)
  have hsub : ∀ b ∈ wr, b ∈ S :: wr := fun b hb => List.mem_cons_of_mem _ hb
  intro k
  induction k with
  | zero =>
    intro i s hk hi hst hS hR
    have hin : i = n := by omega
    subst hin
    refine codeAny_builtin F.entry_set_update_loop ?_
    rw [Around.under_plainId F.plain_set_update_loop _]
    show wpAny _ A.in1 (pyNext (.ref I) >>= _) _ _ s
    refine wpAny_bind (W.done s _ _ hst fun s' hm => ?_)
    show wpAny _ A.in1 (ret Value.none) _ _ s'
    exact wpAny_pure (hR s' (hm.mono hsub) (hS.moved fun o e => hm.heap S o hSw e))
  | succ k ih =>
    intro i s hk hi hst hS hR
    have hlt : i < n := by omega
    refine codeAny_builtin F.entry_set_update_loop ?_
    rw [Around.under_plainId F.plain_set_update_loop _]
    show wpAny _ A.in1 (pyNext (.ref I) >>= _) _ _ s
    refine wpAny_bind (W.item i s _ _ hlt hst fun v s' hP hst' hm => ?_)
    obtain ⟨t, rfl⟩ := hval i v hP
    have hS' := hS.moved (h' := s'.heap) fun o e => hm.heap S o hSw e
    obtain ⟨h0, h1⟩ := hsm i hlt
    show wpAny _ A.in1 (holding [Value.int (val i) t] (setAdd S (.int (val i) t)) >>= _) _ _ s'
    refine wpAny_bind (wpAny_holding ?_)
    unfold setAdd
    refine wpAny_holding ?_
    refine wpAny_bind (wpAny_pyHash_int ?_)
    rw [hash_small h0 h1]
    refine add_ok (s := { s' with toks := s'.toks + 1 }) hS' h0 h1 (by omega) fun b h' hsb hS2 => ?_
    have hSi : SetAt h' S ((List.range (i + 1)).map val) (i + 1) led := by
      rw [List.range_succ, List.map_append]
      exact hS2
    refine wpAny_pure ⟨plainId_quiet F.plain_set_update_loop _, ih (i + 1) _ (by omega) hlt (W.frame _ s' _ _ hst' (Nat.le_succ _) fun b hb o e => ?_) hSi fun s'' hm'' hS'' => ?_⟩
    · rw [hsb.2 b (fun h : b = S => hSf (by rw [← h]; exact hb))]; exact e
    · refine hR s'' (Moved.trans W.gtrans ((hm.mono hsub).then_heap (Nat.le_succ _) fun b o hb e => ?_) hm'') hS''
      rw [hsb.2 b (fun h : b = S => hb (by rw [h]; exact List.mem_cons_self))]; exact e
end
section
variable {prog : Program} {w : World} {A : Around} {E : Value → Shared → Prop} {s : Shared}
theorem code_new (a : Value) {Q₁ : Value → Shared → Prop}
    (h : Q₁ (.ref s.heap.objs.size) { s with heap := s.heap.push { cls := .type "set", dict := none, data := .set #[] 0 (.fresh 0 0 (!byT w)) } }) :
    codeAny (model prog w) A (.call (.builtin "set.__new__") ⟨[.type "set", a], []⟩) (wants Q₁ E) s := by
  refine codeAny_of_tree ?_
  show wpAny _ A.in1 (do checkBuiltinCall "set.__new__" ⟨[.type "set", a], []⟩; again (.builtin "set.__new__" ⟨[.type "set", a], []⟩)) _ _ s
  refine wpAny_bind (wpAny_of_eq (F.newCall_set_1 a) (wpAny_pure ⟨plainId_quiet F.plain_set_new _, codeAny_builtin F.entry_set_new ?_⟩))
  rw [Around.under_plainId F.plain_set_new _]
  unfold Builtin.«set.__new__» Builtin.Frozenset.newClass
  have hsub := sub_set_self
  obtain ⟨hp, g, d, tk, os⟩ := s
  dsimp only
  wp_walk
  refine wpAny_askSetting (wpAny_pure ?_)
  dsimp only
  simp only [newObj]
  refine wpAny_bind (wpAny_alloc (wpAny_pure ?_))
  exact wpAny_pure h
set_option maxHeartbeats 3200000 in
/-- set(list) of small ints -/
theorem call_set {l : Addr} {items : Array Value} {ns : List Int} {Q : Value → Shared → Prop}
    (hh : A.handled = none) (hl : s.heap.IsList l items) (hi : IntsAre items.toList ns) (hb : items.size ≤ 65536) (hsm : ∀ v ∈ ns, 0 ≤ v ∧ v < 65536)
    (h : ∀ (h' : Heap) (tk : Nat), SetAt h' s.heap.objs.size ns items.size (!byT w) →
      (∀ b o, b < s.heap.objs.size → s.heap.get? b = some o → h'.get? b = some o) → Q (.ref s.heap.objs.size) { s with heap := h', toks := tk }) :
    wpAny (model prog w) A (call (.type "set") [.ref l]) Q E s := by
  have hlen : items.size = ns.length := by have := hi.length; rw [Array.length_toList] at this; exact this
  have hns : (List.range items.size).map (fun i => ns.getD i 0) = ns := by
    rw [hlen]
    apply List.ext_getElem?
    intro i
    rw [List.getElem?_map]
    by_cases c : i < ns.length
    · rw [List.getElem?_range c, List.getElem?_eq_getElem c]
      simp [List.getD_eq_getElem?_getD, List.getElem?_eq_getElem c]
    · rw [List.getElem?_eq_none (by rw [List.length_range]; omega), List.getElem?_eq_none (by omega)]
      rfl
  obtain ⟨c, tl, hmro⟩ := F.called_set.mro
  have hmade := F.called_set.made
  have hsub := F.called_set.sub
  refine wpAny_call (codeAny_of_tree ?_)
  show wpAny _ _ (callAny (.type "set") _) _ _ _
  refine wpAny_pure ⟨Code.quiet_builtin _ (by decide +kernel), codeAny_builtin F.entry_type_call ?_⟩
  rw [Around.under_plain (weight_type_call_type "set" [.ref l] []) rfl]
  have h1 := F.called_set.notType
  have h2 := F.called_set.canCreate
  have hct := F.typeCall_set_1 (.ref l)
  repeat (any_goals (first | assumption | wp_step))
  refine codeAny_mono (code_new (.ref l) (E := E) (Q₁ := fun obj s₁ => obj = .ref s.heap.objs.size ∧ s₁ = { s with heap := s.heap.push { cls := .type "set", dict := none, data := .set #[] 0 (.fresh 0 0 (!byT w)) } }) ⟨rfl, rfl⟩) fun r s₁ hr => ?_
  cases r with
  | error e => exact hr
  | ok fl =>
    cases fl with
    | ret obj =>
      obtain ⟨rfl, rfl⟩ := hr
      generalize hled : (!byT w) = led at h ⊢
      have hS : (s.heap.push { cls := .type "set", dict := none, data := .set #[] 0 (.fresh 0 0 led) }).get? s.heap.objs.size = some { cls := .type "set", dict := none, data := .set #[] 0 (.fresh 0 0 led) } := Heap.get?_push_size _ rfl
      have hT : Shared.TypeIs { s with heap := s.heap.push { cls := .type "set", dict := none, data := .set #[] 0 (.fresh 0 0 led) } } (.ref s.heap.objs.size) "set" := ⟨_, hS, rfl⟩
      have hli := F.called_set.init.lookup
      have hbi := F.called_set.init.bind (.ref s.heap.objs.size)
      repeat (any_goals (first | assumption | wp_step))
      refine codeAny_mono (codeAny_call_builtin (R := wants (fun r s₂ => r = .none ∧ ∃ h' tk, s₂ = { s with heap := h', toks := tk } ∧
          SetAt h' s.heap.objs.size ns items.size led ∧
          (∀ b o, b < s.heap.objs.size → s.heap.get? b = some o → h'.get? b = some o)) E) F.called_set.init.plain F.entry_set_init (check_set_init_1 hT ?_)) fun r₂ s₂ hr₂ => ?_
      · obtain ⟨ol, hol, hcl, nl, hdl⟩ := hl
        obtain ⟨ocls, odict, odata, oslots⟩ := ol
        simp only at hcl hdl
        subst hcl; subst hdl
        have hol' : (s.heap.push { cls := .type "set", dict := none, data := .set #[] 0 (.fresh 0 0 led) }).get? l = some { cls := .type "list", dict := odict, data := .seq items nl, slots := oslots } := Heap.get?_push_of_some _ hol
        have hsls := F.sub_list_set
        have hslf := F.sub_list_frozenset
        have hne : (Value.type "list" == Value.type "dict") = false := by decide
        have hl1 : (s.heap.push { cls := .type "set", dict := none, data := .set #[] 0 (.fresh 0 0 led) }).IsList l items := ⟨_, hol', rfl, nl, rfl⟩
        unfold Builtin.«set.__init__» noKeywords Builtin.Frozenset.updateFrom
        generalize hPI : pyIter = PI
        wp_walk
        subst hPI
        refine wpAny_pyIter_list hl1 ?_
        refine wpAny_bind (wpAny_runValue ?_)
        have hlS : l < s.heap.objs.size := Heap.lt_size hol
        have hh3 : A.in1.in1.in1.handled = none := by simp [hh]
        have hneI : l ≠ (s.heap.push { cls := .type "set", dict := none, data := .set #[] 0 (.fresh 0 0 led) }).objs.size := by
          rw [Heap.size_push]; exact Nat.ne_of_lt (Nat.lt_succ_of_lt hlS)
        have hSf : s.heap.objs.size ∉ [(s.heap.push { cls := .type "set", dict := none, data := .set #[] 0 (.fresh 0 0 led) }).objs.size, l] := by
          rw [Heap.size_push]; simp only [List.mem_cons, List.mem_singleton, List.not_mem_nil, or_false, not_or]
          exact ⟨Nat.ne_of_lt (Nat.lt_succ_self _), Nat.ne_of_gt hlS⟩
        have hval : ∀ (i : Nat) (v : Value), items[i]? = some v → ∃ t, v = .int ((fun i => ns.getD i 0) i) t := fun i v hv =>
          PyProof.Rows.IntsAre.int_at hi i v (by rw [Array.getElem?_toList]; exact hv)
        refine fill_loop ((Walks.list hh3 _ l hneI items).toS) s.heap.objs.size
          hSf (fun i => ns.getD i 0) hval (fun i hi' => hsm _ (by
            rw [hlen] at hi'
            rw [List.getD_eq_getElem?_getD, List.getElem?_eq_getElem hi']
            exact List.getElem_mem hi')) hb led (items.size - 0) 0 _ (by omega) (Nat.zero_le _)
          ⟨⟨_, Heap.get?_push_size _ rfl, rfl, rfl⟩, (hl1.push _)⟩ ?hS0 ?hR
        case hS0 =>
          have hget : ((s.heap.push { cls := .type "set", dict := none, data := .set #[] 0 (.fresh 0 0 led) }).push { cls := .type "list_iterator", data := .fields #[.ref l, .int 0 0] }).get? s.heap.objs.size
              = some { cls := .type "set", dict := none, data := .set #[] 0 (.fresh 0 0 led) } := Heap.get?_push_of_some _ hS
          exact ⟨_, #[], 0, .fresh 0 0 led, hget, ⟨rfl, rfl, rfl⟩, rfl, fresh_ok led, fun v => by simp, Nat.le_refl _⟩
        case hR =>
          intro s' hm hS'
          rw [hns] at hS'
          obtain ⟨h', g', d', tk', os'⟩ := s'
          have eg : g' = s.gens := hm.gens
          have ed : d' = s.drawn := hm.drawn
          have eo : os' = s.os := hm.os
          subst eg; subst ed; subst eo
          show wpAny _ _ _ _ _ _
          refine wpAny_pure ?_
          show wpAny _ _ (ret Value.none) _ _ _
          refine wpAny_pure ⟨rfl, h', tk', rfl, hS', fun b o hb e => ?_⟩
          have hb1 : b ≠ s.heap.objs.size := Nat.ne_of_lt hb
          have hb2 : b ≠ (s.heap.push { cls := .type "set", dict := none, data := .set #[] 0 (.fresh 0 0 led) }).objs.size := by
            rw [Heap.size_push]; exact Nat.ne_of_lt (Nat.lt_succ_of_lt hb)
          exact hm.heap b o (by simp only [List.mem_cons, List.mem_singleton, List.not_mem_nil, or_false, not_or]; exact ⟨hb1, hb2⟩) (Heap.get?_push_of_some _ (Heap.get?_push_of_some _ e))
      · cases r₂ with
        | error e => exact hr₂
        | ok fl₂ =>
          cases fl₂ with
          | ret r =>
            obtain ⟨rfl, h', tk, rfl, hS', hk'⟩ := hr₂
            repeat (any_goals (first | assumption | wp_step))
            exact h _ _ hS' hk'
          | _ => exact hr₂.elim
    | _ => exact hr.elim
/-- sorted(set) -/
theorem call_sorted {S : Addr} {ns : List Int} {m : Nat} {Q : Value → Shared → Prop} (hh : A.handled = none) (K : SetAt s.heap S ns m (!byT w)) (hm : m ≤ 65536)
    (h : ∀ (l : Addr) (h' : Heap) (tk : Nat) (out : Array Value) (ns' : List Int) (c : Nat), s.heap.objs.size ≤ l → h'.get? l = some { cls := .type "list", data := .seq out c } → IntsAre out.toList ns' → (∀ v, v ∈ ns' ↔ v ∈ ns) → ns'.Pairwise (· ≤ ·) → ns'.length ≤ m →
      (∀ b o, s.heap.get? b = some o → h'.get? b = some o) → Q (.ref l) { s with heap := h', toks := tk }) :
    wpAny (model prog w) A (call (.builtin "sorted") [.ref S]) Q E s := by
  obtain ⟨o, es, ep, t, ho, hex, hd, K, hmem, hz⟩ := K
  have O : SObj w o es ep t := ⟨hex, hd, K⟩
  refine Calls.call_function_entry kind_sorted plain_sorted entry_sorted (args_sorted1 _) ?_
  unfold Builtin.«sorted»
  refine wpAny_bind (m := checkCount "sorted" 1 1 _) (wpAny_pure ?_)
  have hh1 : A.in1.handled = none := by simpa using hh
  refine wpAny_bind (collect_set hh1 O ho (small_line (by omega)) fun h1 tk hgt kp => ?_)
  generalize hvs : (order (byT w) (w.params.setOrder S ep) es).map (·.2) = vs
  have hperm := order_perm (byT w) (w.params.setOrder S ep) es
  have hI : IntsAre vs ((order (byT w) (w.params.setOrder S ep) es).map (·.1)) := by
    rw [← hvs]
    have : ∀ l : List (Int × Value), (∀ e ∈ l, Small e) → IntsAre (l.map (·.2)) (l.map (·.1)) := by
      intro l
      induction l with
      | nil => intro _; exact .nil
      | cons e l ih =>
        intro hl
        obtain ⟨tok, e1, _, _⟩ := hl e (List.mem_cons_self ..)
        rw [List.map_cons, List.map_cons, e1]
        exact .cons _ _ (ih fun x hx => hl x (List.mem_cons_of_mem _ hx))
    exact this _ fun e he => K.small e (hperm.mem_iff.mp he)
  have hlen : vs.length = es.size := by rw [← hvs, List.length_map, order_len]
  refine wpAny_bind (wpAny_newList ?_ (small_line (by rw [hlen]; omega)))
  have hoL : (h1.push (seqObj "list" vs.toArray 0)).get? h1.objs.size = some (seqObj "list" vs.toArray 0) := Heap.get?_push_size _ rfl
  refine wpAny_bind (wpAny_holding (wpAny_call_entry slot_list_sort ⟨_, hoL, rfl⟩ entry_list_sort (list_sort_treeAny hoL hI (small_line (by rw [hlen]; omega)) fun out ns' a1 a2 a3 => ⟨_, rfl, ?_⟩) (args_list_sort _)))
  refine wpAny_pure ⟨_, rfl, ?_⟩
  obtain ⟨c, hc⟩ := sortedHeap_at (out := out) hoL
  have hlt : ∀ b o', s.heap.get? b = some o' → b < h1.objs.size := fun b o' e => Heap.lt_size (kp b o' e)
  refine h h1.objs.size _ tk out ns' c ?_ hc a1 (fun v => ?_) a3 ?_ fun b o' e => ?_
  · exact Nat.le_of_lt hgt
  · rw [a2.mem_iff, (hperm.map _).mem_iff]
    exact hmem v
  · rw [a2.length_eq, List.length_map, order_len]
    exact hz
  · have hb := hlt b o' e
    rw [sortedHeap_old (Nat.ne_of_lt hb) (by rw [Heap.size_push]; exact Nat.lt_succ_of_lt hb)]
    exact Heap.get?_push_of_some _ (kp b o' e)
end
end ST

set_option Elab.async false
set_option linter.all false
set_option maxRecDepth 100000
namespace L2
open PySem PySem.Spec PyProof.Rows
/-- a key: an int or a str -/
abbrev Key := Sum Int Str
def keyIs : Key → Value → Bool
  | .inl k, v => Value.isInt k v
  | .inr x, v => Value.isStrOf x v
def keyH (w : World) : Key → Int
  | .inl k => hashInt k
  | .inr x => hashStr w x
theorem keyIs_shape : ∀ {k : Key} {v : Value}, keyIs k v = true → (∃ i t, k = Sum.inl i ∧ v = Value.int i t) ∨ (∃ x t, k = Sum.inr x ∧ v = Value.str x t)
  | .inl i, v, h => by
    obtain ⟨t, e⟩ := Value.isInt_shape (k := i) (v := v) h
    exact .inl ⟨i, t, rfl, e⟩
  | .inr x, v, h => by
    obtain ⟨t, e⟩ := Value.isStrOf_shape (x := x) (v := v) h
    exact .inr ⟨x, t, rfl, e⟩
theorem keyIs_int (i : Int) (t : Tok) : keyIs (.inl i) (.int i t) = true := by simp [keyIs, Value.isInt]
theorem keyIs_str (x : Str) (t : Tok) : keyIs (.inr x) (.str x t) = true := by simp [keyIs, Value.isStrOf]
theorem key_ll (a b : Int) : decide ((Sum.inl a : Key) = Sum.inl b) = (a == b) := by
  by_cases e : a = b
  · subst e; simp
  · have h : ¬ (Sum.inl a : Key) = Sum.inl b := fun q => e (Sum.inl.inj q)
    rw [decide_eq_false h]
    exact (beq_eq_false_iff_ne.mpr e).symm
theorem key_rr (a b : Str) : decide ((Sum.inr a : Key) = Sum.inr b) = decide (a = b) := by
  by_cases e : a = b
  · subst e; simp
  · have h : ¬ (Sum.inr a : Key) = Sum.inr b := fun q => e (Sum.inr.inj q)
    rw [decide_eq_false h, decide_eq_false e]
theorem key_lr (a : Int) (b : Str) : decide ((Sum.inl a : Key) = Sum.inr b) = false := decide_eq_false (fun q => nomatch q)
theorem key_rl (a : Str) (b : Int) : decide ((Sum.inr a : Key) = Sum.inl b) = false := decide_eq_false (fun q => nomatch q)
def mixKind (prog : Program) (w : World) : PySem.KeyKind prog w Key where
  is := keyIs
  hash := keyH w
  inj := fun v a b ha hb => by
    rcases keyIs_shape ha with ⟨i, t, rfl, rfl⟩ | ⟨x, t, rfl, rfl⟩
    · rcases keyIs_shape hb with ⟨j, u, rfl, e⟩ | ⟨y, u, rfl, e⟩
      · injection e with e1 _; rw [e1]
      · exact nomatch e
    · rcases keyIs_shape hb with ⟨j, u, rfl, e⟩ | ⟨y, u, rfl, e⟩
      · exact nomatch e
      · injection e with e1 _; rw [e1]
  byValue := fun k v h => by
    rcases keyIs_shape h with ⟨i, t, rfl, rfl⟩ | ⟨x, t, rfl, rfl⟩ <;> rfl
  pyHash := fun hv h => by
    rcases keyIs_shape hv with ⟨i, t, rfl, rfl⟩ | ⟨x, t, rfl, rfl⟩
    · exact wpAny_pyHash_int h
    · exact wpAny_pyHash_str h
  eqBool := fun hu hv h => by
    rcases keyIs_shape hu with ⟨i, t, rfl, rfl⟩ | ⟨x, t, rfl, rfl⟩
    · rcases keyIs_shape hv with ⟨j, u, rfl, rfl⟩ | ⟨y, u, rfl, rfl⟩
      · rw [key_ll] at h; exact wpAny_eqBool_int h
      · rw [key_lr] at h; exact SeqAt.EqAt.int_str i t y u _ _ _ _ h
    · rcases keyIs_shape hv with ⟨j, u, rfl, rfl⟩ | ⟨y, u, rfl, rfl⟩
      · rw [key_rl] at h; exact SeqAt.EqAt.str_int x t j u _ _ _ _ h
      · rw [key_rr] at h; exact wpAny_eqBool_str h
  «strs» := fun k x t v h => by
    rcases keyIs_shape h with ⟨i, u, rfl, e⟩ | ⟨y, u, rfl, e⟩
    · exact nomatch e
    · injection e with e1 _
      subst e1
      cases v <;> rfl
theorem mixKind_int (prog : Program) (w : World) (i : Int) (t : Tok) : (mixKind prog w).is (.inl i) (.int i t) = true := keyIs_int i t
theorem mixKind_str (prog : Program) (w : World) (x : Str) (t : Tok) : (mixKind prog w).is (.inr x) (.str x t) = true := keyIs_str x t
end L2
namespace L2
open PySem PySem.Spec PyProof.Rows
/-- a value, without the heap -/
inductive V where
  | non | bl (b : Bool) | int (i : Int) | str (x : Str) | byt (b : Array UInt8) | flt (b : UInt64) | ref (a : Addr) | ty (n : String)
  deriving DecidableEq
def RelV : V → Value → Prop
  | .non, u => u = Value.none
  | .bl b, u => u = Value.bool b
  | .int i, u => ∃ t, u = Value.int i t
  | .str x, u => ∃ t, u = Value.str x t
  | .byt b, u => ∃ t, u = Value.bytes b t
  | .flt b, u => ∃ t, u = Value.float b t
  | .ref a, u => u = Value.ref a
  | .ty n, u => u = Value.type n
abbrev Vals : List V → List Value → Prop := Paired RelV
theorem Vals.length {xs : List V} {us : List Value} (r : Vals xs us) : xs.length = us.length := Paired.length r
theorem Vals.get : ∀ {xs : List V} {us : List Value} {i : Nat} {x : V}, Vals xs us → xs[i]? = some x → ∃ u, us[i]? = some u ∧ RelV x u
  | _, _, _, _, .nil, e => by simp at e
  | _, _, 0, _, .cons r _, e => by simp at e; subst e; exact ⟨_, rfl, r⟩
  | _, _, i + 1, x, .cons _ t, e => by
    obtain ⟨u, h1, h2⟩ := Vals.get (i := i) (x := x) t (by simpa using e)
    exact ⟨u, by simpa using h1, h2⟩
theorem Vals.set {x : V} {u : Value} (r : RelV x u) : ∀ {xs : List V} {us : List Value} (i : Nat), Vals xs us → Vals (xs.set i x) (us.set i u)
  | _, _, _, .nil => .nil
  | _, _, 0, .cons _ t => .cons r t
  | _, _, i + 1, .cons q t => .cons q (Vals.set r i t)
theorem Vals.append : ∀ {xs ys : List V} {us ws : List Value}, Vals xs us → Vals ys ws → Vals (xs ++ ys) (us ++ ws)
  | _, _, _, _, .nil, s => s
  | _, _, _, _, .cons r t, s => .cons r (Vals.append t s)
theorem Vals.take : ∀ {xs : List V} {us : List Value} (n : Nat), Vals xs us → Vals (xs.take n) (us.take n)
  | _, _, 0, _ => .nil
  | _, _, _ + 1, .nil => .nil
  | _, _, n + 1, .cons r t => .cons r (Vals.take n t)
theorem Vals.drop : ∀ {xs : List V} {us : List Value} (n : Nat), Vals xs us → Vals (xs.drop n) (us.drop n)
  | _, _, 0, r => r
  | _, _, _ + 1, .nil => .nil
  | _, _, n + 1, .cons _ t => Vals.drop n t
def RelO : Option V → Option Value → Prop
  | some v, some u => RelV v u
  | none, none => True
  | _, _ => False
def KV {κ : Type} : List (κ × V) → List (κ × Value) → Prop := Paired fun (p : κ × V) (q : κ × Value) => p.1 = q.1 ∧ RelV p.2 q.2
/-- a key of a dict (00_mix): an int or a text -/
def kV : Key → V
  | .inl i => .int i
  | .inr x => .str x
/-- what stands at a tracked address -/
inductive HO where
  /-- a list -/
  | lst (xs : List V)
  /-- a tuple (never changes) -/
  | tup (xs : List V)
  /-- a dict whose keys are ints and texts; one whose keys are tuples of ints and texts (the empty one is both) -/
  | dK (kvs : List (Key × V)) | dT (kvs : List (List Key × V))
  /-- a set of ints: its members, its size -/
  | set (S : Int → Bool) (n : Nat)
  /-- an instance of the class at C, its dict at dx, its attributes -/
  | ins (C dx : Addr) (fs : List (Str × V))
  /-- the dict of the instance at x -/
  | own (x : Addr)
  /-- the dict of an exception -/
  | xd (fs : List (Str × V))
  /-- a bound method, f of x -/
  | met (f x : Addr)
  /-- a range object lo, lo + 1, .. below hi -/
  | rng (lo hi : Int)
  /-- a thing that is known to the object (the script; a dict while a loop walks it): read, never written while it is so -/
  | frz (o : Obj) (u : HO)
  /-- a code object's table -/
  | tbl (ps : Array Value)
  /-- any other thing, by what is true of its one object (a def of one's own: SetO a S n := HO.ext fun h => ..) -/
  | ext (φ : Heap → Prop)
abbrev Hp := Addr → Option HO
def upd (H : Hp) (a : Addr) (o : HO) : Hp := fun b => if b = a then some o else H b
theorem upd_same {H : Hp} {a : Addr} {o : HO} : upd H a o a = some o := by unfold upd; rw [if_pos rfl]
theorem upd_ne {H : Hp} {a b : Addr} {o : HO} (h : b ≠ a) : upd H a o b = H b := by unfold upd; rw [if_neg h]
theorem upd_upd {H : Hp} {a : Addr} {o u : HO} : upd (upd H a o) a u = upd H a u := by
  funext b; unfold upd; split <;> rfl
/-- two objects of different content stand apart -/
theorem ne_of {H : Hp} {a b : Addr} {o u : HO} (h : H a = some o) (h' : H b = some u) (d : o ≠ u) : a ≠ b := by
  intro e; subst e; rw [h] at h'; exact d (Option.some.inj h')
theorem ne_of_none {H : Hp} {a b : Addr} {o : HO} (h : H a = some o) (h' : H b = none) : a ≠ b := by
  intro e; subst e; rw [h] at h'; cases h'
section
variable (P : Program) (w : World)
def ObjOk (H : Hp) (h : Heap) (a : Addr) : HO → Prop
  | .lst xs => xs.length ≤ sizeLine ∧ ∃ (its : List Value) (n : Nat), Vals xs its ∧ h.get? a = some { cls := .type "list", data := .seq its.toArray n }
  | .tup xs => xs.length ≤ sizeLine ∧ ∃ its : List Value, Vals xs its ∧ IsTup h a its.toArray
  | .dK kvs => kvs.length ≤ sizeLine ∧ (a == sysModules) = false ∧ ∃ vs, KV kvs vs ∧ h.DictOf (mixKind P w) a vs
  | .dT kvs => kvs.length ≤ sizeLine ∧ (a == sysModules) = false ∧ ∃ xs : List (List Key × Addr × Value),
      Paired (fun (p : List Key × V) (q : List Key × Addr × Value) => p.1 = q.1 ∧ H q.2.1 = some (.tup (p.1.map kV)) ∧ RelV p.2 q.2.2) kvs xs ∧
      ∃ o es ep, h.get? a = some o ∧ o.ExactDict ∧ o.data = .dict es ep ∧ es.toList = xs.map (entryOfKey (tupleKind (mixKind P w))) ∧ (xs.map (·.1)).Nodup
  | .set S n => h.SetOf (intKind P w) a S n
  | .ins C dx fs => H dx = some (.own a) ∧ fs.length ≤ 1000 ∧ dx ≠ a ∧ h.get? a = some (PySem.W.instObj C dx) ∧
      ∃ mA, h.Ns1 dx mA ∧ (∀ f, RelO (fs.lookup f) (mA f)) ∧ PySem.Within mA (fs.map (·.1))
  | .own _ => ∃ o, h.get? a = some o
  | .xd fs => ∃ mA, h.Ns1 a mA ∧ ∀ f, RelO (fs.lookup f) (mA f)
  | .rng lo hi => ∃ t u v, h.get? a = some { cls := .type "range", data := .fields #[.int lo t, .int hi u, .int 1 v] }
  | .frz o u => h.get? a = some o ∧ ObjOk H h a u
  | .tbl ps => h.get? a = some { cls := .none, data := .fields ps }
  | .met f x => h.get? a = some (PySem.W.methodObj (.ref f) (.ref x))
  | .ext φ => φ h ∧ (∃ o, h.get? a = some o) ∧ ∀ h1 h2 : Heap, φ h1 → (∀ o, h1.get? a = some o → h2.get? a = some o) → φ h2
/-- the abstract heap is held -/
def HOk (H : Hp) (h : Heap) : Prop := ∀ a o, H a = some o → ObjOk P w H h a o
end
section
variable {P : Program} {w : World} {H H' : Hp} {h h' : Heap} {a : Addr} {o : HO}
theorem ObjOk.lt (x : ObjOk P w H h a o) : a < h.objs.size := by
  cases o with
  | lst xs => obtain ⟨_, _, _, _, e⟩ := x; exact Heap.lt_size e
  | tup xs => obtain ⟨_, _, _, p⟩ := x; exact p.lt
  | dK kvs => obtain ⟨_, _, _, _, o, _, _, e, _⟩ := x; exact Heap.lt_size e
  | dT kvs => obtain ⟨_, _, _, _, o, _, _, e, _⟩ := x; exact Heap.lt_size e
  | set S n => obtain ⟨o, _, _, _, e, _⟩ := x; exact Heap.lt_size e
  | ins C dx fs => obtain ⟨_, _, _, e, _⟩ := x; exact Heap.lt_size e
  | own y => obtain ⟨_, e⟩ := x; exact Heap.lt_size e
  | xd fs => obtain ⟨_, ⟨_, _, _, e, _⟩, _⟩ := x; exact Heap.lt_size e
  | rng lo hi => obtain ⟨_, _, _, e⟩ := x; exact Heap.lt_size e
  | frz ob u => obtain ⟨e, _⟩ := x; exact Heap.lt_size e
  | tbl ps => exact Heap.lt_size (show h.get? a = some _ from x)
  | met f y => exact Heap.lt_size (show h.get? a = some _ from x)
  | ext φ => obtain ⟨_, ⟨_, e⟩, _⟩ := x; exact Heap.lt_size e
theorem Paired.mapP {α β : Type} {F G : α → β → Prop} : ∀ {l₁ : List α} {l₂ : List β}, Paired F l₁ l₂ → (∀ a b, F a b → G a b) → Paired G l₁ l₂
  | _, _, .nil, _ => .nil
  | _, _, .cons r t, f => .cons (f _ _ r) (Paired.mapP t f)
/-- what an object's description leans on: its own object, its own dict, the tuples -/
theorem ObjOk.stay (x : ObjOk P w H h a o) (k : ∀ b u, (b = a ∨ H b = some (.own a)) → h.get? b = some u → h'.get? b = some u)
    (ho : ∀ b, H b = some (.own a) → H' b = some (.own a)) (ht : ∀ b xs, H b = some (.tup xs) → H' b = some (.tup xs)) : ObjOk P w H' h' a o := by
  induction o with
  | lst xs => obtain ⟨z, its, n, r, e⟩ := x; exact ⟨z, its, n, r, k _ _ (.inl rfl) e⟩
  | tup xs => obtain ⟨z, its, r, ob, e, c⟩ := x; exact ⟨z, its, r, ob, k _ _ (.inl rfl) e, c⟩
  | dK kvs => obtain ⟨z, y, vs, r, ob, es, ep, e, c⟩ := x; exact ⟨z, y, vs, r, ob, es, ep, k _ _ (.inl rfl) e, c⟩
  | dT kvs =>
    obtain ⟨z, y, xs, r, ob, es, ep, e, c⟩ := x
    exact ⟨z, y, xs, Paired.mapP r fun p q z => ⟨z.1, ht _ _ z.2.1, z.2.2⟩, ob, es, ep, k _ _ (.inl rfl) e, c⟩
  | set S n => obtain ⟨ob, es, ep, t, e, c⟩ := x; exact ⟨ob, es, ep, t, k _ _ (.inl rfl) e, c⟩
  | ins C dx fs =>
    obtain ⟨d, z, ne, e, mA, ⟨od, es, ep, e2, c⟩, r⟩ := x
    exact ⟨ho _ d, z, ne, k _ _ (.inl rfl) e, mA, ⟨od, es, ep, k _ _ (.inr d) e2, c⟩, r⟩
  | own y => obtain ⟨ob, e⟩ := x; exact ⟨ob, k _ _ (.inl rfl) e⟩
  | xd fs => obtain ⟨mA, ⟨od, es, ep, e, c⟩, r⟩ := x; exact ⟨mA, ⟨od, es, ep, k _ _ (.inl rfl) e, c⟩, r⟩
  | rng lo hi => obtain ⟨t, u, v, e⟩ := x; exact ⟨t, u, v, k _ _ (.inl rfl) e⟩
  | frz ob u ih => obtain ⟨e, q⟩ := x; exact ⟨k _ _ (.inl rfl) e, ih q⟩
  | tbl ps =>
    have e : h.get? a = some { cls := .none, data := .fields ps } := x
    show h'.get? a = some { cls := .none, data := .fields ps }
    exact k a _ (.inl rfl) e
  | met f y =>
    have e : h.get? a = some (PySem.W.methodObj (.ref f) (.ref y)) := x
    show h'.get? a = some (PySem.W.methodObj (.ref f) (.ref y))
    exact k a _ (.inl rfl) e
  | ext φ => obtain ⟨p, ⟨o, e⟩, st⟩ := x; exact ⟨st _ _ p fun o q => k _ _ (.inl rfl) q, ⟨o, k _ _ (.inl rfl) e⟩, st⟩
theorem HOk.lt (x : HOk P w H h) (e : H a = some o) : a < h.objs.size := (x a o e).lt
theorem HOk.fresh (x : HOk P w H h) (e : h.objs.size ≤ a) : H a = none := by
  cases q : H a with
  | none => rfl
  | some u => exact absurd (Nat.lt_of_lt_of_le (x.lt q) e) (Nat.lt_irrefl _)
/-- every object of the heap is kept -/
theorem HOk.kept (x : HOk P w H h) (k : ∀ b u, h.get? b = some u → h'.get? b = some u) : HOk P w H h' := fun a o e =>
  (x a o e).stay (fun b u _ q => k b u q) (fun _ q => q) fun _ _ q => q
/-- a new object is laid and tracked -/
theorem HOk.laid (x : HOk P w H h) (k : ∀ b u, h.get? b = some u → h'.get? b = some u) (hp : h.objs.size ≤ a) (new : ObjOk P w (upd H a o) h' a o) : HOk P w (upd H a o) h' := fun b u e => by
  have hn := x.fresh hp
  by_cases hb : b = a
  · subst hb; rw [upd_same] at e; cases e; exact new
  · rw [upd_ne hb] at e
    exact (x b u e).stay (fun c v _ q => k c v q) (fun c q => by rw [upd_ne (ne_of_none q hn)]; exact q) fun c xs q => by rw [upd_ne (ne_of_none q hn)]; exact q
end
/-- what may be read as u: it is u, or a known u -/
def Rd (H : Hp) (a : Addr) (u : HO) : Prop := H a = some u ∨ ∃ o, H a = some (.frz o u)
theorem Rd.ok {P : Program} {w : World} {H : Hp} {h : Heap} {a : Addr} {u : HO} (r : Rd H a u) (x : HOk P w H h) : ObjOk P w H h a u := by
  rcases r with r | ⟨o, r⟩
  · exact x a u r
  · obtain ⟨_, q⟩ := x a _ r
    exact q
/-- what may be written -/
def Mut : Option HO → Prop
  | some (.lst _) => True
  | some (.dK _) => True
  | some (.dT _) => True
  | some (.set _ _) => True
  | some (.ins _ _ _) => True
  | some (.ext _) => True
  | _ => False
section
variable {P : Program} {w : World} {H : Hp} {h h' : Heap} {x e : Addr} {o' : HO}
/-- the object at e is changed: x itself, or the dict of the instance x -/
theorem HOk.write (ok : HOk P w H h) (mu : Mut (H x)) (he : e = x ∨ H e = some (.own x)) (k : ∀ b u, b ≠ e → h.get? b = some u → h'.get? b = some u) (heo : ∃ u, h'.get? e = some u)
    (new : ObjOk P w (upd H x o') h' x o') : HOk P w (upd H x o') h' := fun b u q => by
  have nown : ∀ c y, H c = some (.own y) → c ≠ x := fun c y r z => by subst z; rw [r] at mu; exact mu
  have ntup : ∀ c xs, H c = some (.tup xs) → c ≠ x := fun c xs r z => by subst z; rw [r] at mu; exact mu
  by_cases hb : b = x
  · subst hb; rw [upd_same] at q; cases q; exact new
  · rw [upd_ne hb] at q
    by_cases hbe : b = e
    · have q' : H b = some (.own x) := by
        rcases he with z | z
        · exact absurd (hbe.trans z) hb
        · rw [hbe]; exact z
      rw [q] at q'; cases q'
      obtain ⟨v, hv⟩ := heo
      exact ⟨v, by rw [hbe]; exact hv⟩
    · refine (ok b u q).stay (fun c v hc r => k c v ?_ r) (fun c r => by rw [upd_ne (nown c b r)]; exact r) fun c xs r => by rw [upd_ne (ntup c xs r)]; exact r
      rcases hc with rfl | hc
      · exact hbe
      · rintro rfl
        rcases he with z | z
        · exact nown c b hc z
        · rw [hc] at z; cases z; exact hb rfl
end
structure Un (fs ex : List Addr) (H H' : Hp) (h h' : Heap) : Prop where
  keep : ∀ b o, h.get? b = some o → H b = none → b ∉ fs → b ∉ ex → h'.get? b = some o
  slot : ∀ b o, h.get? b = some o → H b = none → b ∈ fs → b ∉ ex → ∃ sl, h'.get? b = some { o with slots := sl }
  free : ∀ b o, h.get? b = some o → H b = none → b ∉ ex → H' b = none
  there : ∀ b o, h.get? b = some o → b ∉ ex → ∃ o', h'.get? b = some o'
  tups : ∀ b xs, H b = some (.tup xs) → H' b = some (.tup xs)
  frzs : ∀ b o u, H b = some (.frz o u) → H' b = some (.frz o u)
  tbls : ∀ b ps, H b = some (.tbl ps) → ∃ more, H' b = some (.tbl (ps ++ more))
section
variable {fs fs' ex ex' : List Addr} {H H1 H2 : Hp} {h h1 h2 h' : Heap} {a x e : Addr} {o : HO}
theorem Un.any (u : Un fs ex H H1 h h1) {b : Addr} {ob : Obj} (q : h.get? b = some ob) (n : H b = none) (hx : b ∉ ex) : ∃ sl, h1.get? b = some { ob with slots := sl } := by
  by_cases hb : b ∈ fs
  · exact u.slot b ob q n hb hx
  · exact ⟨ob.slots, u.keep b ob q n hb hx⟩
theorem Un.kept (k : ∀ b u, h.get? b = some u → h'.get? b = some u) : Un fs ex H H h h' :=
  ⟨fun b ob q _ _ _ => k b ob q, fun b ob q _ _ _ => ⟨ob.slots, k b ob q⟩, fun _ _ _ n _ => n, fun b ob q _ => ⟨ob, k b ob q⟩, fun _ _ q => q, fun _ _ _ q => q, fun _ ps q => ⟨#[], by rw [q]; simp⟩⟩
theorem Un.refl : Un fs ex H H h h := Un.kept fun _ _ q => q
theorem Un.laid (k : ∀ b u, h.get? b = some u → h'.get? b = some u) (hp : h.objs.size ≤ a) (hn : H a = none) : Un fs ex H (upd H a o) h h' where
  keep := fun b u q _ _ _ => k b u q
  slot := fun b u q _ _ _ => ⟨u.slots, k b u q⟩
  free := fun b u q n _ => by rw [upd_ne (Nat.ne_of_lt (Nat.lt_of_lt_of_le (Heap.lt_size q) hp))]; exact n
  there := fun b u q _ => ⟨u, k b u q⟩
  tups := fun b xs q => by rw [upd_ne (ne_of_none q hn)]; exact q
  frzs := fun b u xs q => by rw [upd_ne (ne_of_none q hn)]; exact q
  tbls := fun b ps q => ⟨#[], by rw [upd_ne (ne_of_none q hn), q]; simp⟩
theorem Un.write (mu : Mut (H x)) (he : e = x ∨ H e = some (.own x)) (k : ∀ b u, b ≠ e → h.get? b = some u → h'.get? b = some u) (heo : ∃ u, h'.get? e = some u) : Un fs ex H (upd H x o) h h' := by
  have hx : ∀ b, H b = none → b ≠ x := fun b n z => by subst z; rw [n] at mu; exact mu
  have hb : ∀ b, H b = none → b ≠ e := fun b n z => by
    subst z
    rcases he with r | r
    · exact hx b n r
    · rw [n] at r; cases r
  have hm : ∀ b u, H b = some u → ¬ Mut (some u) → b ≠ x := fun b u q nm z => by subst z; rw [q] at mu; exact nm mu
  refine ⟨fun b u q n _ _ => k b u (hb b n) q, fun b u q n _ _ => ⟨u.slots, k b u (hb b n) q⟩, fun b u q n _ => by rw [upd_ne (hx b n)]; exact n, fun b u q _ => ?_,
    fun b xs q => by rw [upd_ne (hm b _ q fun z => z)]; exact q, fun b u xs q => by rw [upd_ne (hm b _ q fun z => z)]; exact q, fun b ps q => ⟨#[], by rw [upd_ne (hm b _ q fun z => z), q]; simp⟩⟩
  by_cases hbe : b = e
  · subst hbe; exact heo
  · exact ⟨u, k b u hbe q⟩
end
def trk (h : Heap) (H : Hp) : List Addr := (List.range h.objs.size).filter fun a => (H a).isSome
def hidT (h : Heap) (H : Hp) : Heap := PySem.W.hideAll h (trk h H)
theorem hidT_size (h : Heap) (H : Hp) : (hidT h H).objs.size = h.objs.size := PySem.W.hideAll_size _ _
theorem hidT_get {h : Heap} {H : Hp} {b : Addr} {o : Obj} (e : h.get? b = some o) (n : H b = none) : (hidT h H).get? b = some o :=
  PySem.W.hideAll_get _ e fun hm => by
    have q : (H b).isSome = true := (List.mem_filter.mp hm).2
    rw [n] at q; simp at q
theorem of_hidT {h : Heap} {H : Hp} {b : Addr} {o : Obj} (e : (hidT h H).get? b = some o) : h.get? b = some o ∧ H b = none := by
  have e' : h.get? b = some o := PySem.W.of_hideAll (trk h H) e
  refine ⟨e', ?_⟩
  cases q : H b with
  | none => rfl
  | some x =>
    have hm : b ∈ trk h H := List.mem_filter.mpr ⟨List.mem_range.mpr (Heap.lt_size e'), by simp [q]⟩
    have z : (hidT h H).get? b = none := PySem.W.hideAll_none (trk h H) hm
    rw [z] at e; cases e
end L2
namespace L2
open PySem PySem.Spec PyProof.Rows
/-- the module's facts, over the base: the heap at the law's entry without what is tracked there -/
structure Mod (K : PySem.W.Frag) (mg : Str → Option Value) (base : Heap) : Prop where
  kin : K.In base
  glob : base.Ns mainGlobals mg
  blt : ∃ mb, base.Ns builtinsNs mb ∧ ∀ x : Str, x ≠ "__name__" → mb x = bootBuiltins x
  nolimit : base.NoLimit
/-- the context: a def's body (or a comprehension's block) running. base: fixed through the whole law; s₀, H₀: the entry; outer: the frames whose slots others may change (a def's callers); stack: all frames that run;
   ex: iterators that were made ahead of the entry and are walked here (a comprehension's); fn: the names whose cells were made at the entry (a def: all; a comprehension's block: its own); calm: not within an except suite; pn: pins that every state bears; xe: what is wanted of an exception that leaves the code -/
structure Cx where
  prog : Program
  w : World
  K : PySem.W.Frag
  mg : Str → Option Value
  base : Heap
  A : Around
  N : List Str
  s₀ : Shared
  H₀ : Hp
  env : Env
  outer : List Env
  stack : List Env
  ex : List Addr
  fn : Str → Bool
  calm : Bool
  pn : List (Addr × Obj)
  xe : Value → Shared → Prop
/-- the callers' frames -/
def frs (l : List Env) : List Addr := l.filterMap (·.frame)
abbrev Cx.fs (X : Cx) : List Addr := frs X.outer
def Vis (sc : Scope) (x : Str) : Prop := sc.names.lookup x = some .local ∨ sc.names.lookup x = some .cell ∨ sc.names.lookup x = some .free
def Loc (sc : Scope) (x : Str) : Prop := sc.names.lookup x = some .local ∨ sc.names.lookup x = some .cell
def Look (env : Env) (h : Heap) (m : Str → Option Value) (x : Str) (u : Value) : Prop :=
  (env.kindOf x = some .local ∧ m x = some u) ∨ ((env.kindOf x = some .cell ∨ env.kindOf x = some .free) ∧ ∃ c, env.cells.lookup x = some c ∧ h.IsCell c (some u))
structure Cx.Ok (X : Cx) : Prop where
  mod : Mod X.K X.mg X.base
  kind : X.env.scope.kind = .function
  glob : X.env.globals = mainGlobals
  blt : X.env.builtins = builtinsNs
  above : X.s₀.heap.objs.size ≤ X.env.locals
  inj : ∀ x y c, X.env.cells.lookup x = some c → X.env.cells.lookup y = some c → x = y
  has : ∀ x, (X.env.kindOf x = some .cell ∨ X.env.kindOf x = some .free) → ∃ c, X.env.cells.lookup x = some c
  cab : ∀ x c, X.fn x = true → X.env.cells.lookup x = some c → X.s₀.heap.objs.size ≤ c
  hd : X.calm = true → X.A.handled = none
  frames : X.A.frames = some X.stack
  stk : X.stack = X.outer ∨ (X.stack = X.env :: X.outer ∧ X.env.frame = some X.env.locals)
  exf : ∀ b ∈ X.ex, b ≠ X.env.locals ∧ ∀ x c, X.env.cells.lookup x = some c → c ≠ b
  bs : ∀ b o, X.base.get? b = some o → X.s₀.heap.get? b = some o ∧ X.H₀ b = none
  bsz : X.base.objs.size ≤ X.s₀.heap.objs.size
  noex : ∀ b o, X.base.get? b = some o → b ∉ X.ex
  exfs : ∀ b ∈ X.ex, b ∉ X.fs
  funs : X.s₀.heap.FunFrames X.base X.outer
  frf : ∀ b ∈ X.fs, X.H₀ b = none
structure Inv (X : Cx) (pins : List (Addr × Obj)) (σ : List (Option V)) (H : Hp) (s : Shared) : Prop where
  ok : X.Ok
  os : s.os = X.s₀.os
  bare : AllBare s.gens
  base : Un X.fs X.ex X.H₀ H X.s₀.heap s.heap
  loc : ∃ m, s.heap.Ns X.env.locals m ∧ ∀ (i : Nat) (x : Str) (v : V), X.N[i]? = some x → σ[i]? = some (some v) → Vis X.env.scope x → ∃ u, RelV v u ∧ Look X.env s.heap m x u
  cell : ∀ x c, X.env.cells.lookup x = some c → ∃ v, s.heap.IsCell c v
  free : H X.env.locals = none
  freeC : ∀ x c, X.env.cells.lookup x = some c → H c = none
  pin : ∀ p ∈ X.pn ++ pins, s.heap.get? p.1 = some p.2 ∧ H p.1 = none ∧ p.1 ≠ X.env.locals ∧ p.1 ∉ X.fs ∧ ∀ v, p.2.data ≠ .cell v
  hok : HOk X.prog X.w H s.heap
  len : σ.length = X.N.length
section
variable {X : Cx} {pins : List (Addr × Obj)} {σ : List (Option V)} {H H' : Hp} {s : Shared} {h' : Heap}
theorem Cx.Ok.nofr (ok : X.Ok) {b : Addr} {o : Obj} (e : X.base.get? b = some o) : b ∉ X.fs := fun hb => by
  have := (ok.funs.mem hb).1
  rw [e] at this; cases this
theorem Inv.bs (I : Inv X pins σ H s) : ∀ b o, X.base.get? b = some o → s.heap.get? b = some o ∧ H b = none := fun b o e =>
  ⟨I.base.keep b o (I.ok.bs b o e).1 (I.ok.bs b o e).2 (I.ok.nofr e) (I.ok.noex b o e), I.base.free b o (I.ok.bs b o e).1 (I.ok.bs b o e).2 (I.ok.noex b o e)⟩
theorem Inv.bk (I : Inv X pins σ H s) : ∀ b o, X.base.get? b = some o → s.heap.get? b = some o := fun b o e => (I.bs b o e).1
theorem Inv.mod (I : Inv X pins σ H s) : Mod X.K X.mg X.base := I.ok.mod
theorem Inv.kIn (I : Inv X pins σ H s) : X.K.In s.heap := I.ok.mod.kin.keeps I.bk
/-- the frame over the base: for OpenK's rules (K.In X.base is I.mod.kin) -/
theorem Inv.fr (I : Inv X pins σ H s) : ∃ m, Fr X.base X.env.locals s.heap m :=
  let ⟨m, hn, _⟩ := I.loc
  ⟨m, hn, I.bk, Nat.le_trans I.ok.bsz I.ok.above⟩
theorem Inv.lt (I : Inv X pins σ H s) : X.env.locals < s.heap.objs.size := let ⟨_, hn, _⟩ := I.loc; hn.lt
theorem Inv.sz (I : Inv X pins σ H s) : X.s₀.heap.objs.size ≤ s.heap.objs.size := Nat.le_trans I.ok.above (Nat.le_of_lt I.lt)
theorem Inv.nofs (I : Inv X pins σ H s) {a : Addr} (h : s.heap.objs.size ≤ a) : a ∉ X.fs := fun hb => by
  obtain ⟨_, o, ho, _⟩ := I.ok.funs.mem hb
  exact absurd (Nat.lt_of_lt_of_le (Heap.lt_size ho) (Nat.le_trans I.sz h)) (Nat.lt_irrefl _)
theorem Inv.cne (I : Inv X pins σ H s) : ∀ x c, X.env.cells.lookup x = some c → c ≠ X.env.locals := fun x c e z => by
  obtain ⟨v, o, ho, hd⟩ := I.cell x c e
  obtain ⟨m, ⟨o', es, ep, ho', hd', _⟩, _⟩ := I.loc
  rw [z, ho'] at ho; cases ho; rw [hd'] at hd; cases hd
theorem Inv.funs (I : Inv X pins σ H s) : s.heap.FunFrames X.base X.outer := by
  have all : ∀ (l : List Env), (∀ b ∈ frs l, b ∈ X.fs) → X.s₀.heap.FunFrames X.base l → s.heap.FunFrames X.base l := by
    intro l
    induction l with
    | nil => intro _ _; trivial
    | cons env r ih =>
      intro hs hl
      obtain ⟨hk, ⟨L, o, hf, hn, ho, hd⟩, hr⟩ := hl
      have hL : L ∈ X.fs := hs L (by unfold frs; rw [List.filterMap_cons, hf]; exact List.mem_cons_self)
      obtain ⟨sl, e⟩ := I.base.slot L o ho (I.ok.frf L hL) hL fun z => I.ok.exfs L z hL
      exact ⟨hk, ⟨L, _, hf, hn, e, hd⟩, ih (fun b hb => hs b (by unfold frs; rw [List.filterMap_cons, hf]; exact List.mem_cons_of_mem _ hb)) hr⟩
  exact all X.outer (fun _ hb => hb) I.ok.funs
/-- the frames that run, for a call -/
theorem Inv.stack (I : Inv X pins σ H s) : s.heap.FunFrames X.base X.stack := by
  rcases I.ok.stk with e | ⟨e, hf⟩
  · rw [e]; exact I.funs
  · rw [e]
    obtain ⟨m, hn, _⟩ := I.loc
    refine .cons (by rw [I.ok.kind]; decide) hf hn ?_ I.funs
    exact Heap.get?_none_of_le (Nat.le_trans I.ok.bsz I.ok.above)
theorem Inv.stkSub (I : Inv X pins σ H s) : ∀ b ∈ frs X.stack, b ∈ X.env.locals :: X.fs := fun b hb => by
  rcases I.ok.stk with e | ⟨e, hf⟩
  · rw [e] at hb; exact List.mem_cons_of_mem _ hb
  · rw [e] at hb
    unfold frs at hb
    rw [List.filterMap_cons, hf] at hb
    exact hb
theorem Inv.stkFree (I : Inv X pins σ H s) : ∀ b ∈ frs X.stack, H b = none := fun b hb => by
  rcases List.mem_cons.mp (I.stkSub b hb) with e | hb
  · rw [e]; exact I.free
  · obtain ⟨_, o, ho, _⟩ := I.ok.funs.mem hb
    exact I.base.free b o ho (I.ok.frf b hb) fun z => I.ok.exfs b z hb
/-- THE STEP: the untracked objects but the frame and the records at ch are kept (the callers' frames up to slots), the frame's map is kept, the new abstract heap is held -/
theorem Inv.step {g' : Array GenState} {t' : Nat} {d' : Drawn} {ch : List Addr} (I : Inv X pins σ H s)
    (hch : ∀ b ∈ ch, (b ∈ X.ex ∨ X.s₀.heap.objs.size ≤ b) ∧ b ≠ X.env.locals ∧ (∀ x c, X.env.cells.lookup x = some c → c ≠ b) ∧ ∀ p ∈ X.pn ++ pins, p.1 ≠ b)
    (keep : ∀ b o, b ≠ X.env.locals → b ∉ X.fs → b ∉ ch → s.heap.get? b = some o → H b = none → h'.get? b = some o)
    (slot : ∀ b o, b ≠ X.env.locals → b ∈ X.fs → b ∉ ch → s.heap.get? b = some o → H b = none → ∃ sl, h'.get? b = some { o with slots := sl }) (free : ∀ b o, b ∉ ch → s.heap.get? b = some o → H b = none → H' b = none)
    (there : ∀ b o, b ∉ ch → s.heap.get? b = some o → ∃ o', h'.get? b = some o')
    (tups : ∀ b xs, H b = some (.tup xs) → H' b = some (.tup xs)) (frzs : ∀ b o u, H b = some (.frz o u) → H' b = some (.frz o u)) (tbls : ∀ b ps, H b = some (.tbl ps) → ∃ more, H' b = some (.tbl (ps ++ more)))
    (ns : ∀ m, s.heap.Ns X.env.locals m → h'.Ns X.env.locals m) (hok : HOk X.prog X.w H' h') (hg : AllBare g') :
    Inv X pins σ H' { s with heap := h', gens := g', drawn := d', toks := t' } := by
  have neL : ∀ b o, X.s₀.heap.get? b = some o → b ≠ X.env.locals := fun b o e => Nat.ne_of_lt (Nat.lt_of_lt_of_le (Heap.lt_size e) I.ok.above)
  have neC : ∀ b o, X.s₀.heap.get? b = some o → b ∉ X.ex → b ∉ ch := fun b o e hx hb => by
    rcases (hch b hb).1 with z | z
    · exact hx z
    · exact absurd (Nat.lt_of_lt_of_le (Heap.lt_size e) z) (Nat.lt_irrefl _)
  have cellK : ∀ x c, X.env.cells.lookup x = some c → ∀ v, s.heap.IsCell c v → h'.IsCell c v := fun x c e v ⟨o, ho, hd⟩ => by
    have nch : c ∉ ch := fun z => (hch c z).2.2.1 x c e rfl
    by_cases hc : c ∈ X.fs
    · obtain ⟨sl, q⟩ := slot c o (I.cne x c e) hc nch ho (I.freeC x c e)
      exact ⟨_, q, hd⟩
    · exact ⟨o, keep c o (I.cne x c e) hc nch ho (I.freeC x c e), hd⟩
  refine ⟨I.ok, I.os, hg, ⟨fun b o e n hb hx => ?_, fun b o e n hb hx => ?_, fun b o e n hx => ?_, fun b o e hx => ?_, fun b xs e => tups b xs (I.base.tups b xs e), fun b o xs e => frzs b o xs (I.base.frzs b o xs e), fun b ps e => ?_⟩, ?_, fun x c e => ?_, ?_, fun x c e => ?_, fun p hp => ?_, hok, I.len⟩
  · exact keep b o (neL b o e) hb (neC b o e hx) (I.base.keep b o e n hb hx) (I.base.free b o e n hx)
  · obtain ⟨sl, e1⟩ := I.base.slot b o e n hb hx
    obtain ⟨sl', e2⟩ := slot b _ (neL b o e) hb (neC b o e hx) e1 (I.base.free b o e n hx)
    exact ⟨sl', e2⟩
  · obtain ⟨o', e1⟩ := I.base.there b o e hx
    exact free b o' (neC b o e hx) e1 (I.base.free b o e n hx)
  · obtain ⟨o', e1⟩ := I.base.there b o e hx
    exact there b o' (neC b o e hx) e1
  · obtain ⟨m1, e1⟩ := I.base.tbls b ps e
    obtain ⟨m2, e2⟩ := tbls b _ e1
    exact ⟨m1 ++ m2, by rw [e2, Array.append_assoc]⟩
  · obtain ⟨m, hn, hl⟩ := I.loc
    refine ⟨m, ns m hn, fun i x v e1 e2 e3 => ?_⟩
    obtain ⟨u, r, l⟩ := hl i x v e1 e2 e3
    refine ⟨u, r, ?_⟩
    rcases l with l | ⟨k, c, e, z⟩
    · exact .inl l
    · exact .inr ⟨k, c, e, cellK x c e _ z⟩
  · obtain ⟨v, z⟩ := I.cell x c e
    exact ⟨v, cellK x c e v z⟩
  · obtain ⟨m, ⟨o, _, _, ho, _⟩, _⟩ := I.loc
    exact free _ o (fun z => (hch _ z).2.1 rfl) ho I.free
  · obtain ⟨v, o, ho, hd⟩ := I.cell x c e
    exact free c o (fun z => (hch c z).2.2.1 x c e rfl) ho (I.freeC x c e)
  · obtain ⟨e, n, ne, nf, d⟩ := I.pin p hp
    have nch : p.1 ∉ ch := fun z => (hch p.1 z).2.2.2 p hp rfl
    exact ⟨keep p.1 p.2 ne nf nch e n, free p.1 p.2 nch e n, ne, nf, d⟩
/-- .. where the frame's own object is kept too -/
theorem Inv.un {t' : Nat} (I : Inv X pins σ H s) (u : Un X.fs [] H H' s.heap h') (hok : HOk X.prog X.w H' h') : Inv X pins σ H' { s with heap := h', toks := t' } := by
  obtain ⟨m, ⟨o, es, ep, ho, r⟩, _⟩ := id I.loc
  obtain ⟨sl, hL⟩ := u.any ho I.free (by simp)
  exact I.step (g' := s.gens) (d' := s.drawn) (ch := []) (fun _ z => nomatch z) (fun b o _ hb _ e n => u.keep b o e n hb (by simp)) (fun b o _ hb _ e n => u.slot b o e n hb (by simp)) (fun b o _ e n => u.free b o e n (by simp)) (fun b o _ e => u.there b o e (by simp)) u.tups u.frzs u.tbls (fun m' hm => by
    obtain ⟨o', es', ep', ho', r'⟩ := hm
    rw [ho] at ho'; cases ho'
    exact ⟨_, es', ep', hL, r'⟩) hok I.bare
/-- behind a call (or a comprehension's block): the slots of this frame may have changed too, the records at ch may have turned -/
theorem Inv.call {g' : Array GenState} {t' : Nat} {d' : Drawn} {ch : List Addr} (I : Inv X pins σ H s) (u : Un (frs X.stack) ch H H' s.heap h') (hok : HOk X.prog X.w H' h') (hg : AllBare g')
    (hch : ∀ b ∈ ch, (b ∈ X.ex ∨ X.s₀.heap.objs.size ≤ b) ∧ b ≠ X.env.locals ∧ (∀ x c, X.env.cells.lookup x = some c → c ≠ b) ∧ ∀ p ∈ X.pn ++ pins, p.1 ≠ b) :
    Inv X pins σ H' { s with heap := h', gens := g', drawn := d', toks := t' } := by
  obtain ⟨m, ⟨o, es, ep, ho, r⟩, _⟩ := id I.loc
  obtain ⟨sl, hL⟩ := u.any ho I.free fun z => (hch _ z).2.1 rfl
  exact I.step (ch := ch) hch (fun b o hL hb hc e n => u.keep b o e n (fun z => (List.mem_cons.mp (I.stkSub b z)).elim hL hb) hc) (fun b o _ _ hc e n => u.any e n hc) (fun b o hc e n => u.free b o e n hc) (fun b o hc e => u.there b o e hc) u.tups u.frzs u.tbls (fun m' hm => by
    obtain ⟨o', es', ep', ho', r'⟩ := hm
    rw [ho] at ho'; cases ho'
    exact ⟨_, es', ep', hL, r'⟩) hok hg
/-- an untracked record of ours (an iterator) has turned -/
theorem Inv.turned {t' : Nat} {it : Addr} (I : Inv X pins σ H s) (k : ∀ b o, b ≠ it → s.heap.get? b = some o → h'.get? b = some o) (hn : H it = none) (hL : it ≠ X.env.locals)
    (h1 : it ∈ X.ex ∨ X.s₀.heap.objs.size ≤ it) (h2 : ∀ x c, X.env.cells.lookup x = some c → c ≠ it) (h3 : ∀ p ∈ X.pn ++ pins, p.1 ≠ it) : Inv X pins σ H { s with heap := h', toks := t' } := by
  have nit : ∀ b u, H b = some u → b ≠ it := fun b u e z => by rw [z, hn] at e; cases e
  refine I.step (g' := s.gens) (d' := s.drawn) (ch := [it]) (fun b hb => ?_) (fun b o _ _ hc e _ => k b o (fun z => hc (by simp [z])) e) (fun b o _ _ hc e _ => ⟨o.slots, k b o (fun z => hc (by simp [z])) e⟩) (fun _ _ _ _ n => n)
    (fun b o hc e => ⟨o, k b o (fun z => hc (by simp [z])) e⟩) (fun _ _ e => e) (fun _ _ _ e => e) (fun b ps e => ⟨#[], by rw [e]; simp⟩) (fun m hm => ?_) (fun b u e => ?_) I.bare
  · have e : b = it := by simpa using hb
    subst e
    exact ⟨h1, hL, h2, h3⟩
  · obtain ⟨o, es, ep, ho, r⟩ := hm
    exact ⟨o, es, ep, k _ o (Ne.symm hL) ho, r⟩
  · refine (I.hok b u e).stay (fun c v hc q => k c v ?_ q) (fun _ q => q) fun _ _ q => q
    rcases hc with z | z
    · rw [z]; exact nit b u e
    · exact nit c _ z
theorem Inv.tok (I : Inv X pins σ H s) (t : Nat) : Inv X pins σ H { s with toks := t } := I.un (h' := s.heap) (t' := t) Un.refl I.hok
/-- all objects kept -/
theorem Inv.kept {t' : Nat} (I : Inv X pins σ H s) (k : ∀ b u, s.heap.get? b = some u → h'.get? b = some u) : Inv X pins σ H { s with heap := h', toks := t' } := I.un (Un.kept k) (I.hok.kept k)
/-- a new object laid and tracked -/
theorem Inv.laid {a : Addr} {o : HO} {t' : Nat} (I : Inv X pins σ H s) (k : ∀ b u, s.heap.get? b = some u → h'.get? b = some u) (hp : s.heap.objs.size ≤ a) (new : ObjOk X.prog X.w (upd H a o) h' a o) :
    Inv X pins σ (upd H a o) { s with heap := h', toks := t' } := I.un (Un.laid k hp (I.hok.fresh hp)) (I.hok.laid k hp new)
/-- an object written -/
theorem Inv.write {x e : Addr} {o : HO} {t' : Nat} (I : Inv X pins σ H s) (mu : Mut (H x)) (he : e = x ∨ H e = some (.own x)) (k : ∀ b u, b ≠ e → s.heap.get? b = some u → h'.get? b = some u) (heo : ∃ u, h'.get? e = some u)
    (new : ObjOk X.prog X.w (upd H x o) h' x o) : Inv X pins σ (upd H x o) { s with heap := h', toks := t' } := I.un (Un.write mu he k heo) (I.hok.write mu he k heo new)
/-- forgetting slots, pins -/
theorem Inv.weak {σ' : List (Option V)} (I : Inv X pins σ H s) (hl : σ'.length = σ.length) (w : ∀ (i : Nat) v, σ'[i]? = some (some v) → σ[i]? = some (some v)) : Inv X pins σ' H s :=
  ⟨I.ok, I.os, I.bare, I.base, let ⟨m, hn, hl'⟩ := I.loc; ⟨m, hn, fun i x v e1 e2 e3 => hl' i x v e1 (w i v e2) e3⟩, I.cell, I.free, I.freeC, I.pin, I.hok, hl.trans I.len⟩
theorem Inv.pins_of {pins' : List (Addr × Obj)} (I : Inv X pins σ H s) (h : ∀ p ∈ pins', s.heap.get? p.1 = some p.2 ∧ H p.1 = none ∧ p.1 ≠ X.env.locals ∧ p.1 ∉ X.fs ∧ ∀ v, p.2.data ≠ .cell v) : Inv X pins' σ H s :=
  ⟨I.ok, I.os, I.bare, I.base, I.loc, I.cell, I.free, I.freeC, fun p hp => (List.mem_append.mp hp).elim (fun z => I.pin p (List.mem_append_left _ z)) (h p), I.hok, I.len⟩
theorem nodup_ix {N : List Str} (hN : N.Nodup) {i j : Nat} {x : Str} (a : N[i]? = some x) (b : N[j]? = some x) : i = j := by
  obtain ⟨h1, e1⟩ := List.getElem?_eq_some_iff.mp a
  obtain ⟨h2, e2⟩ := List.getElem?_eq_some_iff.mp b
  exact (List.getElem_inj hN).mp (e1.trans e2.symm)
/-- a name is stored; what changed -/
theorem store_ok2 {M : Model} {A : Around} {E : Value → Shared → Prop} {i : Nat} {x : Str} {v : V} {u : Value} {Q : Unit → Shared → Prop} (I : Inv X pins σ H s) (hN : X.N.Nodup) (hi : X.N[i]? = some x) (hx : Loc X.env.scope x) (r : RelV v u)
    (h : ∀ s', Inv X pins (σ.set i (some v)) H s' → (∃ a, Heap.SameBut a s.heap s'.heap ∧ (a = X.env.locals ∨ X.env.cells.lookup x = some a)) → Q () s') (hf : X.fn x = true ∨ X.env.scope.names.lookup x = some .local := by first | exact .inl rfl | exact .inr rfl | assumption) : wpAny M A (storeName X.env x u) Q E s := by
  obtain ⟨m, hn, hl⟩ := id I.loc
  have hcls : (X.env.scope.kind == .class || (X.env.scope.kind == .module && X.env.locals != X.env.globals)) = false := by rw [I.ok.kind]; rfl
  have hiσ : i < σ.length := by rw [I.len]; exact (List.getElem?_eq_some_iff.mp hi).1
  have cne := I.cne
  have tracked : ∀ {a : Addr} {h' : Heap}, (∃ o, s.heap.get? a = some o ∧ H a = none) → Heap.SameBut a s.heap h' → HOk X.prog X.w H h' := fun {a h'} ha hs b ob e => by
    obtain ⟨_, _, hfree⟩ := ha
    refine (I.hok b ob e).stay (fun c w' hc q => (hs.2 c ?_).trans q) (fun _ q => q) fun _ _ q => q
    rintro rfl
    rcases hc with rfl | hc
    · rw [hfree] at e; cases e
    · rw [hfree] at hc; cases hc
  rcases hx with hk | hk
  · refine wpAny_storeName_local hk hn (fun h' hn' hs => ?_) hcls
    obtain ⟨oL, _, _, hoL, _⟩ := id hn
    refine h _ ⟨I.ok, I.os, I.bare, ⟨fun b o e n hb hx => ?_, fun b o e n hb hx => ?_, I.base.free, fun b o e hx => ?_, I.base.tups, I.base.frzs, I.base.tbls⟩, ⟨_, hn', fun j y v' e1 e2 e3 => ?_⟩, fun y c e => ?_, I.free, I.freeC, fun p hp => ?_, tracked ⟨oL, hoL, I.free⟩ hs, by simpa using I.len⟩ ⟨_, hs, .inl rfl⟩
    · exact (hs.2 b (Nat.ne_of_lt (Nat.lt_of_lt_of_le (Heap.lt_size e) I.ok.above))).trans (I.base.keep b o e n hb hx)
    · obtain ⟨sl, e1⟩ := I.base.slot b o e n hb hx
      exact ⟨sl, (hs.2 b (Nat.ne_of_lt (Nat.lt_of_lt_of_le (Heap.lt_size e) I.ok.above))).trans e1⟩
    · obtain ⟨o', e1⟩ := I.base.there b o e hx
      exact ⟨o', (hs.2 b (Nat.ne_of_lt (Nat.lt_of_lt_of_le (Heap.lt_size e) I.ok.above))).trans e1⟩
    · by_cases hj : j = i
      · subst hj
        rw [hi] at e1; cases e1
        rw [List.getElem?_set_self hiσ] at e2
        cases e2
        exact ⟨u, r, .inl ⟨hk, by simp⟩⟩
      · rw [List.getElem?_set_ne (Ne.symm hj)] at e2
        obtain ⟨u', r', q⟩ := hl j y v' e1 e2 e3
        refine ⟨u', r', ?_⟩
        rcases q with ⟨k, e⟩ | ⟨k, c, e, z⟩
        · refine .inl ⟨k, ?_⟩
          have : y ≠ x := fun e => hj (nodup_ix hN e1 (e ▸ hi))
          simp [this, e]
        · exact .inr ⟨k, c, e, z.sameBut hs (cne y c e)⟩
    · obtain ⟨w', z⟩ := I.cell y c e
      exact ⟨w', z.sameBut hs (cne y c e)⟩
    · obtain ⟨e, n, ne, nf, d⟩ := I.pin p hp
      exact ⟨(hs.2 p.1 ne).trans e, n, ne, nf, d⟩
  · have hfn : X.fn x = true := by
      rcases hf with z | z
      · exact z
      · rw [z] at hk; cases hk
    obtain ⟨c, hc⟩ := I.ok.has x (.inl hk)
    obtain ⟨w', z⟩ := I.cell x c hc
    refine wpAny_storeName_cell I.ok.kind hk hc z (fun h' hc' hs => ?_)
    obtain ⟨oc, hoc, hocd⟩ := id z
    refine h { s with heap := h' } ⟨I.ok, I.os, I.bare, ⟨fun b o e n hb hx => ?_, fun b o e n hb hx => ?_, I.base.free, fun b o e hx => ?_, I.base.tups, I.base.frzs, I.base.tbls⟩, ⟨m, hn.sameBut hs (Ne.symm (cne x c hc)), fun j y v' e1 e2 e3 => ?_⟩, fun y c' e => ?_, I.free, I.freeC, fun p hp => ?_, tracked ⟨oc, hoc, I.freeC x c hc⟩ hs, by simpa using I.len⟩ ⟨c, hs, .inr hc⟩
    · exact (hs.2 b (Nat.ne_of_lt (Nat.lt_of_lt_of_le (Heap.lt_size e) (I.ok.cab x c hfn hc)))).trans (I.base.keep b o e n hb hx)
    · obtain ⟨sl, e1⟩ := I.base.slot b o e n hb hx
      exact ⟨sl, (hs.2 b (Nat.ne_of_lt (Nat.lt_of_lt_of_le (Heap.lt_size e) (I.ok.cab x c hfn hc)))).trans e1⟩
    · obtain ⟨o', e1⟩ := I.base.there b o e hx
      exact ⟨o', (hs.2 b (Nat.ne_of_lt (Nat.lt_of_lt_of_le (Heap.lt_size e) (I.ok.cab x c hfn hc)))).trans e1⟩
    · by_cases hj : j = i
      · subst hj
        rw [hi] at e1; cases e1
        rw [List.getElem?_set_self hiσ] at e2
        cases e2
        exact ⟨u, r, .inr ⟨.inl hk, c, hc, hc'⟩⟩
      · rw [List.getElem?_set_ne (Ne.symm hj)] at e2
        obtain ⟨u', r', q⟩ := hl j y v' e1 e2 e3
        refine ⟨u', r', ?_⟩
        rcases q with q | ⟨k, c', e, z'⟩
        · exact .inl q
        · refine .inr ⟨k, c', e, z'.sameBut hs ?_⟩
          rintro rfl
          exact hj (nodup_ix hN e1 (I.ok.inj _ _ _ e hc ▸ hi))
    · by_cases hcc : c' = c
      · subst hcc; exact ⟨_, hc'⟩
      · obtain ⟨w2, z2⟩ := I.cell y c' e
        exact ⟨w2, z2.sameBut hs hcc⟩
    · obtain ⟨e, n, ne, nf, d⟩ := I.pin p hp
      refine ⟨(hs.2 p.1 ?_).trans e, n, ne, nf, d⟩
      intro q
      rw [q, hoc] at e
      have q' : oc = p.2 := Option.some.inj e
      exact d w' (by rw [← q']; exact hocd)
theorem store_ok {M : Model} {A : Around} {E : Value → Shared → Prop} {i : Nat} {x : Str} {v : V} {u : Value} {Q : Unit → Shared → Prop} (I : Inv X pins σ H s) (hN : X.N.Nodup) (hi : X.N[i]? = some x) (hx : Loc X.env.scope x) (r : RelV v u)
    (h : ∀ s', Inv X pins (σ.set i (some v)) H s' → Q () s') (hf : X.fn x = true ∨ X.env.scope.names.lookup x = some .local := by first | exact .inl rfl | exact .inr rfl | assumption) : wpAny M A (storeName X.env x u) Q E s :=
  store_ok2 I hN hi hx r (fun s' I' _ => h s' I') hf
/-- behind a call or a block, the state as it is -/
theorem Inv.call' {s' : Shared} {ch : List Addr} (I : Inv X pins σ H s) (ho : s'.os = s.os) (u : Un (frs X.stack) ch H H' s.heap s'.heap) (hok : HOk X.prog X.w H' s'.heap) (hg : AllBare s'.gens)
    (hch : ∀ b ∈ ch, (b ∈ X.ex ∨ X.s₀.heap.objs.size ≤ b) ∧ b ≠ X.env.locals ∧ (∀ x c, X.env.cells.lookup x = some c → c ≠ b) ∧ ∀ p ∈ X.pn ++ pins, p.1 ≠ b) : Inv X pins σ H' s' := by
  obtain ⟨h', g', d', t', o'⟩ := s'
  have e : o' = s.os := ho
  subst e
  exact I.call (g' := g') (t' := t') (d' := d') u hok hg hch
end
/-- an exception: its class, its own dict's address (where it has one), the abstract heap behind it -/
abbrev XK := Value → Option Addr → Hp → Prop
abbrev St := List (Option V)
abbrev VK := V → Hp → Prop
/-- an expression's reading; a test's; an argument list's -/
abbrev TE := St → Hp → VK → Prop
abbrev TT := St → Hp → (Bool → Hp → Prop) → Prop
abbrev TA := St → Hp → (List V → Hp → Prop) → Prop
/-- what is wanted behind a statement -/
structure Ends where
  nx : St → Hp → Prop
  rt : VK
  bk : St → Hp → Prop := fun _ _ => False
  ct : St → Hp → Prop := fun _ _ => False
abbrev TS := Ends → St → Hp → Prop
def EP (X : Cx) (pins : List (Addr × Obj)) (σ : St) (Q : VK) (u : Value) (s' : Shared) : Prop := ∃ v H', Inv X pins σ H' s' ∧ RelV v u ∧ Q v H'
def TP (X : Cx) (pins : List (Addr × Obj)) (σ : St) (Q : Bool → Hp → Prop) (b : Bool) (s' : Shared) : Prop := ∃ H', Inv X pins σ H' s' ∧ Q b H'
def AP (X : Cx) (pins : List (Addr × Obj)) (σ : St) (Q : List V → Hp → Prop) (us : List Value) (s' : Shared) : Prop := ∃ vs H', Inv X pins σ H' s' ∧ Vals vs us ∧ Q vs H'
def SP (X : Cx) (pins : List (Addr × Obj)) (D : Ends) (f : Flow) (s' : Shared) : Prop :=
  match f with
  | .next => ∃ σ' H', Inv X pins σ' H' s' ∧ D.nx σ' H'
  | .brk => ∃ σ' H', Inv X pins σ' H' s' ∧ D.bk σ' H'
  | .cont => ∃ σ' H', Inv X pins σ' H' s' ∧ D.ct σ' H'
  | .ret u => ∃ v σ' H', Inv X pins σ' H' s' ∧ RelV v u ∧ D.rt v H'
def PE (X : Cx) (e : Expr) (t : TE) : Prop :=
  ∀ (pins : List (Addr × Obj)) (s : Shared) (σ : St) (H : Hp) (Q : VK), Inv X pins σ H s → t σ H Q → wpAny (model X.prog X.w) X.A (eval e X.env) (EP X pins σ Q) X.xe s
def PT (X : Cx) (e : Expr) (t : TT) : Prop :=
  ∀ (pins : List (Addr × Obj)) (s : Shared) (σ : St) (H : Hp) (Q : Bool → Hp → Prop), Inv X pins σ H s → t σ H Q → wpAny (model X.prog X.w) X.A (isTrue e X.env (eval e X.env)) (TP X pins σ Q) X.xe s
/-- a test whatever its 'whole' is (and, or) -/
def PW (X : Cx) (e : Expr) (t : TT) : Prop :=
  ∀ (whole : Sem Value) (pins : List (Addr × Obj)) (s : Shared) (σ : St) (H : Hp) (Q : Bool → Hp → Prop), Inv X pins σ H s → t σ H Q → wpAny (model X.prog X.w) X.A (isTrue e X.env whole) (TP X pins σ Q) X.xe s
theorem PW.pt {X : Cx} {e : Expr} {t : TT} (h : PW X e t) : PT X e t := h _
/-- an argument list (no star), from the left -/
def PA (X : Cx) (es : List Expr) (t : TA) : Prop :=
  ∀ (pos : Pos) (pins : List (Addr × Obj)) (s : Shared) (σ : St) (H : Hp) (Q : List V → Hp → Prop), Inv X pins σ H s → t σ H Q → wpAny (model X.prog X.w) X.A (spliced (backTo pos (starEach es X.env))) (AP X pins σ Q) X.xe s
def PS (X : Cx) (st : Stmt) (t : TS) : Prop :=
  ∀ (pins : List (Addr × Obj)) (s : Shared) (σ : St) (H : Hp) (D : Ends), Inv X pins σ H s → t D σ H → wpAny (model X.prog X.w) X.A (exec st X.env) (SP X pins D) X.xe s
def PSs (X : Cx) (st : List Stmt) (t : TS) : Prop :=
  ∀ (pins : List (Addr × Obj)) (s : Shared) (σ : St) (H : Hp) (D : Ends), Inv X pins σ H s → t D σ H → wpAny (model X.prog X.w) X.A (execs st X.env) (SP X pins D) X.xe s
/-- weaken the end -/
theorem thn {α : Type} {t : Sem α} {Q Q' : α → Shared → Prop} {M : Model} {A : Around} {E : Value → Shared → Prop} {s : Shared} (h : wpAny M A t Q E s) (hQ : ∀ a s, Q a s → Q' a s) : wpAny M A t Q' E s := wpAny_mono h hQ fun _ _ x => x
end L2
namespace L2
open PySem PySem.Spec PyProof.Rows
section
variable {X : Cx}
/-- two expressions in a row -/
theorem bin {a b : Expr} {ta tb : TE} (ha : PE X a ta) (hb : PE X b tb) {pins : List (Addr × Obj)} {s : Shared} {σ : St} {H : Hp} {R : V → V → Hp → Prop} (I : Inv X pins σ H s) (h : ta σ H fun x H1 => tb σ H1 fun y H2 => R x y H2)
    {α : Type} {Q : α → Shared → Prop} {f : Value → Value → Sem α}
    (hf : ∀ v u s2 x y H2, Inv X pins σ H2 s2 → RelV x v → RelV y u → R x y H2 → wpAny (model X.prog X.w) X.A (f v u) Q X.xe s2) :
    wpAny (model X.prog X.w) X.A (eval a X.env) (fun v s₁ => wpAny (model X.prog X.w) X.A (eval b X.env) (fun u s₂ => wpAny (model X.prog X.w) X.A (f v u) Q X.xe s₂) X.xe s₁) X.xe s := by
  refine thn (ha pins s σ H _ I h) fun v s1 ⟨x, H1, I1, r1, q1⟩ => ?_
  refine thn (hb pins s1 σ H1 _ I1 q1) fun u s2 ⟨y, H2, I2, r2, q2⟩ => ?_
  exact hf v u s2 x y H2 I2 r1 r2 q2
def tVar (i : Nat) : TE := fun σ H Q => ∃ v, σ[i]? = some (some v) ∧ Q v H
def tC (v : V) : TE := fun _ H Q => Q v H
theorem pe_var {i : Nat} {x : Str} {pos : Pos} (hN : X.N[i]? = some x) (hv : Vis X.env.scope x) (hd : (x == ("__debug__" : Str)) = false := by decide) (hcd : (x == ("__classdict__" : Str)) = false := by decide) : PE X (.Name x pos) (tVar i) := by
  intro pins s σ H Q I h
  obtain ⟨v, e, h⟩ := h
  obtain ⟨m, hn, hl⟩ := I.loc
  obtain ⟨u, r, l⟩ := hl i x v hN e hv
  have fin : EP X pins σ Q u s := ⟨v, H, I, r, h⟩
  rcases l with ⟨hk, hm⟩ | ⟨hk, c, hc, hcell⟩
  · exact wpAny_Name (wpAny_loadName_local I.ok.kind hk hn hm fin) hd
  · rcases hk with hk | hk
    · exact wpAny_Name (wpAny_loadName_cell I.ok.kind hk hc hcell fin) hd
    · exact wpAny_Name (wpAny_loadName_free I.ok.kind hk hc hcell fin hcd) hd
theorem pe_int {i j pos} : PE X (.Constant (.int i) j pos) (tC (.int i)) := fun _ _ _ H _ I h => wpAny_Constant_int ⟨.int i, H, I.tok _, ⟨_, rfl⟩, h⟩
theorem pe_bl {b j pos} : PE X (.Constant (.bool b) j pos) (tC (.bl b)) := fun _ _ _ H _ I h => Constant_bool ⟨.bl b, H, I, rfl, h⟩
theorem pe_non {j pos} : PE X (.Constant .none j pos) (tC .non) := fun _ _ _ H _ I h => Constant_none ⟨.non, H, I, rfl, h⟩
/-- a global name of the def -/
def Gl (X : Cx) (x : Str) : Prop := X.env.kindOf x = some .globalImplicit
theorem ld_glob {E : Value → Shared → Prop} {pins : List (Addr × Obj)} {s : Shared} {σ : St} {H : Hp} {x : Str} {u : Value} {pos : Pos} {Q : Value → Shared → Prop} (I : Inv X pins σ H s) (hg : Gl X x) (hm : X.mg x = some u) (h : Q u s)
    (hd : (x == ("__debug__" : Str)) = false := by decide) : wpAny (model X.prog X.w) X.A (eval (.Name x pos) X.env) Q E s :=
  Calls.Name_function_global I.ok.kind hg (Calls.loadGlobal_global (by rw [I.ok.glob]; exact I.mod.glob.keeps I.bk) hm h) hd
theorem ld_blt {E : Value → Shared → Prop} {pins : List (Addr × Obj)} {s : Shared} {σ : St} {H : Hp} {x : Str} {u : Value} {pos : Pos} {Q : Value → Shared → Prop} (I : Inv X pins σ H s) (hg : Gl X x) (hm : X.mg x = none) (hv : bootBuiltins x = some u) (h : Q u s)
    (hn : x ≠ "__name__" := by decide) (hd : (x == ("__debug__" : Str)) = false := by decide) : wpAny (model X.prog X.w) X.A (eval (.Name x pos) X.env) Q E s := by
  obtain ⟨mb, h1, h2⟩ := I.mod.blt
  exact Calls.Name_function_global I.ok.kind hg (Calls.loadGlobal_builtin (by rw [I.ok.glob]; exact I.mod.glob.keeps I.bk) hm (by rw [I.ok.blt]; exact h1.keeps I.bk) ((h2 x hn).trans hv) h) hd
/-- a module's constant, a class, a function, as a value -/
theorem pe_glob {x : Str} {v : V} {u : Value} {pos : Pos} (hg : Gl X x) (hm : X.mg x = some u) (r : RelV v u) (hd : (x == ("__debug__" : Str)) = false := by decide) : PE X (.Name x pos) (tC v) :=
  fun _ _ _ H _ I h => ld_glob I hg hm ⟨v, H, I, r, h⟩ hd
variable {a b : Expr} {ta tb : TE} {pos : Pos}
def PC (X : Cx) (op : CmpOp) (a b : Expr) (t : TE) : Prop :=
  ∀ (pins : List (Addr × Obj)) (s : Shared) (σ : St) (H : Hp) (Q : VK), Inv X pins σ H s → t σ H Q →
    wpAny (model X.prog X.w) X.A (eval a X.env) (fun v s₁ => wpAny (model X.prog X.w) X.A (eval b X.env) (fun u s₂ => wpAny (model X.prog X.w) X.A (compareOp op v u) (EP X pins σ Q) X.xe s₂) X.xe s₁) X.xe s
theorem nobehind (b : Expr) {op : CmpOp} (h : op ≠ .In) (h2 : op ≠ .NotIn) : behindInMarks op b = false := by
  have e1 : (op == CmpOp.In) = false := by cases op <;> first | rfl | exact absurd rfl h
  have e2 : (op == CmpOp.NotIn) = false := by cases op <;> first | rfl | exact absurd rfl h2
  cases b <;> simp [behindInMarks, e1, e2]
/-- is None -/
def tIsN (ta : TE) : TE := fun σ H Q => ta σ H fun x H1 => Q (.bl (decide (x = .non))) H1
def tNotN (ta : TE) : TE := fun σ H Q => ta σ H fun x H1 => Q (.bl (!decide (x = .non))) H1
theorem RelV.none_iff {x : V} {v : Value} (r : RelV x v) : (v == Value.none) = decide (x = .non) := by
  cases x with
  | non => cases r; rfl
  | bl _ => cases r; rfl
  | int _ => obtain ⟨t, rfl⟩ := r; rfl
  | str _ => obtain ⟨t, rfl⟩ := r; rfl
  | byt _ => obtain ⟨t, rfl⟩ := r; rfl
  | flt _ => obtain ⟨t, rfl⟩ := r; rfl
  | ref _ => cases r; rfl
  | ty _ => cases r; rfl
theorem pc_isN {j pos'} (ha : PE X a ta) : PC X .Is a (.Constant .none j pos') (tIsN ta) := by
  intro pins s σ H Q I h
  refine thn (ha pins s σ H _ I h) fun v s1 ⟨x, H1, I1, r1, q1⟩ => ?_
  exact Constant_none (is_none_gen ⟨.bl _, H1, I1, by rw [r1.none_iff]; rfl, q1⟩)
theorem pc_notN {j pos'} (ha : PE X a ta) : PC X .IsNot a (.Constant .none j pos') (tNotN ta) := by
  intro pins s σ H Q I h
  refine thn (ha pins s σ H _ I h) fun v s1 ⟨x, H1, I1, r1, q1⟩ => ?_
  exact Constant_none (isnot_none_gen ⟨.bl _, H1, I1, by rw [r1.none_iff]; rfl, q1⟩)
/-- a comparison as a value, as a test -/
def tB (t : TE) : TT := fun σ H Q => t σ H fun x H1 => ∃ c, x = .bl c ∧ Q c H1
theorem pt_cmp {op : CmpOp} {t : TE} (h : PC X op a b t) (h1 : behindInMarks op b = false := by first | exact nobehind _ (by decide) (by decide) | rfl) : PT X (.Compare a [op] [b] pos) (tB t) := by
  intro pins s σ H Q I hw
  refine wpAny_isTrue_Compare1 (thn (h pins s σ H _ I hw) fun v s1 h1 => thn h1 fun u s2 h2 => thn h2 fun c s3 ⟨x, H1, I1, r1, q1⟩ => ?_) h1
  obtain ⟨d, rfl, q⟩ := q1
  cases r1
  exact wpAny_truthy_bool ⟨H1, I1, q⟩
/-- an expression whose value is a bool, as a test -/
theorem pt_val {e : Expr} {t : TE} (h : PE X e t) (he : ∀ whole, isTrue e X.env whole = (do let v ← whole; standAt e.pos; holding [v] (truthy v)) := by intro _; rfl) : PT X e (tB t) := by
  intro pins s σ H Q I hw
  refine isTrue_plain (thn (h pins s σ H _ I hw) fun v s1 ⟨x, H1, I1, r1, q1⟩ => ?_) (he _)
  obtain ⟨d, rfl, q⟩ := q1
  cases r1
  exact wpAny_truthy_bool ⟨H1, I1, q⟩
variable {tA tB' : TT} {rest : List Expr}
def tAnd (t u : TT) : TT := fun σ H Q => t σ H fun c H1 => if c = true then u σ H1 Q else Q false H1
def tOr (t u : TT) : TT := fun σ H Q => t σ H fun c H1 => if c = true then Q true H1 else u σ H1 Q
def tNot (t : TT) : TT := fun σ H Q => t σ H fun c H1 => Q (!c) H1
theorem pw_and1 (ha : PT X a tA) : PW X (.BoolOp .And [a] pos) tA := by
  intro wh pins s σ H Q I h
  refine isTrue_and (thn (ha pins s σ H Q I h) fun c s1 e => ?_)
  cases c with
  | true => exact isTrue_and_nil e
  | false => exact e
theorem pw_or1 (ha : PT X a tA) : PW X (.BoolOp .Or [a] pos) tA := by
  intro wh pins s σ H Q I h
  refine isTrue_or (thn (ha pins s σ H Q I h) fun c s1 e => ?_)
  cases c with
  | false => exact isTrue_or_nil e
  | true => exact e
theorem pw_and (ha : PT X a tA) (hb : PW X (.BoolOp .And (b :: rest) pos) tB') : PW X (.BoolOp .And (a :: b :: rest) pos) (tAnd tA tB') := by
  intro wh pins s σ H Q I h
  refine isTrue_and (thn (ha pins s σ H _ I h) fun c s1 ⟨H1, I1, q1⟩ => ?_)
  cases c with
  | true => exact hb wh pins s1 σ H1 Q I1 q1
  | false => exact ⟨H1, I1, q1⟩
theorem pw_or (ha : PT X a tA) (hb : PW X (.BoolOp .Or (b :: rest) pos) tB') : PW X (.BoolOp .Or (a :: b :: rest) pos) (tOr tA tB') := by
  intro wh pins s σ H Q I h
  refine isTrue_or (thn (ha pins s σ H _ I h) fun c s1 ⟨H1, I1, q1⟩ => ?_)
  cases c with
  | true => exact ⟨H1, I1, q1⟩
  | false => exact hb wh pins s1 σ H1 Q I1 q1
theorem pt_not (ha : PT X a tA) : PT X (.UnaryOp .Not a pos) (tNot tA) := by
  intro pins s σ H Q I h
  exact isTrue_not (ha pins s σ H (fun c H1 => Q (!c) H1) I h)
/-- a if t else b -/
def tIf (t : TT) (ta tb : TE) : TE := fun σ H Q => t σ H fun c H1 => if c = true then ta σ H1 Q else tb σ H1 Q
theorem pe_ifExp {c : Expr} (hc : PT X c tA) (ha : PE X a ta) (hb : PE X b tb) : PE X (.IfExp c a b pos) (tIf tA ta tb) := by
  intro pins s σ H Q I h
  refine wpAny_IfExp (thn (hc pins s σ H _ I h) fun d s1 ⟨H1, I1, q1⟩ => ?_)
  cases d with
  | true => exact ha pins s1 σ H1 Q I1 q1
  | false => exact hb pins s1 σ H1 Q I1 q1
end
end L2
namespace L2
open PySem PySem.Spec PyProof.Rows
def SqL (K : PySem.W.Frag) (H : Hp) (a : Addr) (xs : List V) : Prop :=
  Rd H a (.lst xs) ∨
    ∃ (o : Obj) (its : Array Value) (n : Nat), K.lookup a = some o ∧ o.cls = .type "list" ∧ o.dict = none ∧ o.data = .seq its n ∧ its.size ≤ sizeLine ∧ Vals xs its.toList
def SqT (K : PySem.W.Frag) (H : Hp) (a : Addr) (xs : List V) : Prop :=
  Rd H a (.tup xs) ∨
    ∃ (o : Obj) (its : Array Value) (n : Nat), K.lookup a = some o ∧ o.cls = .type "tuple" ∧ o.data = .seq its n ∧ its.size ≤ sizeLine ∧ Vals xs its.toList
def absV : Value → Option V
  | .none => some .non
  | .bool b => some (.bl b)
  | .int i _ => some (.int i)
  | .str x _ => some (.str x)
  | .bytes b _ => some (.byt b)
  | .float b _ => some (.flt b)
  | .ref a => some (.ref a)
  | .type n => some (.ty n)
  | _ => none
theorem RelV.abs {x : V} {u : Value} (r : RelV x u) : absV u = some x := by
  cases x with
  | non => cases r; rfl
  | bl _ => cases r; rfl
  | int _ => obtain ⟨t, rfl⟩ := r; rfl
  | str _ => obtain ⟨t, rfl⟩ := r; rfl
  | byt _ => obtain ⟨t, rfl⟩ := r; rfl
  | flt _ => obtain ⟨t, rfl⟩ := r; rfl
  | ref _ => cases r; rfl
  | ty _ => cases r; rfl
theorem RelV.inj {x y : V} {u : Value} (r : RelV x u) (q : RelV y u) : x = y := Option.some.inj (r.abs.symm.trans q.abs)
theorem Vals.inj : ∀ {xs ys : List V} {us : List Value}, Vals xs us → Vals ys us → xs = ys
  | _, _, _, .nil, .nil => rfl
  | _, _, _, .cons r t, .cons r' t' => by rw [r.inj r', Vals.inj t t']
section
variable {X : Cx} {pins : List (Addr × Obj)} {σ : St} {H : Hp} {s : Shared} {a : Addr} {xs ys : List V}
theorem SqL.of {K : PySem.W.Frag} (h : H a = some (.lst xs)) : SqL K H a xs := .inl (.inl h)
theorem SqT.of {K : PySem.W.Frag} (h : H a = some (.tup xs)) : SqT K H a xs := .inl (.inl h)
theorem Inv.list (I : Inv X pins σ H s) (h : SqL X.K H a xs) : ∃ its : List Value, Vals xs its ∧ PlainL s.heap a its.toArray ∧ xs.length ≤ sizeLine := by
  rcases h with h | ⟨o, its, n, hk, hc, hd, hs, hz, r⟩
  · obtain ⟨z, its, n, r, e⟩ := h.ok I.hok
    exact ⟨its, r, ⟨_, n, e, rfl, rfl, rfl⟩, z⟩
  · refine ⟨its.toList, r, ⟨o, n, I.kIn a o hk, hc, hd, by simpa using hs⟩, ?_⟩
    have e := r.length
    simp only [Array.length_toList] at e
    omega
theorem Inv.tuple (I : Inv X pins σ H s) (h : SqT X.K H a xs) : ∃ its : List Value, Vals xs its ∧ IsTup s.heap a its.toArray ∧ xs.length ≤ sizeLine := by
  rcases h with h | ⟨o, its, n, hk, hc, hs, hz, r⟩
  · obtain ⟨z, its, r, p⟩ := h.ok I.hok
    exact ⟨its, r, p, z⟩
  · refine ⟨its.toList, r, ⟨o, I.kIn a o hk, hc, n, by simpa using hs⟩, ?_⟩
    have e := r.length
    simp only [Array.length_toList] at e
    omega
theorem Inv.list_inj (I : Inv X pins σ H s) (h : SqL X.K H a xs) (h' : SqL X.K H a ys) : xs = ys := by
  obtain ⟨its, r, ⟨o, n, e, _, _, d⟩, _⟩ := I.list h
  obtain ⟨its', r', ⟨o', n', e', _, _, d'⟩, _⟩ := I.list h'
  rw [e] at e'; cases e'
  rw [d] at d'
  injection d' with d1 _
  have : its = its' := by simpa using congrArg Array.toList d1
  subst this
  exact r.inj r'
end
abbrev Cx.wish (X : Cx) (E : Value → Shared → Prop) : Cx := { X with xe := E }
/-- no exception leaves -/
abbrev Cx.nox (X : Cx) : Cx := X.wish fun _ _ => False
theorem Cx.Ok.wish {X : Cx} (ok : X.Ok) (E : Value → Shared → Prop) : (X.wish E).Ok :=
  ⟨ok.mod, ok.kind, ok.glob, ok.blt, ok.above, ok.inj, ok.has, ok.cab, ok.hd, ok.frames, ok.stk, ok.exf, ok.bs, ok.bsz, ok.noex, ok.exfs, ok.funs, ok.frf⟩
theorem Cx.Ok.unwish {X : Cx} {E : Value → Shared → Prop} (ok : (X.wish E).Ok) : X.Ok :=
  ⟨ok.mod, ok.kind, ok.glob, ok.blt, ok.above, ok.inj, ok.has, ok.cab, ok.hd, ok.frames, ok.stk, ok.exf, ok.bs, ok.bsz, ok.noex, ok.exfs, ok.funs, ok.frf⟩
section
variable {X : Cx} {pins : List (Addr × Obj)} {σ : St} {H : Hp} {s : Shared} {E : Value → Shared → Prop}
theorem Inv.wish (I : Inv X pins σ H s) (E : Value → Shared → Prop) : Inv (X.wish E) pins σ H s := ⟨I.ok.wish E, I.os, I.bare, I.base, I.loc, I.cell, I.free, I.freeC, I.pin, I.hok, I.len⟩
theorem Inv.unwish (I : Inv (X.wish E) pins σ H s) : Inv X pins σ H s := ⟨I.ok.unwish, I.os, I.bare, I.base, I.loc, I.cell, I.free, I.freeC, I.pin, I.hok, I.len⟩
theorem SP.unwish {D : Ends} {f : Flow} {s' : Shared} (h : SP (X.wish E) pins D f s') : SP X pins D f s' := by
  cases f with
  | next => obtain ⟨σ', H', I, q⟩ := h; exact ⟨σ', H', I.unwish, q⟩
  | brk => obtain ⟨σ', H', I, q⟩ := h; exact ⟨σ', H', I.unwish, q⟩
  | cont => obtain ⟨σ', H', I, q⟩ := h; exact ⟨σ', H', I.unwish, q⟩
  | ret u => obtain ⟨v, σ', H', I, r, q⟩ := h; exact ⟨v, σ', H', I.unwish, r, q⟩
theorem PSs.nox {st : List Stmt} {t : TS} (h : PSs X.nox st t) : PSs X st t := fun pins s σ H D I hw =>
  wpAny_mono (h pins s σ H D (I.wish _) hw) (fun _ _ q => q.unwish) fun _ _ z => False.elim z
end
section
variable {X : Cx} {st : Stmt} {rest : List Stmt} {t u : TS} {e : Expr} {te : TE} {pos : Pos}
def tNext : TS := fun D σ H => D.nx σ H
def tSeq (t u : TS) : TS := fun D σ H => t { D with nx := u D } σ H
theorem pss_nil : PSs X [] tNext := fun _ _ σ H _ I h => wpAny_execs_nil ⟨σ, H, I, h⟩
theorem pss_cons (h1 : PS X st t) (h2 : PSs X rest u) : PSs X (st :: rest) (tSeq t u) := by
  intro pins s σ H D I h
  refine wpAny_execs_cons (thn (h1 pins s σ H { D with nx := u D } I h) fun f s1 q => ?_)
  cases f with
  | next =>
    obtain ⟨σ', H', I', q⟩ := q
    exact h2 pins s1 σ' H' D I' q
  | ret v => exact q
  | brk => exact q
  | cont => exact q
theorem pss_one (h1 : PS X st t) : PSs X [st] t := by
  intro pins s σ H D I h
  refine wpAny_execs_cons (thn (h1 pins s σ H D I h) fun f s1 q => ?_)
  cases f with
  | next => exact wpAny_execs_nil q
  | ret v => exact q
  | brk => exact q
  | cont => exact q
/-- in a def's body nothing is shown -/
theorem Inv.quiet {pins : List (Addr × Obj)} {σ : St} {H : Hp} {s : Shared} (I : Inv X pins σ H s) : interactive X.env = false := by simp [interactive, I.ok.kind]
/-- an expression whose value is dropped -/
def tDrop (te : TE) : TS := fun D σ H => te σ H fun _ H1 => D.nx σ H1
theorem ps_expr (he : PE X e te) (hs : swapsWith e none pos.line X.env = pure false := by rfl) : PS X (.Expr e pos) (tDrop te) := by
  intro pins s σ H D I h
  exact wpAny_Expr_any (thn (he pins s σ H _ I h) fun v s1 ⟨x, H1, I1, r1, q1⟩ => ⟨σ, H1, I1, q1⟩) I.quiet hs
def tRet (te : TE) : TS := fun D σ H => te σ H D.rt
theorem ps_ret (he : PE X e te) : PS X (.Return (some e) pos) (tRet te) := by
  intro pins s σ H D I h
  exact wpAny_Return_some (thn (he pins s σ H _ I h) fun v s1 ⟨x, H1, I1, r1, q1⟩ => ⟨x, σ, H1, I1, r1, q1⟩)
def tIfS (c : TT) (t u : TS) : TS := fun D σ H => c σ H fun b H1 => if b = true then t D σ H1 else u D σ H1
theorem ps_if {c : Expr} {a b : List Stmt} {tc : TT} (hc : PT X c tc) (ha : PSs X a t) (hb : PSs X b u) : PS X (.If c a b pos) (tIfS tc t u) := by
  intro pins s σ H D I h
  refine wpAny_If (thn (hc pins s σ H _ I h) fun d s1 ⟨H1, I1, q1⟩ => ?_)
  cases d with
  | true => exact ha pins s1 σ H1 D I1 q1
  | false => exact hb pins s1 σ H1 D I1 q1
end
abbrev TG := V → St → Hp → (St → Hp → Prop) → Prop
abbrev TGs := List V → St → Hp → (St → Hp → Prop) → Prop
def PG (X : Cx) (target : Expr) (t : TG) : Prop :=
  ∀ (pins : List (Addr × Obj)) (s : Shared) (σ : St) (H : Hp) (v : V) (u : Value) (Q : St → Hp → Prop), Inv X pins σ H s → RelV v u → t v σ H Q →
    wpAny (model X.prog X.w) X.A (assign target X.env u) (fun _ s' => ∃ σ' H', Inv X pins σ' H' s' ∧ Q σ' H') X.xe s
/-- several targets, one after another -/
def PGs (X : Cx) (ts : List Expr) (t : TGs) : Prop :=
  ∀ (pins : List (Addr × Obj)) (s : Shared) (σ : St) (H : Hp) (vs : List V) (us : List Value) (Q : St → Hp → Prop), Inv X pins σ H s → Vals vs us → t vs σ H Q →
    wpAny (model X.prog X.w) X.A (assignInOrder ((assignEach ts X.env).map (·.2)) us) (fun _ s' => ∃ σ' H', Inv X pins σ' H' s' ∧ Q σ' H') X.xe s
/-- o[i] = v, by values -/
abbrev TSet := V → V → V → Hp → (Hp → Prop) → Prop
def PSet (X : Cx) (t : TSet) : Prop :=
  ∀ (pins : List (Addr × Obj)) (s : Shared) (σ : St) (H : Hp) (o i v : V) (ov iv u : Value) (Q : Hp → Prop), Inv X pins σ H s → RelV o ov → RelV i iv → RelV v u → t o i v H Q →
    wpAny (model X.prog X.w) X.A (setItem ov iv u) (fun _ s' => ∃ H', Inv X pins σ H' s' ∧ Q H') X.xe s
section
variable {X : Cx} {pos : Pos}
def gName (i : Nat) : TG := fun v σ H Q => Q (σ.set i (some v)) H
theorem pg_name {i : Nat} {x : Str} (hN : X.N.Nodup) (hi : X.N[i]? = some x) (hx : Loc X.env.scope x) (hf : X.fn x = true ∨ X.env.scope.names.lookup x = some .local := by first | exact .inl rfl | exact .inr rfl | assumption) : PG X (.Name x pos) (gName i) := by
  intro pins s σ H v u Q I r h
  exact wpAny_assign_Name (store_ok I hN hi hx r (fun s' I' => ⟨_, H, I', h⟩) hf)
def gNil : TGs := fun vs σ H Q => vs = [] ∧ Q σ H
def gCons (t : TG) (u : TGs) : TGs := fun vs σ H Q => ∃ v r, vs = v :: r ∧ t v σ H fun σ' H' => u r σ' H' Q
theorem pgs_nil : PGs X [] gNil := by
  intro pins s σ H vs us Q I r h
  obtain ⟨e, h⟩ := h
  subst e
  cases r
  exact assignInOrder_nil ⟨σ, H, I, h⟩
theorem pgs_cons {e : Expr} {es : List Expr} {t : TG} {u : TGs} (h1 : PG X e t) (h2 : PGs X es u)
    (hs : (assignEach (e :: es) X.env).map (·.2) = assign e X.env :: (assignEach es X.env).map (·.2) := by rfl) : PGs X (e :: es) (gCons t u) := by
  intro pins s σ H vs us Q I r h
  obtain ⟨v, vr, e1, h⟩ := h
  subst e1
  cases r with
  | cons r rr =>
    rw [hs]
    refine assignInOrder_cons (thn (h1 pins s σ H _ _ _ I r h) fun _ s1 ⟨σ1, H1, I1, q1⟩ => ?_)
    exact h2 pins s1 σ1 H1 _ _ Q I1 rr q1
/-- (a, b, ..) = a tuple of that length -/
def gTup (K : PySem.W.Frag) (n : Nat) (t : TGs) : TG := fun v σ H Q => ∃ a xs, v = .ref a ∧ SqT K H a xs ∧ xs.length = n ∧ t xs σ H Q
theorem pg_tup {es : List Expr} {k : Nat} {t : TGs} {n : Nat} (hc : X.calm = true) (h : PGs X es t)
    (hn : (assignEach es X.env).length = n := by rfl) (hst : (assignEach es X.env).findIdx? (·.1) = none := by rfl) : PG X (.Tuple es k pos) (gTup X.K n t) := by
  intro pins s σ H v u Q I r hw
  obtain ⟨a, xs, e1, hq, hl, hw⟩ := hw
  subst e1
  cases r
  obtain ⟨its, rv, ht, hz⟩ := I.tuple hq
  refine assign_Tuple_tuple (I.ok.hd hc) ht (by simp [hn, ← hl, rv.length]) hst fun h' hx => ?_
  have I1 : Inv X pins σ H { s with heap := h' } := I.kept (t' := s.toks) fun b o e => hx b o (Nat.ne_of_lt (Heap.lt_size e)) e
  exact h pins _ σ H xs _ Q I1 (by simpa using rv) hw
/-- o[i] = .. -/
def gSub (to ti : TE) (t : TSet) : TG := fun v σ H Q => to σ H fun o H1 => ti σ H1 fun i H2 => t o i v H2 fun H3 => Q σ H3
theorem pg_sub {o i : Expr} {to ti : TE} {t : TSet} (ho : PE X o to) (hi : PE X i ti) (hs : PSet X t)
    (ha : ∀ v, assign (.Subscript o i pos) X.env v = (do
      let ov ← holding [v] (eval o X.env)
      let iv ← holding [v, ov] (eval i X.env)
      standAt pos
      holding [v, ov, iv] (setItem ov iv v)
      release [v, ov, iv] []) := by intro _; rfl) : PG X (.Subscript o i pos) (gSub to ti t) := by
  intro pins s σ H v u Q I r h
  rw [ha]
  refine wpAny_bind (wpAny_holding (thn (ho pins s σ H _ I h) fun ov s1 ⟨x, H1, I1, r1, q1⟩ => ?_))
  refine wpAny_bind (wpAny_holding (thn (hi pins s1 σ H1 _ I1 q1) fun iv s2 ⟨y, H2, I2, r2, q2⟩ => ?_))
  refine wpAny_bind (wpAny_standAt (wpAny_bind (wpAny_holding (thn (hs pins s2 σ H2 x y v ov iv u _ I2 r1 r2 r q2) fun _ s3 ⟨H3, I3, q3⟩ => ?_))))
  exact wpAny_release ⟨σ, H3, I3, q3⟩
/-- target = value -/
def tAsg (te : TE) (g : TG) : TS := fun D σ H => te σ H fun x H1 => g x σ H1 D.nx
theorem ps_asg {tg e : Expr} {te : TE} {g : TG} (he : PE X e te) (hg : PG X tg g) (hs : swapsWithSole [tg] e pos.line X.env = pure false := by rfl) (hw : swappedStores [tg] e X.env = pure none := by rfl)
    (h1 : (assignEach [tg] X.env).map (·.2) = [assign tg X.env] := by rfl) : PS X (.Assign [tg] e pos) (tAsg te g) := by
  intro pins s σ H D I h
  refine wpAny_Assign_stores (thn (he pins s σ H _ I h) fun v s1 ⟨x, H1, I1, r1, q1⟩ => ?_) hs hw
  rw [h1]
  exact thn (hg pins s1 σ H1 x v _ I1 r1 q1) fun _ s2 q => q
/-- name = value -/
theorem ps_set {i : Nat} {x : Str} {e : Expr} {te : TE} {pos' : Pos} (hN : X.N.Nodup) (hi : X.N[i]? = some x) (hx : Loc X.env.scope x) (he : PE X e te) (hs : swapsWith e (some (.Name x pos')) pos.line X.env = pure false := by rfl) (hf : X.fn x = true ∨ X.env.scope.names.lookup x = some .local := by first | exact .inl rfl | exact .inr rfl | assumption) :
    PS X (.Assign [.Name x pos'] e pos) (tAsg te (gName i)) := by
  intro pins s σ H D I h
  refine wpAny_Assign_Name (thn (he pins s σ H _ I h) fun v s1 ⟨y, H1, I1, r1, q1⟩ => ?_) hs
  exact store_ok I1 hN hi hx r1 (fun s2 I2 => ⟨_, H1, I2, q1⟩) hf
end
section
variable {X : Cx} {pos : Pos}
/-- the invariant W with its measure -/
def tWhile (c : TT) (tb : TS) : TS := fun D σ H => ∃ W : Nat → St → Hp → Prop, (∃ m, W m σ H) ∧ ∀ m σ H, W m σ H →
  c σ H fun b H1 => if b = true then ∃ N : St → Hp → Prop, (∀ σ' H', N σ' H' → ∃ m', m' < m ∧ W m' σ' H') ∧ tb { D with nx := N, ct := N, bk := D.nx } σ H1 else D.nx σ H1
theorem ps_while {c : Expr} {body : List Stmt} {tc : TT} {tb : TS} (hp : PassesOwn (model X.prog X.w) X.A X.env X.xe) (hc : PT X c tc) (hb : PSs X body tb) : PS X (.While c body [] pos) (tWhile tc tb) := by
  intro pins s σ H D I h
  obtain ⟨W, ⟨m0, w0⟩, turn⟩ := h
  refine wpAny_While (codeAny_whileLoop (fun n s' => ∃ σ' H', Inv X pins σ' H' s' ∧ W n σ' H') ?_ m0 ⟨σ, H, I, w0⟩)
  rintro n s1 ⟨σ1, H1, I1, w1⟩
  refine wpAny_passesOwn hp (thn (hc pins s1 σ1 H1 _ I1 (turn n σ1 H1 w1)) fun b s2 ⟨H2, I2, q2⟩ => ?_)
  cases b with
  | true =>
    obtain ⟨N, hN, q2⟩ := q2
    rw [if_pos rfl]
    refine wpAny_passesOwn hp (thn (hb pins s2 σ1 H2 _ I2 q2) fun f s3 q3 => ?_)
    cases f with
    | next =>
      obtain ⟨σ3, H3, I3, n3⟩ := q3
      obtain ⟨m', hm, w3⟩ := hN σ3 H3 n3
      exact ⟨m', hm, σ3, H3, I3, w3⟩
    | cont =>
      obtain ⟨σ3, H3, I3, n3⟩ := q3
      obtain ⟨m', hm, w3⟩ := hN σ3 H3 n3
      exact ⟨m', hm, σ3, H3, I3, w3⟩
    | brk => exact q3
    | ret v => exact q3
  | false =>
    rw [if_neg Bool.false_ne_true]
    exact wpAny_execs_nil ⟨σ1, H2, I2, q2⟩
end
/-- at turn i: it yields x (the heap may grow), or it stops -/
structure It where
  go : Nat → Hp → Prop
  yld : Nat → Hp → V → Hp → Prop
  stop : Nat → Hp → Prop
/-- the iterator's own objects may turn: they are not the frame's, not pinned, younger than the entry (or a comprehension's own) -/
def FpOk (X : Cx) (pins : List (Addr × Obj)) (H : Hp) (b : Addr) : Prop :=
  H b = none ∧ b ≠ X.env.locals ∧ b ∉ X.fs ∧ (b ∈ X.ex ∨ X.s₀.heap.objs.size ≤ b) ∧ (∀ x c, X.env.cells.lookup x = some c → c ≠ b) ∧ ∀ p ∈ X.pn ++ pins, p.1 ≠ b
theorem Inv.fpOk {X : Cx} {pins : List (Addr × Obj)} {σ : St} {H H' : Hp} {s : Shared} {b : Addr} (I : Inv X pins σ H s) (hb : s.heap.objs.size ≤ b) (hn : H' b = none) : FpOk X pins H' b := by
  refine ⟨hn, Nat.ne_of_gt (Nat.lt_of_lt_of_le I.lt hb), I.nofs hb, .inr (Nat.le_trans I.sz hb), fun x c e z => ?_, fun p hp z => ?_⟩
  · obtain ⟨v, q⟩ := I.cell x c e
    exact absurd (Nat.lt_of_lt_of_le q.lt (by rw [z]; exact hb)) (Nat.lt_irrefl _)
  · exact absurd (Nat.lt_of_lt_of_le (Heap.lt_size (I.pin p hp).1) (by rw [z]; exact hb)) (Nat.lt_irrefl _)
structure Turn (P : Program) (w : World) (K : PySem.W.Frag) (tg : Expr) (J : It) (fp : List Addr) (it : Addr) (tn : Nat → Heap → Prop) : Prop where
  mem : it ∈ fp
  obj : ∀ i h, tn i h → ∀ b ∈ fp, ∃ o, h.get? b = some o ∧ ∀ v, o.data ≠ .cell v
  keep : ∀ i h h', tn i h → (∀ b ∈ fp, ∀ o, h.get? b = some o → h'.get? b = some o) → tn i h'
  item : ∀ (X : Cx), X.prog = P → X.w = w → X.K = K → X.calm = true → ∀ (i : Nat) (pins : List (Addr × Obj)) (s : Shared) (σ : St) (H : Hp) (E : Value → Shared → Prop), Inv X pins σ H s → (∀ b ∈ fp, FpOk X pins H b) → tn i s.heap → J.go i H →
    wpAny (model P w) X.A (pyNext (.ref it)) (fun r s1 => ∃ u, r = some u ∧
      wpAny (model P w) X.A (letOwnedTupleGo tg (.ref it) u) (fun _ s2 => ∃ x H', Inv X pins σ H' s2 ∧ RelV x u ∧ J.yld i H x H' ∧ tn (i + 1) s2.heap ∧ ∀ b ∈ fp, H' b = none) E s1) E s
  done : ∀ (X : Cx), X.prog = P → X.w = w → X.K = K → X.calm = true → ∀ (i : Nat) (pins : List (Addr × Obj)) (s : Shared) (σ : St) (H : Hp) (E : Value → Shared → Prop), Inv X pins σ H s → (∀ b ∈ fp, FpOk X pins H b) → tn i s.heap → J.stop i H →
    wpAny (model P w) X.A (pyNext (.ref it)) (fun r s1 => r = none ∧ Inv X pins σ H s1) E s
  self : ∀ (A : Around) (i : Nat) (s : Shared) (Q : Value → Shared → Prop) (E : Value → Shared → Prop), tn i s.heap → Q (.ref it) s → wpAny (model P w) A (pyIter (.ref it)) Q E s
abbrev TI := St → Hp → (It → Hp → Prop) → Prop
/-- an iterator has come -/
def PIE (X : Cx) (pins : List (Addr × Obj)) (σ : St) (tg : Expr) (R : It → Hp → Prop) (itv : Value) (s2 : Shared) : Prop :=
  ∃ (it : Addr) (fp : List Addr) (tn : Nat → Heap → Prop) (J : It) (H' : Hp), itv = .ref it ∧ Inv X pins σ H' s2 ∧ Turn X.prog X.w X.K tg J fp it tn ∧ tn 0 s2.heap ∧ (∀ b ∈ fp, FpOk X pins H' b) ∧ R J H'
def PI (X : Cx) (tg iter : Expr) (wi : TI) : Prop :=
  ∀ (pins : List (Addr × Obj)) (s : Shared) (σ : St) (H : Hp) (R : It → Hp → Prop), Inv X pins σ H s → wi σ H R →
    wpAny (model X.prog X.w) X.A (eval iter X.env) (fun v s1 => wpAny (model X.prog X.w) X.A (pyIter v) (PIE X pins σ tg R) X.xe s1) X.xe s
/-- the step ahead of the store is nothing for an iterator that keeps no tuple -/
theorem go_of {M : Model} {A : Around} {E : Value → Shared → Prop} {s : Shared} {tg : Expr} {it : Addr} {u : Value} {o : Obj} {n : String} {vs : Array Value} {Q : Unit → Shared → Prop} (ho : s.heap.get? it = some o) (hc : o.cls = .type n) (hd : o.data = .fields vs)
    (hn : ["enumerate", "zip", "dict_itemiterator", "dict_reverseitemiterator", "odict_iterator", "itertools.zip_longest", "itertools.pairwise"].contains n = false) (hQ : Q () s) : wpAny M A (letOwnedTupleGo tg (.ref it) u) Q E s := by
  unfold letOwnedTupleGo
  cases tg <;> first
    | exact wpAny_pure hQ
    | (cases u <;> first
        | exact wpAny_pure hQ
        | (refine wpAny_bind (wpAny_load ho ?_)
           rw [hc, hd]
           show wpAny M A (if (["enumerate", "zip", "dict_itemiterator", "dict_reverseitemiterator", "odict_iterator", "itertools.zip_longest", "itertools.pairwise"].contains n && vs[0]? == some (rawInt _)) = true then _ else _) Q E s
           rw [if_neg (by intro h; rw [hn, Bool.false_and] at h; cases h)]
           exact wpAny_pure hQ))
/-- the list at a, as it stands at each turn (a loop may append to it) -/
def Itl (K : PySem.W.Frag) (a : Addr) : It :=
  ⟨fun i H => ∃ xs x, SqL K H a xs ∧ xs[i]? = some x, fun i H x H' => H' = H ∧ ∀ xs, SqL K H a xs → xs[i]? = some x, fun i H => ∃ xs, SqL K H a xs ∧ xs.length ≤ i⟩
/-- lo, lo + 1, .. (n of them) -/
def Itr (lo : Int) (n : Nat) : It := ⟨fun i _ => i < n, fun i H x H' => H' = H ∧ x = .int (lo + i), fun i _ => n ≤ i⟩
theorem turn_list {P : Program} {w : World} {K : PySem.W.Frag} {tg : Expr} (a it : Addr) : Turn P w K tg (Itl K a) [it] it (fun i h => h.IsListIter it a i) where
  mem := by simp
  obj := fun i h st b hb => by
    have e : b = it := by simpa using hb
    subst e
    obtain ⟨o, e, c, d⟩ := st
    exact ⟨o, e, fun v z => by rw [d] at z; cases z⟩
  keep := fun i h h' st k => st.at fun o e => k it (by simp) o e
  item := by
    intro X hP hw hK hc i pins s σ H E I hf st hg
    subst hP hw hK
    obtain ⟨xs, x, hq, hx⟩ := hg
    obtain ⟨its, rv, p, hz⟩ := I.list hq
    obtain ⟨u, hu, ru⟩ := rv.get hx
    obtain ⟨f0, f1, f2, f3, f4, f5⟩ := hf it (by simp)
    refine wpAny_pyNext_list_item st p.isList (x := u) (by simpa using hu) fun h' st' sb => ?_
    have I1 : Inv X pins σ H { s with heap := h' } := I.turned (t' := s.toks) (fun b o hb e => (sb.2 b hb).trans e) f0 f1 f3 f4 f5
    obtain ⟨o, e, c, d⟩ := id st'
    exact ⟨u, rfl, go_of (s := { s with heap := h' }) e c d (by decide) ⟨x, H, I1, ru, ⟨rfl, fun ys hy => by rw [I.list_inj hy hq]; exact hx⟩, st', fun b hb => (hf b hb).1⟩⟩
  done := by
    intro X hP hw hK hc i pins s σ H E I hf st hg
    subst hP hw hK
    obtain ⟨xs, hq, hx⟩ := hg
    obtain ⟨its, rv, p, hz⟩ := I.list hq
    obtain ⟨f0, f1, f2, f3, f4, f5⟩ := hf it (by simp)
    have hl := rv.length
    exact wpAny_pyNext_list_end (I.ok.hd hc) st p.isList (by simp; omega) fun h' eb => ⟨rfl, I.turned (t' := s.toks) (fun b o hb e => eb b o hb e) f0 f1 f3 f4 f5⟩
  self := fun _ _ _ _ _ st h => wpAny_pyIter_listiter st h
theorem turn_range {P : Program} {w : World} {K : PySem.W.Frag} {tg : Expr} (it : Addr) (lo : Int) (n : Nat) : Turn P w K tg (Itr lo n) [it] it (fun i h => IsRangeIter h it (lo + (i : Nat) * 1) ((n : Int) - (i : Nat)) 1) where
  mem := by simp
  obj := fun i h st b hb => by
    have e : b = it := by simpa using hb
    subst e
    exact ⟨_, st, fun v z => by
      have z' : Data.fields _ = Data.cell v := z
      cases z'⟩
  keep := fun i h h' st k => k it (by simp) _ st
  item := by
    intro X hP hw hK hc i pins s σ H E I hf st hg
    subst hP hw hK
    obtain ⟨f0, f1, f2, f3, f4, f5⟩ := hf it (by simp)
    have W := Walks.range (prog := X.prog) (w := X.w) (I.ok.hd hc) it lo 1 n
    refine W.item i s _ _ hg st fun v h' tk hv st' kk => ?_
    obtain ⟨t, rfl⟩ := hv
    have I1 : Inv X pins σ H { s with heap := h', toks := tk } := I.turned (fun b o hb e => kk b o (by simpa using hb) e) f0 f1 f3 f4 f5
    refine ⟨_, rfl, go_of (s := { s with heap := h', toks := tk }) (n := "range_iterator") st' rfl rfl (by decide) ⟨.int (lo + i), H, I1, ⟨t, ?_⟩, ⟨rfl, rfl⟩, st', fun b hb => (hf b hb).1⟩⟩
    rw [Int.mul_one]
  done := by
    intro X hP hw hK hc i pins s σ H E I hf st hg
    subst hP hw hK
    obtain ⟨f0, f1, f2, f3, f4, f5⟩ := hf it (by simp)
    exact wpAny_pyNext_range_end (I.ok.hd hc) st (by have : n ≤ i := hg; omega) fun h' eb => ⟨rfl, I.turned (t' := s.toks) (fun b o hb e => eb b o hb e) f0 f1 f3 f4 f5⟩
  self := fun _ _ _ _ _ st h => wpAny_pyIter_rangeiter st h
end L2
namespace L2
open PySem PySem.Spec PyProof.Rows
section
variable {X : Cx} {tg : Expr}
def iList (K : PySem.W.Frag) (tl : TE) : TI := fun σ H R => tl σ H fun x H1 => ∃ a, x = .ref a ∧ (∃ xs, SqL K H1 a xs) ∧ R (Itl K a) H1
theorem pi_list {l : Expr} {tl : TE} (hl : PE X l tl) : PI X tg l (iList X.K tl) := by
  intro pins s σ H R I h
  refine thn (hl pins s σ H _ I h) fun v s1 ⟨x, H1, I1, r1, q1⟩ => ?_
  obtain ⟨a, e, ⟨xs, hq⟩, q⟩ := q1
  subst e
  cases r1
  obtain ⟨its, rv, p, hz⟩ := I1.list hq
  refine wpAny_pyIter_list p.isList ?_
  refine ⟨s1.heap.objs.size, [s1.heap.objs.size], _, _, H1, rfl, I1.kept (t' := s1.toks) fun b o e => Heap.get?_push_of_some _ e, turn_list a _, ⟨_, Heap.get?_push_size _ rfl, rfl, rfl⟩, fun b hb => ?_, q⟩
  have e : b = s1.heap.objs.size := by simpa using hb
  subst e
  exact I1.fpOk (Nat.le_refl _) (I1.hok.fresh (Nat.le_refl _))
/-- a range object just made, walked -/
theorem range_it {pins : List (Addr × Obj)} {σ : St} {H : Hp} {s : Shared} {R : It → Hp → Prop} {E : Value → Shared → Prop} {lo hi : Int} {t u v : Tok} {tk : Nat} (I : Inv X pins σ H s) (h1 : -(2 ^ 62) ≤ lo) (h2 : lo < 2 ^ 62) (h3 : -(2 ^ 62) ≤ hi) (h4 : hi < 2 ^ 62)
    (q : R (Itr lo (hi - lo).toNat) H) : wpAny (model X.prog X.w) X.A (pyIter (.ref s.heap.objs.size)) (PIE X pins σ tg R) E { s with heap := s.heap.push { cls := .type "range", data := .fields #[.int lo t, .int hi u, .int 1 v] }, toks := tk } := by
  refine wpAny_pyIter_range (IsRange.new ..) (small_one h1 h2 h3 h4) ?_
  have I1 : Inv X pins σ H { s with heap := s.heap.push { cls := .type "range", data := .fields #[.int lo t, .int hi u, .int 1 v] }, toks := tk } := I.kept fun b o e => Heap.get?_push_of_some _ e
  refine ⟨(s.heap.push { cls := .type "range", data := .fields #[.int lo t, .int hi u, .int 1 v] }).objs.size, [(s.heap.push { cls := .type "range", data := .fields #[.int lo t, .int hi u, .int 1 v] }).objs.size], _, _, H, rfl,
    I1.kept (t' := tk) fun b o e => Heap.get?_push_of_some _ e, turn_range _ lo (hi - lo).toNat, ?_, fun b hb => ?_, q⟩
  · have e1 : lo + ((0 : Nat) : Int) * 1 = lo := by simp
    have e2 : (((hi - lo).toNat : Nat) : Int) - ((0 : Nat) : Int) = Builtin.Range.rangeSize lo hi 1 := by rw [rangeSize_one]; split <;> omega
    show IsRangeIter _ _ (lo + ((0 : Nat) : Int) * 1) ((((hi - lo).toNat : Nat) : Int) - ((0 : Nat) : Int)) 1
    rw [e1, e2]
    exact Heap.get?_push_size _ rfl
  · have e : b = (s.heap.push { cls := .type "range", data := .fields #[.int lo t, .int hi u, .int 1 v] }).objs.size := by simpa using hb
    subst e
    exact I1.fpOk (Nat.le_refl _) (I1.hok.fresh (Nat.le_refl _))
def iRng1 (ta : TA) : TI := fun σ H R => ta σ H fun vs H1 => ∃ j : Int, vs = [.int j] ∧ -(2 ^ 62) ≤ j ∧ j < 2 ^ 62 ∧ R (Itr 0 j.toNat) H1
theorem pi_range1 {a : Expr} {ta : TA} {p pos : Pos} (hg : Gl X "range") (hm : X.mg "range" = none) (ha : PA X [a] ta) (hs : starEach [a] X.env = [(false, eval a X.env)] := by rfl) : PI X tg (.Call (.Name "range" p) [a] [] pos) (iRng1 ta) := by
  intro pins s σ H R I h
  refine Call_ (ld_blt I hg hm boot_range (PyProof.Rows.callWith_type1 (thn (ha pos pins s σ H _ I h) fun us s1 ⟨vs, H1, I1, r1, q1⟩ => ?_) hs rfl))
  obtain ⟨j, e, q1, q2, q⟩ := q1
  subst e
  cases r1 with
  | cons r rr =>
    cases rr
    obtain ⟨t, rfl⟩ := r
    exact call_range_1 (range_it I1 (by omega) (by omega) q1 q2 (by simpa using q))
/-- W: the invariant by the turn and a measure; N: what the body is to reach -/
def tFor (wi : TI) (g : TG) (tb : TS) : TS := fun D σ H => wi σ H fun J H1 => ∃ W : Nat → Nat → St → Hp → Prop, (∃ m, W 0 m σ H1) ∧ ∀ i m σ H, W i m σ H →
  (J.stop i H ∧ D.nx σ H) ∨ (J.go i H ∧ ∃ N : St → Hp → Prop, (∀ σ' H', N σ' H' → ∃ m', m' < m ∧ W (i + 1) m' σ' H') ∧ ∀ x H', J.yld i H x H' → g x σ H' fun σ2 H2 => tb { D with nx := N, ct := N, bk := D.nx } σ2 H2)
/-- the records at fp as they stand -/
def pinsAt (fp : List Addr) (h : Heap) : List (Addr × Obj) := fp.filterMap fun b => (h.get? b).map fun o => (b, o)
theorem mem_pinsAt {fp : List Addr} {h : Heap} {b : Addr} {o : Obj} (hb : b ∈ fp) (e : h.get? b = some o) : (b, o) ∈ pinsAt fp h := List.mem_filterMap.mpr ⟨b, hb, by rw [e]; rfl⟩
theorem of_pinsAt {fp : List Addr} {h : Heap} {p : Addr × Obj} (hp : p ∈ pinsAt fp h) : p.1 ∈ fp ∧ h.get? p.1 = some p.2 := by
  obtain ⟨b, hb, e⟩ := List.mem_filterMap.mp hp
  cases q : h.get? b with
  | none => rw [q] at e; cases e
  | some o =>
    rw [q] at e
    have e' : (b, o) = p := Option.some.inj e
    subst e'
    exact ⟨hb, q⟩
theorem Inv.pinned {pins : List (Addr × Obj)} {σ : St} {H : Hp} {s : Shared} {fp : List Addr} (I : Inv X pins σ H s) (hf : ∀ b ∈ fp, FpOk X pins H b) (ho : ∀ b ∈ fp, ∃ o, s.heap.get? b = some o ∧ ∀ v, o.data ≠ .cell v) : Inv X (pins ++ pinsAt fp s.heap) σ H s :=
  I.pins_of fun p hp => (List.mem_append.mp hp).elim (fun z => I.pin p (List.mem_append_right _ z)) fun z => by
    obtain ⟨hb, e⟩ := of_pinsAt z
    obtain ⟨f0, f1, f2, _⟩ := hf p.1 hb
    obtain ⟨o, e', d⟩ := ho p.1 hb
    rw [e] at e'; cases e'
    exact ⟨e, f0, f1, f2, d⟩
theorem Inv.unpinned {pins pl : List (Addr × Obj)} {σ : St} {H : Hp} {s : Shared} (I : Inv X (pins ++ pl) σ H s) : Inv X pins σ H s := I.pins_of fun p hp => I.pin p (List.mem_append_right _ (List.mem_append_left _ hp))
theorem ps_for {iter : Expr} {body : List Stmt} {wi : TI} {g : TG} {tb : TS} {pos : Pos} (hp : PassesOwn (model X.prog X.w) X.A X.env X.xe) (hc : X.calm = true) (hi : PI X tg iter wi) (hg : PG X tg g) (hb : PSs X body tb)
    (hs : ∀ x, foldedSetIterable iter X.env x = pure x := by intro _; rfl) : PS X (.For tg iter body [] pos) (tFor wi g tb) := by
  intro pins s σ H D I h
  refine wpAny_For (thn (hi pins s σ H _ I h) fun v s1 h1 => thn h1 fun itv s2 h2 => ?_) hs
  obtain ⟨it, fp, tn, J, H2, e, I2, T, st2, f2, W, ⟨m0, w0⟩, turn⟩ := h2
  subst e
  -- what stays true of the iterator's objects through the loop
  have stat : ∀ {H' : Hp}, (∀ b ∈ fp, H' b = none) → ∀ b ∈ fp, FpOk X pins H' b := fun hn b hb => ⟨hn b hb, (f2 b hb).2⟩
  refine codeAny_forLoop_any (fun n s' => ∃ i σ' H', Inv X pins σ' H' s' ∧ tn i s'.heap ∧ (∀ b ∈ fp, H' b = none) ∧ W i n σ' H') ?_ m0 ⟨0, σ, H2, I2, st2, fun b hb => (f2 b hb).1, w0⟩
  rintro n s3 ⟨i, σ3, H3, I3, st3, fr3, w3⟩
  rcases turn i n σ3 H3 w3 with ⟨stop, qn⟩ | ⟨go, N, hN, step⟩
  · refine wpAny_passesOwn hp (thn (T.done X rfl rfl rfl hc i pins s3 σ3 H3 X.xe I3 (stat fr3) st3 stop) fun r s4 ⟨hr, I4⟩ => ?_)
    subst hr
    exact wpAny_execs_nil ⟨σ3, H3, I4, qn⟩
  · refine wpAny_passesOwn hp (thn (T.item X rfl rfl rfl hc i pins s3 σ3 H3 X.xe I3 (stat fr3) st3 go) fun r s4 ⟨u, hr, h4⟩ => ?_)
    subst hr
    refine wpAny_passesOwn hp (thn h4 fun _ s5 ⟨x, H5, I5, r5, y5, st5, fr5⟩ => ?_)
    have I5' := I5.pinned (stat fr5) (T.obj _ _ st5)
    refine wpAny_passesOwn hp (thn (hg _ s5 σ3 H5 x u _ I5' r5 (step x H5 y5)) fun _ s6 ⟨σ6, H6, I6, q6⟩ => ?_)
    refine wpAny_passesOwn hp (thn (hb _ s6 σ6 H6 _ I6 q6) fun f s7 q7 => ?_)
    have again : ∀ {σ7 : St} {H7 : Hp}, Inv X (pins ++ pinsAt fp s5.heap) σ7 H7 s7 → N σ7 H7 → ∃ m, m < n ∧ ∃ i σ' H', Inv X pins σ' H' s7 ∧ tn i s7.heap ∧ (∀ b ∈ fp, H' b = none) ∧ W i m σ' H' := fun {σ7 H7} I7 n7 => by
      obtain ⟨m', hm, w7⟩ := hN σ7 H7 n7
      refine ⟨m', hm, i + 1, σ7, H7, I7.unpinned, T.keep _ _ _ st5 fun b hb o e => (I7.pin (b, o) (List.mem_append_right _ (List.mem_append_right _ (mem_pinsAt hb e)))).1, fun b hb => ?_, w7⟩
      obtain ⟨o, e, d⟩ := T.obj _ _ st5 b hb
      exact (I7.pin (b, o) (List.mem_append_right _ (List.mem_append_right _ (mem_pinsAt hb e)))).2.1
    cases f with
    | next => obtain ⟨σ7, H7, I7, n7⟩ := q7; exact again I7 n7
    | cont => obtain ⟨σ7, H7, I7, n7⟩ := q7; exact again I7 n7
    | brk => obtain ⟨σ7, H7, I7, q7⟩ := q7; exact ⟨σ7, H7, I7.unpinned, q7⟩
    | ret v => obtain ⟨x7, σ7, H7, I7, r7, q7⟩ := q7; exact ⟨x7, σ7, H7, I7.unpinned, r7, q7⟩
end
/-- over a list that the body leaves as it is -/
theorem for_list {K : PySem.W.Frag} {a : Addr} {xs : List V} {g : TG} {tb : TS} {D : Ends} {σ : St} {H : Hp} (Pv : Nat → St → Hp → Prop) (h0 : Pv 0 σ H) (hl : ∀ i σ H, i ≤ xs.length → Pv i σ H → SqL K H a xs)
    (hs : ∀ i x σ H, xs[i]? = some x → Pv i σ H → g x σ H fun σ2 H2 => tb { D with nx := Pv (i + 1), ct := Pv (i + 1), bk := D.nx } σ2 H2) (hd : ∀ σ H, Pv xs.length σ H → D.nx σ H) :
    ∃ W : Nat → Nat → St → Hp → Prop, (∃ m, W 0 m σ H) ∧ ∀ i m σ H, W i m σ H →
      ((Itl K a).stop i H ∧ D.nx σ H) ∨ ((Itl K a).go i H ∧ ∃ N : St → Hp → Prop, (∀ σ' H', N σ' H' → ∃ m', m' < m ∧ W (i + 1) m' σ' H') ∧ ∀ x H', (Itl K a).yld i H x H' → g x σ H' fun σ2 H2 => tb { D with nx := N, ct := N, bk := D.nx } σ2 H2) := by
  refine ⟨fun i m σ H => m = xs.length - i ∧ i ≤ xs.length ∧ Pv i σ H, ⟨xs.length, by simp, Nat.zero_le _, h0⟩, ?_⟩
  rintro i m σ H ⟨rfl, hi, p⟩
  have q := hl i σ H hi p
  by_cases hlt : i < xs.length
  · refine .inr ⟨⟨xs, xs[i], q, by simp [hlt]⟩, Pv (i + 1), fun σ' H' p' => ⟨xs.length - (i + 1), by omega, rfl, hlt, p'⟩, fun x H' y => ?_⟩
    obtain ⟨e, y⟩ := y
    subst e
    exact hs i x σ _ (y xs q) p
  · have e : i = xs.length := by omega
    subst e
    exact .inl ⟨⟨xs, q, Nat.le_refl _⟩, hd σ H p⟩
theorem for_range {lo : Int} {n : Nat} {g : TG} {tb : TS} {D : Ends} {σ : St} {H : Hp} (Pv : Nat → St → Hp → Prop) (h0 : Pv 0 σ H)
    (hs : ∀ i σ H, i < n → Pv i σ H → g (.int (lo + i)) σ H fun σ2 H2 => tb { D with nx := Pv (i + 1), ct := Pv (i + 1), bk := D.nx } σ2 H2) (hd : ∀ σ H, Pv n σ H → D.nx σ H) :
    ∃ W : Nat → Nat → St → Hp → Prop, (∃ m, W 0 m σ H) ∧ ∀ i m σ H, W i m σ H →
      ((Itr lo n).stop i H ∧ D.nx σ H) ∨ ((Itr lo n).go i H ∧ ∃ N : St → Hp → Prop, (∀ σ' H', N σ' H' → ∃ m', m' < m ∧ W (i + 1) m' σ' H') ∧ ∀ x H', (Itr lo n).yld i H x H' → g x σ H' fun σ2 H2 => tb { D with nx := N, ct := N, bk := D.nx } σ2 H2) := by
  refine ⟨fun i m σ H => m = n - i ∧ i ≤ n ∧ Pv i σ H, ⟨n, by simp, Nat.zero_le _, h0⟩, ?_⟩
  rintro i m σ H ⟨rfl, hi, p⟩
  by_cases hlt : i < n
  · refine .inr ⟨hlt, Pv (i + 1), fun σ' H' p' => ⟨n - (i + 1), by omega, rfl, hlt, p'⟩, fun x H' y => ?_⟩
    obtain ⟨e, y⟩ := y
    subst e y
    exact hs i σ _ hlt p
  · have e : i = n := by omega
    subst e
    exact .inl ⟨Nat.le_refl _, hd σ H p⟩
end L2
namespace L2
open PySem PySem.Spec PyProof.Rows
abbrev R2 := V → V → Hp → VK → Prop
/-- a two-place operation on values: f is binaryOp op, inplaceOp op or compareOp op -/
def OpR (X : Cx) (f : Value → Value → Sem Value) (r : R2) : Prop :=
  ∀ (pins : List (Addr × Obj)) (s : Shared) (σ : St) (H : Hp) (x y : V) (v u : Value) (Q : VK), Inv X pins σ H s → RelV x v → RelV y u → r x y H Q →
    wpAny (model X.prog X.w) X.A (f v u) (EP X pins σ Q) X.xe s
/-- a one-place operation -/
def UnR (X : Cx) (f : Value → Sem Value) (r : V → Hp → VK → Prop) : Prop :=
  ∀ (pins : List (Addr × Obj)) (s : Shared) (σ : St) (H : Hp) (x : V) (v : Value) (Q : VK), Inv X pins σ H s → RelV x v → r x H Q →
    wpAny (model X.prog X.w) X.A (f v) (EP X pins σ Q) X.xe s
/-- a call of a value that is known (a builtin, a type) with values -/
def CallR (X : Cx) (f : Value) (r : List V → Hp → VK → Prop) : Prop :=
  ∀ (pins : List (Addr × Obj)) (s : Shared) (σ : St) (H : Hp) (xs : List V) (us : List Value) (Q : VK), Inv X pins σ H s → Vals xs us → r xs H Q →
    wpAny (model X.prog X.w) X.A (call f us) (EP X pins σ Q) X.xe s
def tOp (r : R2) (ta tb : TE) : TE := fun σ H Q => ta σ H fun x H1 => tb σ H1 fun y H2 => r x y H2 Q
def tUn (r : V → Hp → VK → Prop) (ta : TE) : TE := fun σ H Q => ta σ H fun x H1 => r x H1 Q
/-- ints in, under C, and a value out -/
def rI (C : Int → Int → Prop) (g : Int → Int → V) : R2 := fun x y H Q => ∃ i j, x = .int i ∧ y = .int j ∧ C i j ∧ Q (g i j) H
def rI0 (g : Int → Int → V) : R2 := fun x y H Q => ∃ i j, x = .int i ∧ y = .int j ∧ Q (g i j) H
def rU (g : Int → V) : V → Hp → VK → Prop := fun x H Q => ∃ i, x = .int i ∧ Q (g i) H
section
variable {X : Cx} {a b c : Expr} {ta tb tc : TE} {pos : Pos}
theorem binT (ha : PE X a ta) (hb : PE X b tb) {pins : List (Addr × Obj)} {s : Shared} {σ : St} {H : Hp} {R : V → V → Hp → Prop} (I : Inv X pins σ H s)
    (h : ta σ H fun x H1 => tb σ H1 fun y H2 => R x y H2) {Q : Value → Shared → Prop} {f : Value → Value → Sem Value}
    (hf : ∀ v u s2 x y H2, Inv X pins σ H2 s2 → RelV x v → RelV y u → R x y H2 → wpAny (model X.prog X.w) X.A (f v u) Q X.xe s2) :
    wpAny (model X.prog X.w) X.A (eval a X.env) (fun v s₁ => wpAny (model X.prog X.w) X.A (eval b X.env) (fun u s₂ => wpAny (model X.prog X.w) X.A (f v u) Q X.xe s₂) X.xe s₁) X.xe s := by
  refine thn (ha pins s σ H _ I h) fun v s1 ⟨x, H1, I1, r1, q1⟩ => ?_
  refine thn (hb pins s1 σ H1 _ I1 q1) fun u s2 ⟨y, H2, I2, r2, q2⟩ => ?_
  exact hf v u s2 x y H2 I2 r1 r2 q2
theorem pe_op {op : Operator} {r : R2} (ho : OpR X (binaryOp op) r) (ha : PE X a ta) (hb : PE X b tb) : PE X (.BinOp a op b pos) (tOp r ta tb) := by
  intro pins s σ H Q I h
  exact wpAny_BinOp (binT ha hb I h fun v u s2 x y H2 I2 rx ry q => ho pins s2 σ H2 x y v u Q I2 rx ry q)
theorem pe_un {op : UnaryOp} {r : V → Hp → VK → Prop} (ho : UnR X (unaryOp op) r) (ha : PE X a ta) : PE X (.UnaryOp op a pos) (tUn r ta) := by
  intro pins s σ H Q I h
  exact UnaryOp_ (thn (ha pins s σ H _ I h) fun v s1 ⟨x, H1, I1, r1, q1⟩ => ho pins s1 σ H1 x v Q I1 r1 q1)
theorem opI {f : Value → Value → Sem Value} {C : Int → Int → Prop} {g : Int → Int → Int}
    (rule : ∀ (i j : Int) (t u : Tok) (s : Shared) (Q : Value → Shared → Prop) (E : Value → Shared → Prop), C i j → Q (.int (g i j) s.toks) { s with toks := s.toks + 1 } → wpAny (model X.prog X.w) X.A (f (.int i t) (.int j u)) Q E s) :
    OpR X f (rI C fun i j => .int (g i j)) := by
  intro pins s σ H x y v u Q I rx ry h
  obtain ⟨i, j, rfl, rfl, hc, q⟩ := h
  obtain ⟨t, rfl⟩ := rx
  obtain ⟨t', rfl⟩ := ry
  exact rule i j t t' s _ _ hc ⟨.int (g i j), H, I.tok _, ⟨_, rfl⟩, q⟩
theorem opI0 {f : Value → Value → Sem Value} {g : Int → Int → Int}
    (rule : ∀ (i j : Int) (t u : Tok) (s : Shared) (Q : Value → Shared → Prop) (E : Value → Shared → Prop), Q (.int (g i j) s.toks) { s with toks := s.toks + 1 } → wpAny (model X.prog X.w) X.A (f (.int i t) (.int j u)) Q E s) :
    OpR X f (rI0 fun i j => .int (g i j)) := by
  intro pins s σ H x y v u Q I rx ry h
  obtain ⟨i, j, rfl, rfl, q⟩ := h
  obtain ⟨t, rfl⟩ := rx
  obtain ⟨t', rfl⟩ := ry
  exact rule i j t t' s _ _ ⟨.int (g i j), H, I.tok _, ⟨_, rfl⟩, q⟩
theorem opB0 {f : Value → Value → Sem Value} {g : Int → Int → Bool}
    (rule : ∀ (i j : Int) (t u : Tok) (s : Shared) (Q : Value → Shared → Prop) (E : Value → Shared → Prop), Q (.bool (g i j)) s → wpAny (model X.prog X.w) X.A (f (.int i t) (.int j u)) Q E s) :
    OpR X f (rI0 fun i j => .bl (g i j)) := by
  intro pins s σ H x y v u Q I rx ry h
  obtain ⟨i, j, rfl, rfl, q⟩ := h
  obtain ⟨t, rfl⟩ := rx
  obtain ⟨t', rfl⟩ := ry
  exact rule i j t t' s _ _ ⟨.bl (g i j), H, I, rfl, q⟩
def CPow (i j : Int) : Prop := 0 ≤ j ∧ j ≤ 1000000 ∧ i.natAbs < 2 ^ 64
def CMul (i j : Int) : Prop := (-(2 ^ 64) < i ∧ i < 2 ^ 64) ∨ (-(2 ^ 64) < j ∧ j < 2 ^ 64)
theorem CMul.ok {i j : Int} (h : CMul i j) : IntMulOk i j := by
  rcases h with ⟨h1, h2⟩ | ⟨h1, h2⟩
  · exact .of_left (intBits_le_64 h1 h2)
  · exact .of_right (intBits_le_64 h1 h2)
theorem two_pow_nn (k : Nat) : (0 : Int) ≤ 2 ^ k := by
  rw [two_pow_cast]
  exact Int.natCast_nonneg _
theorem op_add : OpR X (binaryOp .Add) (rI0 fun i j => .int (i + j)) := opI0 fun _ _ _ _ _ _ _ q => add_int q
theorem op_sub : OpR X (binaryOp .Sub) (rI0 fun i j => .int (i - j)) := opI0 fun _ _ _ _ _ _ _ q => sub_int q
theorem op_mul : OpR X (binaryOp .Mult) (rI CMul fun i j => .int (i * j)) := opI fun _ _ _ _ _ _ _ hc q => mul_int q hc.ok
theorem op_shl : OpR X (binaryOp .LShift) (rI CPow fun i j => .int (i * 2 ^ j.toNat)) := opI fun _ _ _ _ _ _ _ hc q => lshift_int_small hc.1 hc.2.1 hc.2.2 q
theorem op_shr : OpR X (binaryOp .RShift) (rI (fun _ j => 0 ≤ j) fun i j => .int (i / 2 ^ j.toNat)) := opI fun i j _ _ _ _ _ hc q =>
  rshift_int hc (by rw [Int.fdiv_eq_ediv_of_nonneg i (two_pow_nn _)]; exact q)
theorem op_and : OpR X (binaryOp .BitAnd) (rI0 fun i j => .int (Builtin.bitAnd i j)) := opI0 fun _ _ _ _ _ _ _ q => and_int q
theorem op_or : OpR X (binaryOp .BitOr) (rI0 fun i j => .int (Builtin.bitOr i j)) := opI0 fun _ _ _ _ _ _ _ q => or_int q
theorem unI {f : Value → Sem Value} {g : Int → Int}
    (rule : ∀ (i : Int) (t : Tok) (s : Shared) (Q : Value → Shared → Prop) (E : Value → Shared → Prop), Q (.int (g i) s.toks) { s with toks := s.toks + 1 } → wpAny (model X.prog X.w) X.A (f (.int i t)) Q E s) :
    UnR X f (rU fun i => .int (g i)) := by
  intro pins s σ H x v Q I rx h
  obtain ⟨i, rfl, q⟩ := h
  obtain ⟨t, rfl⟩ := rx
  exact rule i t s _ _ ⟨.int (g i), H, I.tok _, ⟨_, rfl⟩, q⟩
theorem un_neg : UnR X (unaryOp .USub) (rU fun i => .int (-i)) := unI fun _ _ _ _ _ q => neg_int q
theorem un_inv : UnR X (unaryOp .Invert) (rU fun i => .int (Builtin.bitNot i)) := unI fun _ _ _ _ _ q => invert_int q
end
/-- the scalars that == tells apart as data does -/
def scal : V → V → Bool
  | .non, .non => true | .non, .int _ => true | .int _, .non => true | .non, .bl _ => true | .bl _, .non => true | .non, .str _ => true | .str _, .non => true
  | .int _, .int _ => true | .bl _, .bl _ => true | .str _, .str _ => true | .byt _, .byt _ => true
  | .int _, .str _ => true | .str _, .int _ => true | .bl _, .str _ => true | .str _, .bl _ => true
  | _, _ => false
def rEq : R2 := fun x y H Q => scal x y = true ∧ Q (.bl (decide (x = y))) H
def rNe : R2 := fun x y H Q => scal x y = true ∧ Q (.bl (!decide (x = y))) H
theorem dec_int {i j : Int} : decide (V.int i = V.int j) = (i == j) := by
  rw [Bool.eq_iff_iff]
  simp
theorem dec_bl {i j : Bool} : decide (V.bl i = V.bl j) = (i == j) := by
  rw [Bool.eq_iff_iff]
  simp
theorem dec_str {i j : Str} : decide (V.str i = V.str j) = (i == j) := by
  rw [Bool.eq_iff_iff]
  simp
theorem dec_byt {i j : Array UInt8} : decide (V.byt i = V.byt j) = (i.toList == j.toList) := by
  rw [Bool.eq_iff_iff]
  cases i
  cases j
  simp
section
variable {X : Cx} {a b c : Expr} {ta tb tc : TE} {pos : Pos}
theorem fin_bl {pins : List (Addr × Obj)} {σ : St} {H : Hp} {s : Shared} {Q : VK} {k k' : Bool} (I : Inv X pins σ H s) (q : Q (.bl k) H) (e : k = k') : EP X pins σ Q (.bool k') s := by
  subst e
  exact ⟨.bl k, H, I, rfl, q⟩
theorem op_eq : OpR X (compareOp .Eq) rEq := by
  intro pins s σ H x y v u Q I rx ry h
  obtain ⟨hs, q⟩ := h
  cases x with
  | non =>
    cases rx
    cases y with
    | non => cases ry; exact PySem.EqNone.eq_none_none (fin_bl I q (by simp))
    | bl j => cases ry; exact PySem.EqNone.eq_none_bool (fin_bl I q (by simp))
    | int j => obtain ⟨t', rfl⟩ := ry; exact PySem.EqNone.eq_none_int (fin_bl I q (by simp))
    | str j => obtain ⟨t', rfl⟩ := ry; exact PySem.EqNone.eq_none_str (fin_bl I q (by simp))
    | _ => exact absurd (show false = true from hs) Bool.false_ne_true
  | bl i =>
    cases rx
    cases y with
    | non => cases ry; exact PySem.EqNone.eq_bool_none (fin_bl I q (by simp))
    | bl j => cases ry; exact eq_bool (fin_bl I q dec_bl)
    | str j => obtain ⟨t', rfl⟩ := ry; exact PySem.EqMixed.eq_bool_str (fin_bl I q (by simp))
    | _ => exact absurd (show false = true from hs) Bool.false_ne_true
  | int i =>
    obtain ⟨t, rfl⟩ := rx
    cases y with
    | non => cases ry; exact PySem.EqNone.eq_int_none (fin_bl I q (by simp))
    | int j => obtain ⟨t', rfl⟩ := ry; exact eq_int (fin_bl I q dec_int)
    | str j => obtain ⟨t', rfl⟩ := ry; exact PySem.EqMixed.eq_int_str (fin_bl I q (by simp))
    | _ => exact absurd (show false = true from hs) Bool.false_ne_true
  | str i =>
    obtain ⟨t, rfl⟩ := rx
    cases y with
    | non => cases ry; exact PySem.EqNone.eq_str_none (fin_bl I q (by simp))
    | bl j => cases ry; exact PySem.EqMixed.eq_str_bool (fin_bl I q (by simp))
    | int j => obtain ⟨t', rfl⟩ := ry; exact PySem.EqMixed.eq_str_int (fin_bl I q (by simp))
    | str j => obtain ⟨t', rfl⟩ := ry; exact eq_str (fin_bl I q dec_str)
    | _ => exact absurd (show false = true from hs) Bool.false_ne_true
  | byt i =>
    obtain ⟨t, rfl⟩ := rx
    cases y with
    | byt j => obtain ⟨t', rfl⟩ := ry; exact PySem.W.eq_bytes (fin_bl I q dec_byt)
    | _ => exact absurd (show false = true from hs) Bool.false_ne_true
  | _ => cases y <;> exact absurd (show false = true from hs) Bool.false_ne_true
theorem op_ne : OpR X (compareOp .NotEq) rNe := by
  intro pins s σ H x y v u Q I rx ry h
  obtain ⟨hs, q⟩ := h
  cases x with
  | non =>
    cases rx
    cases y with
    | non => cases ry; exact PySem.EqNone.ne_none_none (fin_bl I q (by simp))
    | bl j => cases ry; exact PySem.EqNone.ne_none_bool (fin_bl I q (by simp))
    | int j => obtain ⟨t', rfl⟩ := ry; exact PySem.EqNone.ne_none_int (fin_bl I q (by simp))
    | str j => obtain ⟨t', rfl⟩ := ry; exact PySem.EqNone.ne_none_str (fin_bl I q (by simp))
    | _ => exact absurd (show false = true from hs) Bool.false_ne_true
  | bl i =>
    cases rx
    cases y with
    | non => cases ry; exact PySem.EqNone.ne_bool_none (fin_bl I q (by simp))
    | bl j => cases ry; exact ne_bool (fin_bl I q (congrArg not dec_bl))
    | str j => obtain ⟨t', rfl⟩ := ry; exact PySem.EqMixed.ne_bool_str (fin_bl I q (by simp))
    | _ => exact absurd (show false = true from hs) Bool.false_ne_true
  | int i =>
    obtain ⟨t, rfl⟩ := rx
    cases y with
    | non => cases ry; exact PySem.EqNone.ne_int_none (fin_bl I q (by simp))
    | int j => obtain ⟨t', rfl⟩ := ry; exact ne_int (fin_bl I q (congrArg not dec_int))
    | str j => obtain ⟨t', rfl⟩ := ry; exact PySem.EqMixed.ne_int_str (fin_bl I q (by simp))
    | _ => exact absurd (show false = true from hs) Bool.false_ne_true
  | str i =>
    obtain ⟨t, rfl⟩ := rx
    cases y with
    | non => cases ry; exact PySem.EqNone.ne_str_none (fin_bl I q (by simp))
    | bl j => cases ry; exact PySem.EqMixed.ne_str_bool (fin_bl I q (by simp))
    | int j => obtain ⟨t', rfl⟩ := ry; exact PySem.EqMixed.ne_str_int (fin_bl I q (by simp))
    | str j => obtain ⟨t', rfl⟩ := ry; exact ne_str (fin_bl I q (congrArg not dec_str))
    | _ => exact absurd (show false = true from hs) Bool.false_ne_true
  | byt i =>
    obtain ⟨t, rfl⟩ := rx
    cases y with
    | byt j => obtain ⟨t', rfl⟩ := ry; exact PySem.W.ne_bytes (fin_bl I q (congrArg not dec_byt))
    | _ => exact absurd (show false = true from hs) Bool.false_ne_true
  | _ => cases y <;> exact absurd (show false = true from hs) Bool.false_ne_true
theorem op_lt : OpR X (compareOp .Lt) (rI0 fun i j => .bl (decide (i < j))) := opB0 fun _ _ _ _ _ _ _ q => lt_int q
theorem op_le : OpR X (compareOp .LtE) (rI0 fun i j => .bl (decide (i ≤ j))) := opB0 fun _ _ _ _ _ _ _ q => le_int q
theorem op_gt : OpR X (compareOp .Gt) (rI0 fun i j => .bl (decide (j < i))) := opB0 fun _ _ _ _ _ _ _ q => gt_int q
theorem nomark (b : Expr) {op : CmpOp} (h : op ≠ .In := by decide) (h2 : op ≠ .NotIn := by decide) : behindInMarks op b = false := by
  have e1 : (op == CmpOp.In) = false := by cases op <;> first | rfl | exact absurd rfl h
  have e2 : (op == CmpOp.NotIn) = false := by cases op <;> first | rfl | exact absurd rfl h2
  cases b <;> simp [behindInMarks, e1, e2]
/-- a comparison as a value; hm: nomark b, or (for in, not in) by with_unfolding_all rfl -/
theorem pe_cmpR {op : CmpOp} {r : R2} (ho : OpR X (compareOp op) r) (ha : PE X a ta) (hb : PE X b tb) (hm : behindInMarks op b = false) : PE X (.Compare a [op] [b] pos) (tOp r ta tb) := by
  intro pins s σ H Q I h
  exact wpAny_Compare1 (binT ha hb I h fun v u s2 x y H2 I2 rx ry q => ho pins s2 σ H2 x y v u Q I2 rx ry q) hm
/-- a reading of a value as a test -/
def tTest (t : TE) : TT := fun σ H Q => t σ H fun x H' => ∃ k, x = .bl k ∧ Q k H'
theorem pt_cmpR {op : CmpOp} {r : R2} (ho : OpR X (compareOp op) r) (ha : PE X a ta) (hb : PE X b tb) (hm : behindInMarks op b = false) : PT X (.Compare a [op] [b] pos) (tTest (tOp r ta tb)) := by
  intro pins s σ H Q I h
  refine wpAny_isTrue_Compare1 (thn (ha pins s σ H _ I h) fun v s1 ⟨x, H1, I1, r1, q1⟩ => thn (hb pins s1 σ H1 _ I1 q1) fun u s2 ⟨y, H2, I2, r2, q2⟩ =>
    thn (ho pins s2 σ H2 x y v u _ I2 r1 r2 q2) fun c s3 ⟨z, H3, I3, r3, k, e, q3⟩ => ?_) hm
  subst e
  cases r3
  exact wpAny_truthy_bool ⟨H3, I3, q3⟩
/-- a op1 b op2 c -/
def tChain (r r' : R2) (ta tb tc : TE) : TE := fun σ H Q => ta σ H fun x H1 => tb σ H1 fun y H2 => r x y H2 fun z H3 => ∃ k, z = .bl k ∧
  (if k = true then tc σ H3 fun w' H4 => r' y w' H4 Q else Q (.bl false) H3)
theorem pe_chain {op op' : CmpOp} {r r' : R2} (ho : OpR X (compareOp op) r) (ho' : OpR X (compareOp op') r') (ha : PE X a ta) (hb : PE X b tb) (hc : PE X c tc)
    (hm : lastMarks [op, op'] [b, c] = false := by with_unfolding_all rfl) : PE X (.Compare a [op, op'] [b, c] pos) (tChain r r' ta tb tc) := by
  intro pins s σ H Q I h
  refine Compare_chain (thn (ha pins s σ H _ I h) fun v s1 ⟨x, H1, I1, r1, q1⟩ => chain_link (thn (hb pins s1 σ H1 _ I1 q1) fun u s2 ⟨y, H2, I2, r2, q2⟩ =>
    thn (ho pins s2 σ H2 x y v u _ I2 r1 r2 q2) fun d s3 ⟨z, H3, I3, r3, k, e, q3⟩ => ?_)) hm
  subst e
  cases r3
  refine wpAny_truthy_bool ?_
  cases k with
  | false => exact ite_ff ⟨.bl false, H3, I3, rfl, q3⟩
  | true => exact ite_tt (chain_last (thn (hc pins s3 σ H3 _ I3 q3) fun w' s4 ⟨z', H4, I4, r4, q4⟩ => ho' pins s4 σ H4 y z' u w' Q I4 r2 r4 q4))
theorem pt_chain {op op' : CmpOp} {r r' : R2} (ho : OpR X (compareOp op) r) (ho' : OpR X (compareOp op') r') (ha : PE X a ta) (hb : PE X b tb) (hc : PE X c tc)
    (hm : lastMarks [op, op'] [b, c] = false := by with_unfolding_all rfl) : PT X (.Compare a [op, op'] [b, c] pos) (tTest (tChain r r' ta tb tc)) := by
  intro pins s σ H Q I h
  refine isTrue_chain (thn (ha pins s σ H _ I h) fun v s1 ⟨x, H1, I1, r1, q1⟩ => test_link (thn (hb pins s1 σ H1 _ I1 q1) fun u s2 ⟨y, H2, I2, r2, q2⟩ =>
    thn (ho pins s2 σ H2 x y v u _ I2 r1 r2 q2) fun d s3 ⟨z, H3, I3, r3, k, e, q3⟩ => ?_)) hm
  subst e
  cases r3
  refine wpAny_truthy_bool ?_
  cases k with
  | false =>
    obtain ⟨k', e', q'⟩ := q3
    cases e'
    exact ite_ff ⟨H3, I3, q'⟩
  | true =>
    refine ite_tt (test_last (thn (hc pins s3 σ H3 _ I3 q3) fun w' s4 ⟨z', H4, I4, r4, q4⟩ => thn (ho' pins s4 σ H4 y z' u w' _ I4 r2 r4 q4) fun d' s5 ⟨z2, H5, I5, r5, k2, e2, q5⟩ => ?_))
    subst e2
    cases r5
    exact wpAny_truthy_bool ⟨H5, I5, q5⟩
theorem line63 : (sizeLine : Nat) < 2 ^ 63 := by rw [sizeLine_eq]; decide
theorem vals1 {x : V} {us : List Value} (r : Vals [x] us) : ∃ u, us = [u] ∧ RelV x u := by
  cases r with
  | cons r1 r2 => cases r2; exact ⟨_, rfl, r1⟩
end
end L2
namespace L2
open PySem PySem.Spec PyProof.Rows
structure ObjM (h : Heap) (x dx C : Addr) (mA : Str → Option Value) : Prop where
  obj : h.get? x = some (PySem.W.instObj C dx)
  ns : h.Ns1 dx mA
  ne : dx ≠ x
theorem lookIn_ns {h : Heap} {dx : Addr} {mA : Str → Option Value} (n : h.Ns1 dx mA) : ∃ od, h.get? dx = some od ∧ ∀ name, PySem.W.lookIn name od = some (mA name) := by
  obtain ⟨o, es, ep, ho, hd, hk, _, hm⟩ := n
  refine ⟨o, ho, fun name => ?_⟩
  have e := hm name
  unfold nsFind findBy at e
  rw [← Array.find?_toList] at e
  unfold PySem.W.lookIn
  rw [hd]
  dsimp only
  split
  · rename_i y q
    rw [q] at e
    exact congrArg some e
  · rename_i q
    rw [q] at e
    have a : es.toList.any (·.refKey) = false := by
      rw [List.any_eq_false]
      intro y hy
      obtain ⟨z, t, hkey⟩ := hk y (Array.mem_toList_iff.mp hy)
      simp [DictEntry.refKey, hkey]
    have a' : ¬ es.toList.any (·.refKey) = true := by rw [a]; exact Bool.false_ne_true
    rw [if_neg a']
    exact congrArg some e
theorem ObjM.look {h : Heap} {x dx C : Addr} {mA : Str → Option Value} (I : ObjM h x dx C mA) : ∃ od, PySem.W.InstAt h x (PySem.W.instObj C dx) C (some od) ∧ ∀ name, PySem.W.lookIn name od = some (mA name) :=
  let ⟨od, ho, hl⟩ := lookIn_ns I.ns
  ⟨od, ⟨I.obj, rfl, rfl, ho⟩, hl⟩
section
variable {prog : Program} {w : World} {A : Around} {E : Value → Shared → Prop} {s : Shared} {K : PySem.W.Frag} {x dx C f : Addr} {mA : Str → Option Value} {name : Str} {v : Value}
theorem get_map {expr : Bool} {Q : Value → Shared → Prop} (X : K.In s.heap) (I : ObjM s.heap x dx C mA) (hg : PySem.W.plainGet K C name = true) (hh : PySem.W.hasDictIn K C = true)
    (ha : PySem.W.findIn K (.ref C) name = some none) (hv : mA name = some v) (hv' : PySem.W.handedIn v = true) (h : Q v { s with toks := s.toks + 1 }) :
    wpAny (model prog w) A (getAttr (.ref x) name expr) Q E s := by
  obtain ⟨od, J, hl⟩ := I.look
  exact PySem.W.get_value X J (PySem.W.plainGet_of hg).1 (PySem.W.findObj_own hh ha rfl (by rw [hl, hv])) hv' h
theorem get_meth {pl : Sem Bool} {Q : Value × List Value → Shared → Prop} (X : K.In s.heap) (I : ObjM s.heap x dx C mA) (hg : PySem.W.plainGet K C name = true)
    (hf : PySem.W.findIn K (.ref C) name = some (some (.ref f))) (ht : PySem.W.isFn K (.ref f) = true) (hv : mA name = none) (h : Q (.ref f, [.ref x]) s) :
    wpAny (model prog w) A (getMethod (.ref x) name pl) Q E s := by
  obtain ⟨od, J, hl⟩ := I.look
  exact PySem.W.method_fn X J (PySem.W.plainGet_of hg).1 (PySem.W.plainGet_of hg).2 hf (beq_iff_eq.mp ht) (by show (PySem.W.lookIn name od).map (·.isSome) = some false; rw [hl, hv]; rfl) h
theorem set_map {ns : List Str} {Q : Unit → Shared → Prop} (X : K.In s.heap) (I : ObjM s.heap x dx C mA)
    (hs : PySem.W.findIn K (.ref C) "__setattr__" = some (some (.builtin "object.__setattr__"))) (hp : PySem.W.plainOver K C = true) (ht : PySem.W.takerIn K C name = some none) (hh : PySem.W.hasDictIn K C = true)
    (hw : PySem.Within mA ns) (hsz : ns.length ≤ sizeLine)
    (h : ∀ h', ObjM h' x dx C (fun y => if y = name then some v else mA y) → Heap.SameBut dx s.heap h' → Q () { s with heap := h', toks := s.toks + 2 }) :
    wpAny (model prog w) A (setAttr (.ref x) name v) Q E s := by
  obtain ⟨od, J, hl⟩ := I.look
  refine PySem.W.set_plain X J hs (PySem.W.osa_open (s := { s with toks := s.toks + 1 }) (r := none) X J hp ht fun b => ?_)
  obtain ⟨cd, hc, hd'⟩ := PySem.W.any_some hh
  have hx : s.heap.get? x = some ⟨.ref C, some dx, .plain, #[]⟩ := I.obj
  refine wpAny_bind (wpAny_pure (wpAny_bind (wpAny_bind (wpAny_loadPart hx (wpAny_bind (PySem.W.Looks.here (s := { s with toks := s.toks + 1 }) (PySem.W.looks_clsIn X hc) ?_))))))
  rw [hd']
  refine wpAny_pure (a := some dx) (wpAny_bind (wpAny_pure (wpAny_bind ?_)))
  refine wpAny_nsSet1 (s := { s with toks := s.toks + 1 }) I.ns fun h' hn2 hs2 => ?_
  obtain ⟨oD, esD, epD, hoD, hdD, hcD⟩ := hn2.count (PySem.Within.cons name v hw)
  refine wpAny_bind (wpAny_lookBehind hoD (by rw [hdD]; exact pastItsLine_dict (Nat.le_trans hcD (by rw [List.length_cons]; omega))) ?_)
  exact wpAny_pure (h _ ⟨(hs2.2 _ (Ne.symm I.ne)).trans I.obj, hn2, I.ne⟩ hs2)
/-- C(..): the dict at the heap's end, the instance behind it; then its __init__ -/
theorem make_map {R : Result → Shared → Prop} {vs : List Value} {kw : List (Str × Value)} (X : K.In s.heap) (hm : PySem.W.makesIn K C = true)
    (hi : PySem.W.findIn K (.ref C) "__init__" = some (some (.ref f))) (hf : PySem.W.typeIn K (.ref f) = some (.type "function"))
    (h : codeAny (model prog w) (A.under (.builtin "type.__call__" ⟨.ref C :: vs, kw⟩)) (.call (.ref f) ⟨.ref (s.heap.objs.size + 1) :: vs, kw⟩) (PySem.W.InitBack (s.heap.objs.size + 1) R)
      { s with heap := (s.heap.push PySem.W.emptyDict).push (PySem.W.instObj C s.heap.objs.size) }) :
    codeAny (model prog w) A (.call (.ref C) ⟨vs, kw⟩) R s := by
  obtain ⟨hh, g, d, t, os⟩ := s
  exact PySem.W.make_core (PySem.W.makes_of X hm) (PySem.W.looks_findIn X hi) (fun self => PySem.W.bind_fn X self hf) (.inl rfl) h
end
def putF (f : Str) (v : V) : List (Str × V) → List (Str × V)
  | [] => [(f, v)]
  | (g, x) :: r => if g = f then (g, v) :: r else (g, x) :: putF f v r
theorem lookup_putF (f g : Str) (v : V) : ∀ fs : List (Str × V), (putF f v fs).lookup g = if g = f then some v else fs.lookup g
  | [] => by
    show List.lookup g [(f, v)] = _
    by_cases h : g = f
    · have hb : (g == f) = true := beq_iff_eq.mpr h
      simp only [List.lookup, hb, if_pos h]
    · have hb : (g == f) = false := beq_eq_false_iff_ne.mpr h
      simp only [List.lookup, hb, if_neg h]
  | (k, x) :: r => by
    have ih := lookup_putF f g v r
    rw [show putF f v ((k, x) :: r) = (if k = f then (k, v) :: r else (k, x) :: putF f v r) from rfl]
    by_cases hk : k = f
    · rw [if_pos hk]
      by_cases h : g = k
      · have hb : (g == k) = true := beq_iff_eq.mpr h
        simp only [List.lookup, hb, if_pos (h.trans hk)]
      · have hb : (g == k) = false := beq_eq_false_iff_ne.mpr h
        simp only [List.lookup, hb, if_neg (fun e : g = f => h (e.trans hk.symm))]
    · rw [if_neg hk]
      by_cases h : g = k
      · have hb : (g == k) = true := beq_iff_eq.mpr h
        simp only [List.lookup, hb, if_neg (fun e : g = f => hk (h.symm.trans e))]
      · have hb : (g == k) = false := beq_eq_false_iff_ne.mpr h
        simp only [List.lookup, hb]
        exact ih
theorem keys_putF (f : Str) (v : V) : ∀ fs : List (Str × V), f ∈ (putF f v fs).map (·.1) ∧ ∀ g, g ∈ fs.map (·.1) → g ∈ (putF f v fs).map (·.1)
  | [] => ⟨by simp [putF], fun g h => by simp at h⟩
  | (k, x) :: r => by
    obtain ⟨i1, i2⟩ := keys_putF f v r
    rw [show putF f v ((k, x) :: r) = (if k = f then (k, v) :: r else (k, x) :: putF f v r) from rfl]
    by_cases hk : k = f
    · rw [if_pos hk]
      subst hk
      exact ⟨by simp, fun g h => by simpa using h⟩
    · rw [if_neg hk]
      refine ⟨?_, fun g h => ?_⟩
      · rw [List.map_cons]
        exact List.mem_cons_of_mem _ i1
      · rw [List.map_cons] at h ⊢
        rcases List.mem_cons.mp h with e | e
        · exact List.mem_cons.mpr (.inl e)
        · exact List.mem_cons_of_mem _ (i2 g e)
theorem length_putF (f : Str) (v : V) : ∀ fs : List (Str × V), (putF f v fs).length ≤ fs.length + 1
  | [] => by simp [putF]
  | (k, x) :: r => by
    have ih := length_putF f v r
    rw [show putF f v ((k, x) :: r) = (if k = f then (k, v) :: r else (k, x) :: putF f v r) from rfl]
    by_cases hk : k = f
    · rw [if_pos hk, List.length_cons, List.length_cons]; omega
    · rw [if_neg hk, List.length_cons, List.length_cons]; omega
theorem RelO.some_of {v : V} {o : Option Value} (r : RelO (some v) o) : ∃ u, o = some u ∧ RelV v u := by
  cases o with
  | none => exact (show False from r).elim
  | some u => exact ⟨u, rfl, r⟩
theorem RelO.none_of {o : Option Value} (r : RelO none o) : o = none := by
  cases o with
  | none => rfl
  | some u => exact (show False from r).elim
theorem handed_of {v : V} {u : Value} (r : RelV v u) : PySem.W.handedIn u = true := by
  cases v with
  | non => cases (show u = Value.none from r); rfl
  | bl b => cases (show u = Value.bool b from r); rfl
  | int i => obtain ⟨t, e⟩ := (show ∃ t, u = Value.int i t from r); cases e; rfl
  | str x => obtain ⟨t, e⟩ := (show ∃ t, u = Value.str x t from r); cases e; rfl
  | byt b => obtain ⟨t, e⟩ := (show ∃ t, u = Value.bytes b t from r); cases e; rfl
  | flt b => obtain ⟨t, e⟩ := (show ∃ t, u = Value.float b t from r); cases e; rfl
  | ref a => cases (show u = Value.ref a from r); rfl
  | ty n => cases (show u = Value.type n from r); rfl
section
variable {P : Program} {w : World} {H H' : Hp} {h h' : Heap} {a C dx : Addr} {fs fs' : List (Str × V)}
theorem ins_get (hok : HOk P w H h) (e : H a = some (.ins C dx fs)) : ∃ mA, ObjM h a dx C mA ∧ (∀ f, RelO (fs.lookup f) (mA f)) ∧ PySem.Within mA (fs.map (·.1)) ∧ fs.length ≤ 1000 ∧ H dx = some (.own a) := by
  obtain ⟨d, z, ne, ob, mA, n, r, q⟩ := (show ObjOk P w H h a (.ins C dx fs) from hok a _ e)
  exact ⟨mA, ⟨ob, n, ne⟩, r, q, z, d⟩
end
structure Cls (K : PySem.W.Frag) (C : Addr) : Prop where
  pg : PySem.W.plainGet K C Str.empty = true
  hd : PySem.W.hasDictIn K C = true
  po : PySem.W.plainOver K C = true
  sa : PySem.W.findIn K (.ref C) "__setattr__" = some (some (.builtin "object.__setattr__"))
theorem Cls.get {K : PySem.W.Frag} {C : Addr} (c : Cls K C) (f : Str) : PySem.W.plainGet K C f = true := c.pg
/-- no class of it has the name -/
def NoAttr (K : PySem.W.Frag) (C : Addr) (f : Str) : Prop := PySem.W.findIn K (.ref C) f = some none
theorem NoAttr.taker {K : PySem.W.Frag} {C : Addr} {f : Str} (n : NoAttr K C f) : PySem.W.takerIn K C f = some none := by
  unfold PySem.W.takerIn
  rw [show PySem.W.findIn K (.ref C) f = some none from n]
  rfl
/-- a method: a plain def of the class or of one above it -/
structure Meth (K : PySem.W.Frag) (C : Addr) (m : Str) (f : Addr) : Prop where
  at_ : PySem.W.findIn K (.ref C) m = some (some (.ref f))
  fn : PySem.W.isFn K (.ref f) = true
  kp : PySem.W.keepIn K (.ref f) = true
section
variable {X : Cx} {pins : List (Addr × Obj)} {σ : St} {H : Hp} {s : Shared} {a C dx : Addr} {fs : List (Str × V)} {f : Str} {v : V} {A : Around} {E : Value → Shared → Prop}
theorem getattr_ok {b : Bool} {Q : Value → Shared → Prop} (I : Inv X pins σ H s) (e : H a = some (.ins C dx fs)) (c : Cls X.K C) (n : NoAttr X.K C f) (l : fs.lookup f = some v)
    (h : ∀ u s', Inv X pins σ H s' → RelV v u → Q u s') : wpAny (model X.prog X.w) A (getAttr (.ref a) f b) Q E s := by
  obtain ⟨mA, O, r, _, _, _⟩ := ins_get I.hok e
  obtain ⟨u, hu, ru⟩ := RelO.some_of (v := v) (o := mA f) (by rw [← l]; exact r f)
  exact get_map I.kIn O (c.get f) c.hd n hu (handed_of ru) (h u _ (I.tok _) ru)
theorem getmeth_ok {m : Str} {g : Addr} {pl : Sem Bool} {Q : Value × List Value → Shared → Prop} (I : Inv X pins σ H s) (e : H a = some (.ins C dx fs)) (c : Cls X.K C) (k : Meth X.K C m g) (l : fs.lookup m = none)
    (h : Q (.ref g, [.ref a]) s) : wpAny (model X.prog X.w) A (getMethod (.ref a) m pl) Q E s := by
  obtain ⟨mA, O, r, _, _, _⟩ := ins_get I.hok e
  have hn : mA m = none := RelO.none_of (by rw [← l]; exact r m)
  exact get_meth I.kIn O (c.get m) k.at_ k.fn hn h
theorem setattr_ok {y : V} {u : Value} {Q : Unit → Shared → Prop} (I : Inv X pins σ H s) (e : H a = some (.ins C dx fs)) (c : Cls X.K C) (n : NoAttr X.K C f) (hl : fs.length < 1000) (ry : RelV y u)
    (h : ∀ s', Inv X pins σ (upd H a (.ins C dx (putF f y fs))) s' → Q () s') : wpAny (model X.prog X.w) A (setAttr (.ref a) f u) Q E s := by
  obtain ⟨mA, O, r, wi, _, ho⟩ := ins_get I.hok e
  have hz : (fs.map (·.1)).length ≤ sizeLine := by rw [List.length_map, sizeLine_eq]; omega
  refine set_map I.kIn O c.sa c.po n.taker c.hd wi hz fun h' O' sb => h _ ?_
  have hd : ∃ o, h'.get? dx = some o := let ⟨o, _, _, e', _⟩ := O'.ns; ⟨o, e'⟩
  refine I.write (x := a) (e := dx) (by rw [e]; exact True.intro) (.inr ho) (fun b q hb z => (sb.2 b hb).trans z) hd ?_
  refine ⟨by rw [upd_ne O.ne]; exact ho, ?_, O.ne, O'.obj, _, O'.ns, fun g => ?_, fun g hg => ?_⟩
  · have := length_putF f y fs; omega
  · show RelO ((putF f y fs).lookup g) (if g = f then some u else mA g)
    rw [lookup_putF]
    by_cases q : g = f
    · rw [if_pos q, if_pos q]; exact ry
    · rw [if_neg q, if_neg q]; exact r g
  · by_cases q : g = f
    · rw [q]; exact (keys_putF f y fs).1
    · refine (keys_putF f y fs).2 g (wi g fun z => hg ?_)
      show (if g = f then some u else mA g) = none
      rw [if_neg q]; exact z
/-- a new instance, tracked, without attributes -/
theorem Inv.made (I : Inv X pins σ H s) : Inv X pins σ (upd (upd H s.heap.objs.size (.own (s.heap.objs.size + 1))) (s.heap.objs.size + 1) (.ins C s.heap.objs.size []))
    { s with heap := (s.heap.push PySem.W.emptyDict).push (PySem.W.instObj C s.heap.objs.size) } := by
  have e1 : (s.heap.push PySem.W.emptyDict).get? s.heap.objs.size = some PySem.W.emptyDict := Heap.get?_push_size s.heap rfl
  have e2 : ((s.heap.push PySem.W.emptyDict).push (PySem.W.instObj C s.heap.objs.size)).get? (s.heap.objs.size + 1) = some (PySem.W.instObj C s.heap.objs.size) := by
    have := Heap.get?_push_size (s.heap.push PySem.W.emptyDict) (o := PySem.W.instObj C s.heap.objs.size) rfl
    rwa [Heap.size_push] at this
  have e3 : (s.heap.push PySem.W.emptyDict).Ns s.heap.objs.size (fun _ => none) := ⟨PySem.W.emptyDict, #[], _, e1, rfl, (fun e he => absurd he (by simp)), fun _ => rfl⟩
  have I1 := I.laid (a := s.heap.objs.size) (o := .own (s.heap.objs.size + 1)) (h' := s.heap.push PySem.W.emptyDict) (t' := s.toks) (fun b u q => Heap.get?_push_of_some _ q) (Nat.le_refl _) ⟨_, e1⟩
  refine I1.laid (a := s.heap.objs.size + 1) (o := .ins C s.heap.objs.size []) (t' := s.toks) (fun b u q => Heap.get?_push_of_some _ q) (Nat.le_of_eq (Heap.size_push _ _)) ?_
  have ne : s.heap.objs.size ≠ s.heap.objs.size + 1 := Nat.ne_of_lt (Nat.lt_succ_self _)
  refine ⟨by rw [upd_ne ne, upd_same], Nat.zero_le _, ne, e2, fun _ => none, (Heap.Ns1.of_empty e3).at fun o q => Heap.get?_push_of_some _ q, fun _ => True.intro, fun y hy => absurd rfl hy⟩
/-- e.f where nothing but the object is asked: through attributeBase (super) and the last hold -/
theorem attr_of {prog : Program} {w : World} {env : Env} {e : Expr} {f : Str} {pos : Pos} {s : Shared} {Q : Value → Shared → Prop} (hb : attributeBase e f env (eval e env) = eval e env)
    (h : wpAny (model prog w) A (eval e env) (fun o s₁ => wpAny (model prog w) A (getAttr o f true) Q E s₁) E s) : wpAny (model prog w) A (eval (.Attribute e f pos) env) Q E s :=
  Attribute_any_ h (by rw [arm_eval_Attribute, hb])
end
/-- e.f, an attribute of the instance -/
def tFld (K : PySem.W.Frag) (ta : TE) (f : Str) : TE := fun σ H Q => ta σ H fun x H1 => ∃ a C dx fs v, x = .ref a ∧ H1 a = some (.ins C dx fs) ∧ Cls K C ∧ NoAttr K C f ∧ fs.lookup f = some v ∧ Q v H1
/-- e.f = value -/
def sFld (K : PySem.W.Frag) (ta tv : TE) (f : Str) : TS := fun D σ H => tv σ H fun y H1 => ta σ H1 fun x H2 => ∃ a C dx fs, x = .ref a ∧ H2 a = some (.ins C dx fs) ∧ Cls K C ∧ NoAttr K C f ∧ fs.length < 1000 ∧
  D.nx σ (upd H2 a (.ins C dx (putF f y fs)))
section
variable {X : Cx} {o e value : Expr} {f : Str} {pos pos' tpos : Pos} {ta tv : TE}
theorem pe_fld (he : PE X e ta) (hb : attributeBase e f X.env (eval e X.env) = eval e X.env) : PE X (.Attribute e f pos) (tFld X.K ta f) := by
  intro pins s σ H Q I h
  refine attr_of hb (thn (he pins s σ H _ I h) fun u s1 ⟨x, H1, I1, rx, a, C, dx, fs, v, ex, ea, c, n, l, q⟩ => ?_)
  subst ex
  obtain rfl : u = Value.ref a := rx
  exact getattr_ok I1 ea c n l fun u' s2 I2 ru => ⟨v, H1, I2, ru, q⟩
theorem ps_fld (ha : PE X o ta) (hv : PE X value tv) (hs : swapsWith value (some (.Attribute o f pos')) pos.line X.env = pure false) : PS X (.Assign [.Attribute o f pos'] value pos) (sFld X.K ta tv f) := by
  intro pins s σ H D I h
  refine plainObj_wpAny_Assign_Attribute (thn (hv pins s σ H _ I h) fun u s1 ⟨y, H1, I1, ry, q⟩ => thn (ha pins s1 σ H1 _ I1 q) fun ov s2 ⟨x, H2, I2, rx, a, C, dx, fs, ex, ea, c, n, l, q2⟩ => ?_) hs
  subst ex
  obtain rfl : ov = Value.ref a := rx
  exact setattr_ok I2 ea c n l ry fun s3 I3 => ⟨σ, _, I3, q2⟩
/-- what is between an instance and its method: the tree of a method call -/
theorem methcall_of {pl : Sem Bool} {m : Str} {apos : Pos} {args : List Expr} {pins : List (Addr × Obj)} {s : Shared} {σ : St} {H : Hp} {Q : Value → Shared → Prop} {te : TE} (he : PE X e te) (I : Inv X pins σ H s)
    (h : te σ H fun x H1 => ∃ a C dx fs g, x = .ref a ∧ H1 a = some (.ins C dx fs) ∧ Cls X.K C ∧ Meth X.K C m g ∧ fs.lookup m = none ∧
      ∀ s1, Inv X pins σ H1 s1 → wpAny (model X.prog X.w) X.A (callWith pos (.ref g) [.ref a] (backTo pos (starEach args X.env)) (backToKw pos (keywordEach [] X.env))) Q X.xe s1)
    (ht : eval (.Call (.Attribute e m apos) args [] pos) X.env = (do
      let ov ← eval e X.env
      standAt apos.atName
      let (f, first) ← holding [ov] (getMethod ov m pl)
      callWith pos f first (backTo pos (starEach args X.env)) (backToKw pos (keywordEach [] X.env)))) :
    wpAny (model X.prog X.w) X.A (eval (.Call (.Attribute e m apos) args [] pos) X.env) Q X.xe s := by
  refine PySem.W.methodCall_KW (pl := pl) (thn (he pins s σ H _ I h) fun u s1 ⟨x, H1, I1, rx, a, C, dx, fs, g, ex, ea, c, k, l, q⟩ => ?_) ht
  subst ex
  obtain rfl : u = Value.ref a := rx
  exact getmeth_ok I1 ea c k l (q s1 I1)
end
section
variable {X : Cx} {pins : List (Addr × Obj)} {σ : St} {H : Hp} {s : Shared} {A : Around} {E : Value → Shared → Prop} {Q : Value → Shared → Prop} {c : Value} {b : Bool}
end
end L2
namespace L2
open PySem PySem.Spec PyProof.Rows
structure Room (k : Nat) (A : Around) : Prop where
  hd : A.handled = none
  dp : A.depth + 3 * k + 5 < recursionLimit
  un : A.units + 16 * k + 200 < cLine
theorem Room.mono {j k : Nat} {A : Around} (r : Room k A) (h : j ≤ k) : Room j A := ⟨r.hd, by have := r.dp; omega, by have := r.un; omega⟩
theorem Room.deeper {k : Nat} {A : Around} (r : Room (k + 1) A) (env : Env) : Room k (A.deeper env) :=
  ⟨r.hd, by have := r.dp; show A.depth + 1 + 3 * k + 5 < _; omega, by have := r.un; show A.units + 3 + 16 * k + 200 < _; omega⟩
theorem make_depth {A : Around} {C : Addr} {us : List Value} {kw : List (Str × Value)} : (A.under (.builtin "type.__call__" ⟨.ref C :: us, kw⟩)).depth = A.depth + 1 := by
  first | rfl | simp [Around.under, Code.weight, Code.isCreation, Code.isGuard, Code.isCaller, Code.frames, Code.isFrame, guardIds]
theorem make_units {A : Around} {C : Addr} {us : List Value} {kw : List (Str × Value)} : (A.under (.builtin "type.__call__" ⟨.ref C :: us, kw⟩)).units = A.units + 1 := by
  first | rfl | simp [Around.under, Code.cUnits, Code.frames, Code.isFrame]
theorem Room.make {k : Nat} {A : Around} (r : Room (k + 1) A) (C : Addr) (us : List Value) (kw : List (Str × Value)) : Room k (A.under (.builtin "type.__call__" ⟨.ref C :: us, kw⟩)) :=
  ⟨r.hd, by have := r.dp; rw [make_depth]; omega, by have := r.un; rw [make_units]; omega⟩
theorem Room.depth {k : Nat} {A : Around} (r : Room k A) : A.depth < recursionLimit := by have := r.dp; omega
theorem Room.units {k : Nat} {A : Around} (r : Room k A) : A.units + 64 < cLine := by have := r.un; omega
def tNil : TA := fun _ H Q => Q [] H
def tCons (ta : TE) (tr : TA) : TA := fun σ H Q => ta σ H fun x H1 => tr σ H1 fun xs H2 => Q (x :: xs) H2
section
variable {X : Cx} {e : Expr} {es : List Expr} {te : TE} {t : TA} {pos : Pos}
theorem pa_nil : PA X [] tNil := fun _ _ _ _ H Q I h => Calls.spliced_nil ⟨[], H, I, .nil, h⟩
theorem pa_cons (ha : PE X e te) (hr : PA X es t) (hs : starEach (e :: es) X.env = (false, eval e X.env) :: starEach es X.env := by rfl) : PA X (e :: es) (tCons te t) := by
  intro pos pins s σ H Q I h
  rw [hs]
  show wpAny _ _ (spliced ((false, eval e X.env) :: backTo pos (starEach es X.env))) _ _ s
  refine Calls.spliced_cons (thn (ha pins s σ H _ I h) fun u s1 ⟨x, H1, I1, r1, q1⟩ => ?_)
  exact thn (hr pos pins s1 σ H1 _ I1 q1) fun us s2 ⟨xs, H2, I2, r2, q2⟩ => ⟨x :: xs, H2, I2, .cons r1 r2, q2⟩
/-- a tuple, a list of written items -/
def tTup (t : TA) : TE := fun σ H Q => t σ H fun xs H1 => xs.length ≤ sizeLine ∧ ∀ p, H1 p = none → Q (.ref p) (upd H1 p (.tup xs))
def tLst (t : TA) : TE := fun σ H Q => t σ H fun xs H1 => xs.length ≤ sizeLine ∧ ∀ p, H1 p = none → Q (.ref p) (upd H1 p (.lst xs))
theorem pe_tup {x1} (h : PA X es t) : PE X (.Tuple es x1 pos) (tTup t) := by
  intro pins s σ H Q I hq
  refine wpAny_Tuple_spliced (thn (h pos pins s σ H _ I hq) fun us s1 ⟨xs, H1, I1, r, z, q⟩ => ⟨by rw [← r.length]; exact z, ?_⟩)
  have hf : H1 s1.heap.objs.size = none := I1.hok.fresh (Nat.le_refl _)
  refine ⟨.ref s1.heap.objs.size, upd H1 s1.heap.objs.size (.tup xs), I1.laid (t' := s1.toks) (fun b u e => Heap.get?_push_of_some _ e) (Nat.le_refl _) ?_, rfl, q _ hf⟩
  exact ⟨z, us, r, ⟨_, Heap.get?_push_size _ rfl, rfl, _, rfl⟩⟩
theorem pe_lst (h : PA X es t) : PE X (.List es pos) (tLst t) := by
  intro pins s σ H Q I hq
  refine wpAny_List_spliced (thn (h pos pins s σ H _ I hq) fun us s1 ⟨xs, H1, I1, r, z, q⟩ => ⟨by rw [← r.length]; exact z, ?_⟩)
  have hf : H1 s1.heap.objs.size = none := I1.hok.fresh (Nat.le_refl _)
  refine ⟨.ref s1.heap.objs.size, upd H1 s1.heap.objs.size (.lst xs), I1.laid (t' := s1.toks) (fun b u e => Heap.get?_push_of_some _ e) (Nat.le_refl _) ?_, rfl, q _ hf⟩
  exact ⟨z, us, 0, r, Heap.get?_push_size _ rfl⟩
end
/-- a def's promise: the bound arguments in the parameters' order, the heap, the wanted end, the wanted exception -/
abbrev Sp := List V → Hp → VK → XK → Prop
/-- how an exception lies behind a call (file 08 gives it): the callers' frames, abstract heap and state ahead of the call, the wish, the exception, the state -/
abbrev CXT := List Env → Hp → Shared → XK → Value → Shared → Prop
/-- the state at a call -/
structure Env0 (P : Program) (w : World) (K : PySem.W.Frag) (mg : Str → Option Value) (base : Heap) (A : Around) (outer : List Env) (s : Shared) (H : Hp) : Prop where
  frames : A.frames = some outer
  mod : Mod K mg base
  bs : ∀ b o, base.get? b = some o → s.heap.get? b = some o ∧ H b = none
  bsz : base.objs.size ≤ s.heap.objs.size
  funs : s.heap.FunFrames base outer
  frf : ∀ b ∈ frs outer, H b = none
  hok : HOk P w H s.heap
  bare : AllBare s.gens
/-- a call's end -/
def CE (outer : List Env) (P : Program) (w : World) (H : Hp) (s : Shared) (Q : VK) (u : Value) (s' : Shared) : Prop :=
  ∃ v H', s'.os = s.os ∧ AllBare s'.gens ∧ Un (frs outer) [] H H' s.heap s'.heap ∧ HOk P w H' s'.heap ∧ RelV v u ∧ Q v H'
def CR (CX : CXT) (outer : List Env) (P : Program) (w : World) (H : Hp) (s : Shared) (Q : VK) (E : XK) (r : Result) (s' : Shared) : Prop :=
  match r with
  | .ok (.ret u) => CE outer P w H s Q u s'
  | .ok _ => False
  | .error e => CX outer H s E e s'
structure FnOk (P : Program) (w : World) (K : PySem.W.Frag) (mg : Str → Option Value) (base : Heap) (CX : CXT) (k : Nat) (f : Addr) (fd : FuncData) (ps : List Str) (sp : Sp) : Prop where
  len : ∀ vs H Q E, sp vs H Q E → vs.length = ps.length
  run : ∀ (A : Around) (outer : List Env) (s : Shared) (H : Hp) (args : Args) (us : List Value) (vs : List V) (Q : VK) (E : XK), Room k A → Env0 P w K mg base A outer s H → BindsTo s fd args (ps.zip us) → Vals vs us → sp vs H Q E →
    codeAny (model P w) A (.call (.ref f) args) (CR CX outer P w H s Q E) s
theorem FnOk.mono {P : Program} {w : World} {K : PySem.W.Frag} {mg : Str → Option Value} {base : Heap} {CX : CXT} {j k : Nat} {f : Addr} {fd : FuncData} {ps : List Str} {sp : Sp} (F : FnOk P w K mg base CX j f fd ps sp) (h : j ≤ k) :
    FnOk P w K mg base CX k f fd ps sp := ⟨F.len, fun A outer s H args us vs Q E hr => F.run A outer s H args us vs Q E (hr.mono h)⟩
theorem Env0.make {P : Program} {w : World} {K : PySem.W.Frag} {mg : Str → Option Value} {base : Heap} {A : Around} {outer : List Env} {s : Shared} {H : Hp} (e : Env0 P w K mg base A outer s H) (C : Addr) (us : List Value) (kw : List (Str × Value)) :
    Env0 P w K mg base (A.under (.builtin "type.__call__" ⟨.ref C :: us, kw⟩)) outer s H := ⟨by first | exact e.frames | (simpa [Around.under, Code.envs, Code.isFrame, pushEnvs] using e.frames), e.mod, e.bs, e.bsz, e.funs, e.frf, e.hok, e.bare⟩
section
variable {X : Cx} {pins : List (Addr × Obj)} {σ : St} {H : Hp} {s s' : Shared}
/-- from a body: what a callee wants -/
theorem Inv.env0 (I : Inv X pins σ H s) : Env0 X.prog X.w X.K X.mg X.base X.A X.stack s H :=
  ⟨I.ok.frames, I.ok.mod, I.bs, Nat.le_trans I.ok.bsz I.sz, I.stack, I.stkFree, I.hok, I.bare⟩
/-- behind a call -/
theorem Inv.after {Q : VK} {u : Value} (I : Inv X pins σ H s) (h : CE X.stack X.prog X.w H s Q u s') : EP X pins σ Q u s' := by
  obtain ⟨v, H', os, bare, un, hok, r, q⟩ := h
  obtain ⟨hh, g, d, t, os'⟩ := s'
  obtain rfl : os' = s.os := os
  exact ⟨v, H', I.call (h' := hh) (g' := g) (d' := d) (t' := t) (ch := []) un hok bare (fun b z => absurd z (by simp)), r, q⟩
end
/-- f(..): the written arguments, then the defaults dvs; E: what is wanted of an exception -/
def tCall (sp : Sp) (dvs : List V) (E : XK) (t : TA) : TE := fun σ H Q => t σ H fun vs H1 => sp (vs ++ dvs) H1 Q E
/-- o.m(..) of an instance of the class at C -/
def tMeth (C : Addr) (m : Str) (sp : Sp) (dvs : List V) (E : XK) (ta : TE) (t : TA) : TE := fun σ H Q => ta σ H fun x H1 => ∃ a dx fs, x = .ref a ∧ H1 a = some (.ins C dx fs) ∧ fs.lookup m = none ∧
  t σ H1 fun vs H2 => sp (x :: (vs ++ dvs)) H2 Q E
/-- C(..): a new instance and its dict, then __init__ -/
def tMake (C : Addr) (sp : Sp) (dvs : List V) (E : XK) (t : TA) : TE := fun σ H Q => t σ H fun vs H1 => ∀ x dx, H1 x = none → H1 dx = none → dx ≠ x →
  sp (.ref x :: (vs ++ dvs)) (upd (upd H1 dx (.own x)) x (.ins C dx [])) (fun v H2 => v = .non ∧ Q (.ref x) H2) E
/-- how the parameters are bound: us the positional arguments, kw the keywords' values by name, ds the defaults that fill up -/
def Binds (K : PySem.W.Frag) (fd : FuncData) (ps : List Str) (ds : List Value) : Prop :=
  ∀ (s : Shared) (us : List Value), K.In s.heap → (us ++ ds).length = ps.length → BindsTo s fd ⟨us, []⟩ (ps.zip (us ++ ds))
/-- every parameter is given -/
theorem Binds.all {K : PySem.W.Frag} {fd : FuncData} {ps : List Str} (h : ∀ us : List Value, us.length = ps.length → bindArgs fd ⟨us, []⟩ = pure (ps.zip us)) : Binds K fd ps [] := fun s us _ hl => by
  rw [List.append_nil] at hl ⊢
  exact .of_eq (h us hl)
/-- an exception of a callee reaches what this body wants of exceptions -/
def Passes (CX : CXT) (X : Cx) (E : XK) : Prop := ∀ (pins : List (Addr × Obj)) (σ : St) (H : Hp) (s : Shared) (e : Value) (s' : Shared), Inv X pins σ H s → CX X.stack H s E e s' → X.xe e s'
section
variable {X : Cx} {CX : CXT} {k : Nat} {f C : Addr} {fd : FuncData} {ps : List Str} {sp : Sp} {dvs : List V} {ds : List Value} {E : XK} {x m : Str} {p pos apos : Pos} {e o : Expr} {es : List Expr} {ta : TE} {t : TA}
/-- the callee runs -/
theorem run_fn {pins : List (Addr × Obj)} {σ : St} {H : Hp} {s : Shared} {Q : VK} {us : List Value} {vs : List V} (F : FnOk X.prog X.w X.K X.mg X.base CX k f fd ps sp) (hr : Room k X.A) (hb : Binds X.K fd ps ds) (hd : Vals dvs ds) (hx : Passes CX X E)
    (I : Inv X pins σ H s) (r : Vals vs us) (h : sp (vs ++ dvs) H Q E) : wpAny (model X.prog X.w) X.A (call (.ref f) us) (EP X pins σ Q) X.xe s := by
  have r2 : Vals (vs ++ dvs) (us ++ ds) := r.append hd
  have hl : (us ++ ds).length = ps.length := by rw [← r2.length]; exact F.len _ _ _ _ h
  refine wpAny_call (codeAny_mono (F.run X.A X.stack s H ⟨us, []⟩ (us ++ ds) (vs ++ dvs) Q E hr I.env0 (hb s us I.kIn hl) r2 h) fun r s' hq => ?_)
  cases r with
  | error e => exact hx pins σ H s e s' I hq
  | ok fl =>
    cases fl with
    | ret u => exact I.after hq
    | next => exact False.elim hq
    | brk => exact False.elim hq
    | cont => exact False.elim hq
theorem pe_call (F : FnOk X.prog X.w X.K X.mg X.base CX k f fd ps sp) (hr : Room k X.A) (hg : Gl X x) (hm : X.mg x = some (.ref f)) (hk : PySem.W.keepIn X.K (.ref f) = true) (hb : Binds X.K fd ps ds) (hd : Vals dvs ds) (hx : Passes CX X E)
    (ha : PA X (e :: es) t) (hdb : (x == ("__debug__" : Str)) = false := by decide) (he : starEach (e :: es) X.env = (false, eval e X.env) :: starEach es X.env := by rfl) (hpl : (backTo pos (starEach es X.env)).any (·.1) = false := by rfl) :
    PE X (.Call (.Name x p) (e :: es) [] pos) (tCall sp dvs E t) := by
  intro pins s σ H Q I h
  refine wpAny_Call_Name_kw (ld_glob I hg hm ?_ hdb)
  refine PySem.W.callWith_K (h₀ := X.base) I.ok.mod.kin hk (thn (ha pos pins s σ H _ I h) fun us s1 ⟨vs, H1, I1, r, q⟩ => ⟨I1.kIn, ?_⟩) he hpl
  exact run_fn F hr hb hd hx I1 r q
/-- o.m(e, ..) -/
theorem pe_meth {pl : Sem Bool} (he : PE X o ta) (c : Cls X.K C) (hm : Meth X.K C m f) (F : FnOk X.prog X.w X.K X.mg X.base CX k f fd ps sp) (hr : Room k X.A) (hb : Binds X.K fd ps ds) (hd : Vals dvs ds) (hx : Passes CX X E) (ha : PA X (e :: es) t)
    (hst : starEach (e :: es) X.env = (false, eval e X.env) :: starEach es X.env := by rfl) (hpl : (backTo pos (starEach es X.env)).any (·.1) = false := by rfl)
    (ht : eval (.Call (.Attribute o m apos) (e :: es) [] pos) X.env = (do
      let ov ← eval o X.env
      standAt apos.atName
      let (f, first) ← holding [ov] (getMethod ov m pl)
      callWith pos f first (backTo pos (starEach (e :: es) X.env)) (backToKw pos (keywordEach [] X.env))) := by rfl) :
    PE X (.Call (.Attribute o m apos) (e :: es) [] pos) (tMeth C m sp dvs E ta t) := by
  intro pins s σ H Q I h
  refine PySem.W.methodCall_KW (pl := pl) (thn (he pins s σ H _ I h) fun u s1 ⟨x, H1, I1, rx, a, dx, fs, ex, ea, l, q⟩ => ?_) ht
  subst ex
  obtain rfl : u = Value.ref a := rx
  refine getmeth_ok I1 ea c hm l ?_
  refine PySem.W.callWith_K (first := [.ref a]) (h₀ := X.base) I.ok.mod.kin hm.kp (thn (ha pos pins s1 σ H1 _ I1 q) fun us s2 ⟨vs, H2, I2, r, q2⟩ => ⟨I2.kIn, ?_⟩) hst hpl
  exact run_fn (us := .ref a :: us) (vs := .ref a :: vs) F hr hb hd hx I2 (.cons rfl r) q2
/-- o.m() -/
theorem pe_meth0 {pl : Sem Bool} (he : PE X o ta) (c : Cls X.K C) (hm : Meth X.K C m f) (F : FnOk X.prog X.w X.K X.mg X.base CX k f fd ps sp) (hr : Room k X.A) (hb : Binds X.K fd ps ds) (hd : Vals dvs ds) (hx : Passes CX X E)
    (ht : eval (.Call (.Attribute o m apos) [] [] pos) X.env = (do
      let ov ← eval o X.env
      standAt apos.atName
      let (f, first) ← holding [ov] (getMethod ov m pl)
      callWith pos f first (backTo pos (starEach [] X.env)) (backToKw pos (keywordEach [] X.env))) := by rfl) :
    PE X (.Call (.Attribute o m apos) [] [] pos) (tMeth C m sp dvs E ta tNil) := by
  intro pins s σ H Q I h
  refine PySem.W.methodCall_KW (pl := pl) (thn (he pins s σ H _ I h) fun u s1 ⟨x, H1, I1, rx, a, dx, fs, ex, ea, l, q⟩ => ?_) ht
  subst ex
  obtain rfl : u = Value.ref a := rx
  refine getmeth_ok I1 ea c hm l ?_
  exact PySem.W.callWith_K0 (first := [.ref a]) I1.kIn hm.kp (run_fn (us := [.ref a]) (vs := [.ref a]) F hr hb hd hx I1 (.cons rfl .nil) q)
/-- what a class must have to be made -/
structure Mk (K : PySem.W.Frag) (C f : Addr) : Prop where
  makes : PySem.W.makesIn K C = true
  init : PySem.W.findIn K (.ref C) "__init__" = some (some (.ref f))
  fn : PySem.W.isFn K (.ref f) = true
  kp : PySem.W.keepIn K (.ref C) = true
theorem run_make {pins : List (Addr × Obj)} {σ : St} {H : Hp} {s : Shared} {Q : VK} {us : List Value} {vs : List V} (M : Mk X.K C f) (F : FnOk X.prog X.w X.K X.mg X.base CX k f fd ps sp) (hr : Room (k + 1) X.A) (hb : Binds X.K fd ps ds) (hd : Vals dvs ds)
    (hx : Passes CX X E) (I : Inv X pins σ H s) (r : Vals vs us)
    (h : ∀ x dx, H x = none → H dx = none → dx ≠ x → sp (.ref x :: (vs ++ dvs)) (upd (upd H dx (.own x)) x (.ins C dx [])) (fun v H2 => v = .non ∧ Q (.ref x) H2) E) :
    wpAny (model X.prog X.w) X.A (call (.ref C) us) (EP X pins σ Q) X.xe s := by
  have hq := h (s.heap.objs.size + 1) s.heap.objs.size (I.hok.fresh (Nat.le_succ _)) (I.hok.fresh (Nat.le_refl _)) (Nat.ne_of_lt (Nat.lt_succ_self _))
  have I2 := Inv.made (C := C) I
  have r2 : Vals (V.ref (s.heap.objs.size + 1) :: (vs ++ dvs)) (Value.ref (s.heap.objs.size + 1) :: (us ++ ds)) := .cons rfl (r.append hd)
  have hl : (Value.ref (s.heap.objs.size + 1) :: us ++ ds).length = ps.length := by
    have e := r2.length
    rw [F.len _ _ _ _ hq] at e
    exact e.symm
  refine wpAny_call (make_map (f := f) I.kIn M.makes M.init (beq_iff_eq.mp M.fn) (codeAny_mono (F.run _ X.stack _ _ ⟨Value.ref (s.heap.objs.size + 1) :: us, []⟩ (Value.ref (s.heap.objs.size + 1) :: (us ++ ds)) _ _ E (hr.make C us [])
    (I2.env0.make C us []) (hb _ (Value.ref (s.heap.objs.size + 1) :: us) I2.kIn hl) r2 hq) fun r s' hq' => ?_))
  cases r with
  | error e => exact hx pins σ _ _ e s' I2 hq'
  | ok fl =>
    cases fl with
    | ret u =>
      obtain ⟨v, H', I3, rv, ev, q3⟩ := I2.after hq'
      subst ev
      exact ⟨rv, ⟨V.ref (s.heap.objs.size + 1), H', I3, rfl, q3⟩⟩
    | next => exact False.elim hq'
    | brk => exact False.elim hq'
    | cont => exact False.elim hq'
theorem pe_make (M : Mk X.K C f) (F : FnOk X.prog X.w X.K X.mg X.base CX k f fd ps sp) (hr : Room (k + 1) X.A) (hg : Gl X x) (hm : X.mg x = some (.ref C)) (hb : Binds X.K fd ps ds) (hd : Vals dvs ds) (hx : Passes CX X E)
    (ha : PA X (e :: es) t) (hdb : (x == ("__debug__" : Str)) = false := by decide) (he : starEach (e :: es) X.env = (false, eval e X.env) :: starEach es X.env := by rfl) (hpl : (backTo pos (starEach es X.env)).any (·.1) = false := by rfl) :
    PE X (.Call (.Name x p) (e :: es) [] pos) (tMake C sp dvs E t) := by
  intro pins s σ H Q I h
  refine wpAny_Call_Name_kw (ld_glob I hg hm ?_ hdb)
  refine PySem.W.callWith_K (h₀ := X.base) I.ok.mod.kin M.kp (thn (ha pos pins s σ H _ I h) fun us s1 ⟨vs, H1, I1, r, q⟩ => ⟨I1.kIn, ?_⟩) he hpl
  exact run_make M F hr hb hd hx I1 r q
theorem pe_make0 (M : Mk X.K C f) (F : FnOk X.prog X.w X.K X.mg X.base CX k f fd ps sp) (hr : Room (k + 1) X.A) (hg : Gl X x) (hm : X.mg x = some (.ref C)) (hb : Binds X.K fd ps ds) (hd : Vals dvs ds) (hx : Passes CX X E)
    (hdb : (x == ("__debug__" : Str)) = false := by decide) : PE X (.Call (.Name x p) [] [] pos) (tMake C sp dvs E tNil) := by
  intro pins s σ H Q I h
  refine wpAny_Call_Name_kw (ld_glob I hg hm ?_ hdb)
  exact PySem.W.callWith_K0 I.kIn M.kp (run_make (us := []) M F hr hb hd hx I .nil h)
end
section
variable {X : Cx} {CX : CXT} {k : Nat} {f C : Addr} {fd : FuncData} {ps ks : List Str} {sp : Sp} {E : XK} {x m : Str} {p pos apos kpos : Pos} {e o : Expr} {es : List Expr} {kws : List Keyword} {te ta : TE} {t tk : TA} {nm : Option Str}
variable {g : List Value → List Value → List Value} {gV : List V → List V → List V}
end
/-- names: the parameters first -/
structure FnScope (N P : List Str) (sc : Scope) : Prop where
  kind : sc.kind = .function
  co : sc.isCoroutine = false
  gen : sc.isGenerator = false
  nd : N.Nodup
  pre : N.take P.length = P
  par : ∀ x ∈ P, sc.names.lookup x = some .local ∨ sc.names.lookup x = some .cell
  nofree : ∀ y ∈ sc.names, y.2 ≠ .free
theorem bindL_out {kindOf : Str → Option NameKind} {x : Str} : ∀ {binds : List (Str × Value)} {m : Str → Option Value}, (∀ v, (x, v) ∉ binds) → bindL kindOf binds m x = m x
  | [], _, _ => rfl
  | (n, v) :: r, m, h => by
    unfold bindL
    rw [bindL_out fun w hw => h w (List.mem_cons_of_mem _ hw)]
    split
    · have : x ≠ n := by rintro rfl; exact h v List.mem_cons_self
      simp [this]
    · rfl
theorem bindC_out {kindOf : Str → Option NameKind} {x : Str} : ∀ {binds : List (Str × Value)} {m : Str → Option Value}, (∀ v, (x, v) ∉ binds) → bindC kindOf binds m x = m x
  | [], _, _ => rfl
  | (n, v) :: r, m, h => by
    unfold bindC
    rw [bindC_out fun w hw => h w (List.mem_cons_of_mem _ hw)]
    split
    · rfl
    · have : x ≠ n := by rintro rfl; exact h v List.mem_cons_self
      simp [this]
theorem bindL_get {kindOf : Str → Option NameKind} {x : Str} {v : Value} : ∀ {P : List Str} {vs : List Value} {i : Nat} {m : Str → Option Value}, P.Nodup → P[i]? = some x → vs[i]? = some v → kindOf x = some .local →
    bindL kindOf (P.zip vs) m x = some v
  | [], _, _, _, _, h, _, _ => by simp at h
  | _ :: _, [], _, _, _, _, h, _ => by simp at h
  | p :: P, w :: vs, 0, m, nd, h1, h2, hk => by
    simp at h1 h2; subst h1; subst h2
    show bindL kindOf ((p, w) :: P.zip vs) m p = _
    unfold bindL
    rw [bindL_out fun v hv => (List.nodup_cons.mp nd).1 (List.of_mem_zip hv).1, if_pos hk]
    simp
  | p :: P, w :: vs, i + 1, m, nd, h1, h2, hk => by
    show bindL kindOf ((p, w) :: P.zip vs) m x = _
    unfold bindL
    exact bindL_get (i := i) (List.nodup_cons.mp nd).2 (by simpa using h1) (by simpa using h2) hk
theorem bindC_get {kindOf : Str → Option NameKind} {x : Str} {v : Value} : ∀ {P : List Str} {vs : List Value} {i : Nat} {m : Str → Option Value}, P.Nodup → P[i]? = some x → vs[i]? = some v → kindOf x ≠ some .local →
    bindC kindOf (P.zip vs) m x = some v
  | [], _, _, _, _, h, _, _ => by simp at h
  | _ :: _, [], _, _, _, _, h, _ => by simp at h
  | p :: P, w :: vs, 0, m, nd, h1, h2, hk => by
    simp at h1 h2; subst h1; subst h2
    show bindC kindOf ((p, w) :: P.zip vs) m p = _
    unfold bindC
    rw [bindC_out fun v hv => (List.nodup_cons.mp nd).1 (List.of_mem_zip hv).1, if_neg hk]
    simp
  | p :: P, w :: vs, i + 1, m, nd, h1, h2, hk => by
    show bindC kindOf ((p, w) :: P.zip vs) m x = _
    unfold bindC
    exact bindC_get (i := i) (List.nodup_cons.mp nd).2 (by simpa using h1) (by simpa using h2) hk
/-- the names' values at the entry -/
def start (N : List Str) (vs : List V) : St := vs.map some ++ List.replicate (N.length - vs.length) none
/-- the context of a def's body, at its entry; an exception leaves the frame, then lies as CX says -/
def cxOf (CX : CXT) (P : Program) (w : World) (K : PySem.W.Frag) (mg : Str → Option Value) (base : Heap) (N : List Str) (qual : Str) (scope : Scope) (f : Addr) (cd : Value) (A : Around) (outer : List Env) (s : Shared) (H : Hp) (E : XK) : Cx where
  prog := P
  w := w
  K := K
  mg := mg
  base := base
  A := A.deeper (envOfC qual scope s.heap.objs.size f cd)
  N := N
  s₀ := s
  H₀ := H
  env := envOfC qual scope s.heap.objs.size f cd
  outer := outer
  stack := envOfC qual scope s.heap.objs.size f cd :: outer
  ex := []
  calm := true
  fn := fun _ => true
  pn := []
  xe := fun e s' => wpAny (model P w) (A.deeper (envOfC qual scope s.heap.objs.size f cd)) (leaving (envOfC qual scope s.heap.objs.size f cd) e) (fun _ s'' => CX outer H s E e s'') (fun e' s'' => CX outer H s E e' s'') s'
theorem cell_has {sc : Scope} {n : Nat} {x : Str} (h : sc.names.lookup x = some .cell) : ∃ c, (cellsFrom n sc.names []).lookup x = some c := by
  have q := PySem.W.cellsFrom_some sc.names n [] (.inl h)
  exact Option.isSome_iff_exists.mp q
theorem inv_start {CX : CXT} {P : Program} {w : World} {K : PySem.W.Frag} {mg : Str → Option Value} {base : Heap} {N ps : List Str} {qual : Str} {scope : Scope} {f : Addr} {cd : Value} {A : Around} {outer : List Env} {s s1 : Shared} {H : Hp} {E : XK} {us : List Value} {vs : List V}
    (S : FnScope N ps scope) (hd : A.handled = none) (e0 : Env0 P w K mg base A outer s H) (hl : vs.length = ps.length) (r : Vals vs us)
    (x : InCallC s s.heap.objs.size (bindL (envOfC qual scope s.heap.objs.size f cd).kindOf (ps.zip us) fun _ => none) (cellsFrom (s.heap.objs.size + 1) scope.names []) (bindC (envOfC qual scope s.heap.objs.size f cd).kindOf (ps.zip us) fun _ => none) s1) :
    Inv (cxOf CX P w K mg base N qual scope f cd A outer s H E) [] (start N vs) H s1 := by
  have hpl : ps.length ≤ N.length := by have := congrArg List.length S.pre; rw [List.length_take] at this; omega
  obtain ⟨h1, tk, rfl, hk⟩ := x.done
  have noA : ∀ b : Addr, b ∉ (cxOf CX P w K mg base N qual scope f cd A outer s H E).ex := fun b z => absurd (show b ∈ ([] : List Addr) from z) (by simp)
  refine ⟨⟨e0.mod, S.kind, rfl, rfl, Nat.le_refl _, fun y z c h1 h2 => ?_, fun y hy => ?_, fun y c _ h => ?_, fun _ => hd, Around.frames_deeper e0.frames, .inr ⟨rfl, rfl⟩, fun b z => absurd z (noA b), e0.bs, e0.bsz, fun b _ _ => noA b, fun b z => absurd z (noA b), e0.funs, e0.frf⟩,
    rfl, e0.bare, Un.kept hk, ⟨_, x.toInCall.ns, fun i y v h1 h2 h3 => ?_⟩, fun y c h => ⟨_, x.cell y c h⟩, e0.hok.fresh (Nat.le_refl _), fun y c h => ?_, fun p hp => absurd (show p ∈ ([] : List (Addr × Obj)) from hp) (by simp), e0.hok.kept hk, ?_⟩
  · exact name_of_addr x.apart (PySem.mem_of_lookup h1) (PySem.mem_of_lookup h2)
  · have hy : scope.names.lookup y = some .cell ∨ scope.names.lookup y = some .free := hy
    rcases hy with hy | hy
    · exact cell_has hy
    · exact absurd rfl (S.nofree _ (PySem.mem_of_lookup hy))
  · exact Nat.le_of_lt (x.above y c (PySem.mem_of_lookup h))
  · have hi : i < vs.length := by
      unfold start at h2
      by_cases hi : i < vs.length
      · exact hi
      · rw [List.getElem?_append_right (by simpa using hi)] at h2
        rw [List.getElem?_replicate] at h2
        split at h2 <;> cases h2
    have ha : vs[i]? = some v := by
      unfold start at h2
      rw [List.getElem?_append_left (by simpa using hi), List.getElem?_map] at h2
      cases e : vs[i]? with
      | none => rw [e] at h2; cases h2
      | some a => rw [e] at h2; cases h2; rfl
    obtain ⟨u, hu, rv⟩ := r.get ha
    have hp : ps[i]? = some y := by
      rw [← S.pre, List.getElem?_take_of_lt (by omega)]; exact h1
    have ndP : ps.Nodup := by rw [← S.pre]; exact S.nd.sublist (List.take_sublist _ _)
    refine ⟨u, rv, ?_⟩
    rcases S.par y (List.mem_of_getElem? hp) with k | k
    · exact .inl ⟨k, bindL_get ndP hp hu k⟩
    · obtain ⟨c, e⟩ := cell_has (n := s.heap.objs.size + 1) k
      refine .inr ⟨.inl k, c, e, ?_⟩
      have q := x.cell y c e
      rw [bindC_get ndP hp hu (by show scope.names.lookup y ≠ _; rw [k]; decide)] at q
      exact q
  · exact e0.hok.fresh (Nat.le_of_lt (x.above y c (PySem.mem_of_lookup h)))
  · unfold start
    show _ = N.length
    rw [List.length_append, List.length_map, List.length_replicate]
    omega
/-- THE RULE: a def (or a method) of the text, by its body. The body's reading t is chosen for each entry; it is run at the parameters' values -/
theorem fn_of {CX : CXT} {P : Program} {w : World} {K : PySem.W.Frag} {mg : Str → Option Value} {base : Heap} {k : Nat} {f : Addr} {name qual : Str} {params : Arguments} {body : List Stmt} {scope : Scope} {dV kV doc pm cdv ct oc : Value} {an od : Option Addr}
    {osl : Array (Option Value)} {N ps : List Str} {sp : Sp} (lk : K.lookup f = some ⟨oc, od, .func (PySem.W.fnOf name qual params body scope dV kV doc pm an cdv ct), osl⟩) (hcd : PySem.W.codeIn K cdv qual = true) (S : FnScope N ps scope)
    (len : ∀ vs H Q E, sp vs H Q E → vs.length = ps.length)
    (hbody : ∀ (A : Around) (outer : List Env) (s : Shared) (H : Hp) (vs : List V) (Q : VK) (E : XK), Room k (A.deeper (envOfC qual scope s.heap.objs.size f cdv)) → sp vs H Q E →
      ∃ t, PSs (cxOf CX P w K mg base N qual scope f cdv A outer s H E) body t ∧ t { nx := fun _ H' => Q .non H', rt := Q } (start N vs) H) :
    FnOk P w K mg base CX (k + 1) f (PySem.W.fnOf name qual params body scope dV kV doc pm an cdv ct) ps sp := by
  refine ⟨len, fun A outer s H args us vs Q E hr e0 hb r hsp => ?_⟩
  have hl := len _ _ _ _ hsp
  have KX : K.In s.heap := e0.mod.kin.keeps fun b o e => (e0.bs b o e).1
  have lim : s.heap.NoLimit := e0.mod.nolimit.keeps fun b o e => (e0.bs b o e).1
  have hkind : ∀ y ∈ ps.zip us, scope.names.lookup y.1 = some .local ∨ (scope.names.lookup y.1 = some .cell ∧ ((cellsFrom (s.heap.objs.size + 1) scope.names []).lookup y.1).isSome = true) := fun ⟨n, v⟩ hy => by
    rcases S.par n (List.of_mem_zip hy).1 with q | q
    · exact .inl q
    · exact .inr ⟨q, PySem.W.cellsFrom_some _ _ _ (.inl q)⟩
  refine codeAny_call_function hr.depth (KX _ _ lk) rfl S.co S.gen rfl (PySem.W.codeRec_of KX hcd) (hb _ _ _ _ ?_)
  refine wpAny_newFunctionEnv_cells S.kind hkind fun env he s1 x => ?_
  subst he
  refine ⟨lim.keeps x.toInCall.keep, codeAny_func ?_⟩
  obtain ⟨t, ht, hq⟩ := hbody A outer s H vs Q E (hr.deeper _) hsp
  have I : Inv (cxOf CX P w K mg base N qual scope f cdv A outer s H E) [] (start N vs) H s1 := inv_start S hr.hd e0 hl r x
  refine wpAny_mono (ht [] s1 (start N vs) H _ I hq) (fun fl s' hs => ?_) fun e s' hs => hs
  have fin : ∀ {σ' : St} {H' : Hp} {v : V} {u : Value}, Inv (cxOf CX P w K mg base N qual scope f cdv A outer s H E) [] σ' H' s' → RelV v u → Q v H' → CE outer P w H s Q u s' :=
    fun {σ' H' v u} J rv q => ⟨v, H', J.os, J.bare, J.base, J.hok, rv, q⟩
  cases fl with
  | ret u =>
    obtain ⟨v, σ', H', J, rv, q⟩ := hs
    exact fin J rv q
  | next =>
    obtain ⟨σ', H', J, q⟩ := hs
    exact fin (v := V.non) (u := Value.none) J rfl q
  | brk =>
    obtain ⟨_, _, _, q⟩ := hs
    exact False.elim q
  | cont =>
    obtain ⟨_, _, _, q⟩ := hs
    exact False.elim q
end L2
namespace L2
open PySem PySem.Spec PyProof.Rows
section
variable {X : Cx} {x : Str} {p pos : Pos} {e : Expr} {es : List Expr} {t : TA} {id T : String} {r : List V → Hp → VK → Prop}
def tCB (r : List V → Hp → VK → Prop) (t : TA) : TE := fun σ H Q => t σ H fun vs H1 => r vs H1 Q
/-- f(e, ..), f a built-in function -/
theorem pe_callB (hc : CallR X (.builtin id) r) (hg : Gl X x) (hm : X.mg x = none) (hv : bootBuiltins x = some (.builtin id)) (ha : PA X (e :: es) t) (hn : x ≠ "__name__" := by decide) (hdb : (x == ("__debug__" : Str)) = false := by decide)
    (he : starEach (e :: es) X.env = (false, eval e X.env) :: starEach es X.env := by rfl) (hpl : (backTo pos (starEach es X.env)).any (·.1) = false := by rfl) : PE X (.Call (.Name x p) (e :: es) [] pos) (tCB r t) := by
  intro pins s σ H Q I h
  refine wpAny_Call_Name_kw (ld_blt I hg hm hv ?_ hn hdb)
  exact PyProof.Rows.callWith_builtin1 (thn (ha pos pins s σ H _ I h) fun us s1 ⟨vs, H1, I1, r1, q1⟩ => hc pins s1 σ H1 vs us Q I1 r1 q1) he hpl
/-- T(e, ..), T a built-in type -/
theorem pe_callTy (hc : CallR X (.type T) r) (hg : Gl X x) (hm : X.mg x = none) (hv : bootBuiltins x = some (.type T)) (ha : PA X (e :: es) t) (hn : x ≠ "__name__" := by decide) (hdb : (x == ("__debug__" : Str)) = false := by decide)
    (he : starEach (e :: es) X.env = (false, eval e X.env) :: starEach es X.env := by rfl) (hpl : (backTo pos (starEach es X.env)).any (·.1) = false := by rfl) : PE X (.Call (.Name x p) (e :: es) [] pos) (tCB r t) := by
  intro pins s σ H Q I h
  refine wpAny_Call_Name_kw (ld_blt I hg hm hv ?_ hn hdb)
  exact PyProof.Rows.callWith_type1 (thn (ha pos pins s σ H _ I h) fun us s1 ⟨vs, H1, I1, r1, q1⟩ => hc pins s1 σ H1 vs us Q I1 r1 q1) he hpl
end
end L2
namespace HT
open PySem PyProof.Rows
section
open PySem.SeqAt
open PySem.AutoSeq1 (wpAny_loadPart')
open PySem.MeetsSeq PySem.MeetsSeq2 PySem.MeetsSeq3
end
section
variable {prog : Program} {w : World} {A : Around} {E : Value → Shared → Prop} {s : Shared}
/-- a slice's bound as a place among n (d where it is left out) -/
def sIx (n d : Nat) : Option Int → Nat
  | none => d
  | some v => if v < 0 then (v + (n : Int)).toNat else min v.toNat n
theorem sIx_none (n d : Nat) : sIx n d none = d := rfl
theorem sIx_nat (n d k : Nat) : sIx n d (some (k : Int)) = min k n := by
  show (if (k : Int) < 0 then ((k : Int) + (n : Int)).toNat else min (k : Int).toNat n) = min k n
  rw [if_neg (by omega), Int.toNat_natCast]
end
end HT
namespace L2
open PySem PySem.Spec PyProof.Rows
abbrev TO := St → Hp → (Option Int → Hp → Prop) → Prop
/-- a slice's part (left out, or an int) -/
def PO (X : Cx) (e : Option Expr) (t : TO) : Prop :=
  ∀ (pins : List (Addr × Obj)) (s : Shared) (σ : St) (H : Hp) (Q : Option Int → Hp → Prop), Inv X pins σ H s → t σ H Q →
    wpAny (model X.prog X.w) X.A (evalPart e X.env) (fun u s' => ∃ o H', Inv X pins σ H' s' ∧ IsPart u o ∧ Q o H') X.xe s
def tNoPart : TO := fun _ H Q => Q none H
def tPart (t : TE) : TO := fun σ H Q => t σ H fun x H1 => ∃ i, x = .int i ∧ Q (some i) H1
section
variable {X : Cx} {e : Expr} {te : TE} {lo hi : Option Expr} {tl th : TO} {pos p2 : Pos}
theorem po_none : PO X none tNoPart := by
  intro pins s σ H Q I h
  rw [evalPart_none]
  exact wpAny_pure ⟨none, H, I, .none, h⟩
theorem po_some (h : PE X e te) : PO X (some e) (tPart te) := by
  intro pins s σ H Q I hw
  rw [evalPart_some]
  refine thn (h pins s σ H _ I hw) fun u s1 ⟨x, H1, I1, r1, q1⟩ => ?_
  obtain ⟨i, rfl, q⟩ := q1
  obtain ⟨t, rfl⟩ := r1
  exact ⟨some i, H1, I1, .int i t, q⟩
/-- what a slice of a value is, by values: the slice object stands at sl -/
def SlR (X : Cx) (r : V → Option Int → Option Int → Hp → VK → Prop) : Prop :=
  ∀ (pins : List (Addr × Obj)) (s : Shared) (σ : St) (H : Hp) (x : V) (v vl vu : Value) (lo hi : Option Int) (sl : Addr) (Q : VK), Inv X pins σ H s → RelV x v → s.heap.IsSliceOf sl vl vu .none → IsPart vl lo → IsPart vu hi → r x lo hi H Q →
    ∃ T id, typeLookup (.type T) "__getitem__" = pure (some (.builtin id)) ∧ s.TypeIs v T ∧ wpAny (model X.prog X.w) X.A (getItem v (.ref sl)) (EP X pins σ Q) X.xe s
def tSl (r : V → Option Int → Option Int → Hp → VK → Prop) (te : TE) (tl th : TO) : TE := fun σ H Q => te σ H fun x H1 => tl σ H1 fun l H2 => th σ H2 fun u H3 => r x l u H3 Q
/-- a[lo:hi], any a -/
theorem pe_slice {r : V → Option Int → Option Int → Hp → VK → Prop} (hr : SlR X r) (he : PE X e te) (hl : PO X lo tl) (hu : PO X hi th) : PE X (.Subscript e (.Slice lo hi none p2) pos) (tSl r te tl th) := by
  intro pins s σ H Q I h
  refine Subscript_ (thn (he pins s σ H _ I h) fun v s1 ⟨x, H1, I1, r1, q1⟩ => ?_)
  refine wpAny_Slice (thn (hl pins s1 σ H1 _ I1 q1) fun vl s2 ⟨l, H2, I2, pl, q2⟩ => thn (hu pins s2 σ H2 _ I2 q2) fun vu s3 ⟨u, H3, I3, pu, q3⟩ => ?_)
  rw [evalPart_none]
  refine wpAny_pure ?_
  have I4 : Inv X pins σ H3 { s3 with heap := s3.heap.push { cls := .type "slice", data := .fields #[vl, vu, .none] } } := I3.kept (t' := s3.toks) fun b ob q => Heap.get?_push_of_some _ q
  obtain ⟨T, id, hT, ht, hg⟩ := hr pins { s3 with heap := s3.heap.push { cls := .type "slice", data := .fields #[vl, vu, .none] } } σ H3 x v vl vu l u s3.heap.objs.size Q I4 r1 (Heap.IsSliceOf.new ..) pl pu q3
  show wpAny (model X.prog X.w) X.A (subscriptTail e (.Slice lo hi none p2) v (.ref s3.heap.objs.size)) (EP X pins σ Q) X.xe { s3 with heap := s3.heap.push { cls := .type "slice", data := .fields #[vl, vu, .none] } }
  exact tail_any (ops := [.ref s3.heap.objs.size, v]) ht hT hg (by with_unfolding_all rfl)
/-- the items of xs[lo:hi] -/
def cutV (xs : List V) (lo hi : Option Int) : List V := (xs.drop (HT.sIx xs.length 0 lo)).take (HT.sIx xs.length xs.length hi - HT.sIx xs.length 0 lo)
theorem cutV_length (xs : List V) (lo hi : Option Int) : (cutV xs lo hi).length ≤ xs.length := by
  unfold cutV
  rw [List.length_take, List.length_drop]
  omega
end
end L2
namespace L2
open PySem PySem.Spec PyProof.Rows
/-- the place that an index of any sign means -/
def ixN (n : Nat) (i : Int) : Option Nat := if 0 ≤ i then (if i < n then some i.toNat else none) else if -(n : Int) ≤ i then some (i + n).toNat else none
def atI {α : Type} (xs : List α) (i : Int) : Option α := (ixN xs.length i).bind fun j => xs[j]?
theorem ixN_seq {n : Nat} {i : Int} {j : Nat} (h : ixN n i = some j) : seqIndex? i n = some j ∧ j < n ∧ -(n : Int) ≤ i ∧ i < n := by
  unfold ixN at h
  by_cases h0 : 0 ≤ i
  · rw [if_pos h0] at h
    by_cases h1 : i < n
    · rw [if_pos h1] at h
      have e : i.toNat = j := Option.some.inj h
      exact ⟨by rw [seqIndex_of h0 h1, e], by omega, by omega, h1⟩
    · rw [if_neg h1] at h; cases h
  · rw [if_neg h0] at h
    by_cases h1 : -(n : Int) ≤ i
    · rw [if_pos h1] at h
      have e : (i + n).toNat = j := Option.some.inj h
      exact ⟨by rw [seqIndex_neg (by omega) h1, e], by omega, h1, by omega⟩
    · rw [if_neg h1] at h; cases h
theorem atI_get {α : Type} {xs : List α} {i : Int} {v : α} (h : atI xs i = some v) : ∃ j, seqIndex? i xs.length = some j ∧ xs[j]? = some v ∧ j < xs.length ∧ -(xs.length : Int) ≤ i ∧ i < xs.length := by
  unfold atI at h
  cases e : ixN xs.length i with
  | none => rw [e] at h; cases h
  | some j =>
    rw [e] at h
    obtain ⟨h1, h2, h3, h4⟩ := ixN_seq e
    exact ⟨j, h1, h, h2, h3, h4⟩
theorem atI_nat {α : Type} {xs : List α} {j : Nat} {v : α} (h : xs[j]? = some v) : atI xs (j : Int) = some v := by
  have hj : j < xs.length := (List.getElem?_eq_some_iff.mp h).1
  have e : ixN xs.length (j : Int) = some j := by
    unfold ixN
    rw [if_pos (by omega), if_pos (by omega)]; simp
  unfold atI; rw [e]; exact h
theorem atI_last {α : Type} (xs : List α) (v : α) : atI (xs ++ [v]) (-1) = some v := by
  have hl : (xs ++ [v]).length = xs.length + 1 := by simp
  have e : ixN (xs ++ [v]).length (-1) = some xs.length := by
    unfold ixN
    rw [hl, if_neg (by decide), if_pos (by omega)]
    congr 1
    omega
  unfold atI
  rw [e]
  show (xs ++ [v])[xs.length]? = some v
  simp
/-- what stands as an index of a plain subscript -/
def PlainIx (b : Expr) : Prop := ∀ o i, subscripted b false o i = operate [o, i] (getItem o i)
/-- a subscript by values -/
def IxR (X : Cx) (r : R2) : Prop :=
  ∀ (value slice : Expr) (pins : List (Addr × Obj)) (s : Shared) (σ : St) (H : Hp) (x y : V) (v u : Value) (Q : VK), Inv X pins σ H s → RelV x v → RelV y u → r x y H Q →
    subscripted slice false v u = operate [v, u] (getItem v u) → wpAny (model X.prog X.w) X.A (subscriptTail value slice v u) (EP X pins σ Q) X.xe s
/-- a call of a builtin's method by values: the receiver, the arguments -/
def MtR (X : Cx) (id : String) (r : V → List V → Hp → VK → Prop) : Prop :=
  ∀ (pins : List (Addr × Obj)) (s : Shared) (σ : St) (H : Hp) (x : V) (xs : List V) (v : Value) (us : List Value) (Q : VK), Inv X pins σ H s → RelV x v → Vals xs us → r x xs H Q →
    wpAny (model X.prog X.w) X.A (call (.builtin id) (v :: us)) (EP X pins σ Q) X.xe s
section
variable {X : Cx} {a b : Expr} {ta tb : TE} {pos : Pos}
/-- a[b] -/
theorem pe_ix {r : R2} (hr : IxR X r) (ha : PE X a ta) (hb : PE X b tb) (hs : PlainIx b) : PE X (.Subscript a b pos) (tOp r ta tb) := by
  intro pins s σ H Q I h
  exact Subscript_ (binT ha hb I h fun v u s2 x y H2 I2 rx ry q => hr a b pins s2 σ H2 x y v u Q I2 rx ry q (hs _ _))
def rIxL (K : PySem.W.Frag) : R2 := fun x y H Q => ∃ p xs i v, x = .ref p ∧ y = .int i ∧ SqL K H p xs ∧ atI xs i = some v ∧ Q v H
def rIxT (K : PySem.W.Frag) : R2 := fun x y H Q => ∃ p xs i v, x = .ref p ∧ y = .int i ∧ SqT K H p xs ∧ atI xs i = some v ∧ Q v H
theorem ix_list : IxR X (rIxL X.K) := by
  intro value slice pins s σ H x y v u Q I rx ry h hs
  obtain ⟨p, xs, i, z, rfl, rfl, hq, he, q⟩ := h
  cases rx
  obtain ⟨t, rfl⟩ := ry
  obtain ⟨its, r, pl, hz⟩ := I.list hq
  obtain ⟨j, h1, h2, h3, h4, h5⟩ := atI_get he
  obtain ⟨w, ew, rw'⟩ := r.get h2
  have hl := r.length
  have hn := line63
  have fin : EP X pins σ Q w s := ⟨z, H, I, rw', q⟩
  by_cases h0 : 0 ≤ i
  · have hj : i.toNat = j := by
      rw [seqIndex_of h0 h5] at h1
      exact Option.some.inj h1
    exact item_listR pl.isList h0 (by omega) (by rw [hj]; simpa using ew) fin hs
  · have hj : (i + (its.toArray.size : Int)).toNat = j := by
      rw [seqIndex_neg (by omega) h4] at h1
      rw [List.size_toArray, ← hl]
      exact Option.some.inj h1
    exact subscriptTail_builtinR (x := w) pl.isList.typeIs slot_list_getitem.lookup
      (wpAny_getItem_list_neg (Q := fun r s' => r = w ∧ EP X pins σ Q r s') pl.isList (by omega) (by rw [List.size_toArray] <;> omega) (by omega) (by rw [hj]; simpa using ew) ⟨rfl, fin⟩) hs
theorem ix_tup : IxR X (rIxT X.K) := by
  intro value slice pins s σ H x y v u Q I rx ry h hs
  obtain ⟨p, xs, i, z, rfl, rfl, hq, he, q⟩ := h
  cases rx
  obtain ⟨t, rfl⟩ := ry
  obtain ⟨its, r, pl, hz⟩ := I.tuple hq
  obtain ⟨j, h1, h2, h3, h4, h5⟩ := atI_get he
  obtain ⟨w, ew, rw'⟩ := r.get h2
  have hl := r.length
  have hn := line63
  have fin : EP X pins σ Q w s := ⟨z, H, I, rw', q⟩
  exact subscriptTail_builtinR (x := w) pl.typeIs slot_tuple_getitem.lookup
    (getItem_tuple (j := j) (Q := fun r s' => r = w ∧ EP X pins σ Q r s') pl (by omega) (by omega) (by rw [List.size_toArray, ← hl]; exact h1) (by simpa using ew) ⟨rfl, fin⟩) hs
/-- the list's object behind a store -/
theorem mapSeq_set (its : List Value) (n j : Nat) (u : Value) : Obj.mapSeq (·.setIfInBounds j u) { cls := .type "list", data := .seq its.toArray n } = { cls := .type "list", data := .seq (its.set j u).toArray n } := by
  simp [Obj.mapSeq]
theorem Inv.lst {pins : List (Addr × Obj)} {σ : St} {H : Hp} {s : Shared} {p : Addr} {xs : List V} (I : Inv X pins σ H s) (h : H p = some (.lst xs)) :
    ∃ (its : List Value) (n : Nat), Vals xs its ∧ s.heap.get? p = some { cls := .type "list", data := .seq its.toArray n } ∧ xs.length ≤ sizeLine := by
  obtain ⟨z, its, n, r, e⟩ := I.hok p _ h
  exact ⟨its, n, r, e, z⟩
/-- the list at p is written by an update of its object -/
theorem Inv.lstUpd {pins : List (Addr × Obj)} {σ : St} {H : Hp} {s : Shared} {p : Addr} {xs ys : List V} {its its' : List Value} {n n' : Nat} {f : Obj → Obj} (I : Inv X pins σ H s) (h : H p = some (.lst xs))
    (ho : s.heap.get? p = some { cls := .type "list", data := .seq its.toArray n }) (hf : f { cls := .type "list", data := .seq its.toArray n } = { cls := .type "list", data := .seq its'.toArray n' }) (r : Vals ys its') (hz : ys.length ≤ sizeLine) (t : Nat) :
    Inv X pins σ (upd H p (.lst ys)) { s with heap := s.heap.update p f, toks := t } := by
  have e : (s.heap.update p f).get? p = some { cls := .type "list", data := .seq its'.toArray n' } := by
    rw [Heap.get?_update_self f ho (by rw [hf] <;> rfl), hf]
  refine I.write (x := p) (e := p) (by rw [h]; trivial) (.inl rfl) (fun b u hb q => (Heap.get?_update_other _ _ (Ne.symm hb)).trans q) ⟨_, e⟩ ?_
  exact ⟨hz, its', n', r, e⟩
def rSetL : V → V → V → Hp → (Hp → Prop) → Prop := fun o i v H Q => ∃ p xs k j, o = .ref p ∧ i = .int k ∧ H p = some (.lst xs) ∧ ixN xs.length k = some j ∧ Q (upd H p (.lst (xs.set j v)))
theorem set_list : PSet X rSetL := by
  intro pins s σ H o i v ov iv u Q I ro ri rv h
  obtain ⟨p, xs, k, j, rfl, rfl, hp, hj, q⟩ := h
  cases ro
  obtain ⟨t, rfl⟩ := ri
  obtain ⟨its, n, r, ho, hz⟩ := I.lst hp
  obtain ⟨h1, h2, h3, h4⟩ := ixN_seq hj
  have hl := r.length
  have hn := line63
  have I' : Inv X pins σ (upd H p (.lst (xs.set j v))) { s with heap := s.heap.update p (Obj.mapSeq (·.setIfInBounds j u)) } :=
    I.lstUpd hp ho (mapSeq_set its n j u) (r.set rv j) (by rw [List.length_set]; exact hz) s.toks
  by_cases h0 : 0 ≤ k
  · have hk : k.toNat = j := by
      rw [seqIndex_of h0 h4] at h1
      exact Option.some.inj h1
    exact PySem.W.ki_setAt ho h0 (by omega) (by rw [List.size_toArray, ← hl]; exact h4) (by rw [hk]; exact ⟨_, I', q⟩)
  · have hk : (k + (its.toArray.size : Int)).toNat = j := by
      rw [seqIndex_neg (by omega) h3] at h1
      rw [List.size_toArray, ← hl]
      exact Option.some.inj h1
    exact PySem.W.ki_setBack ho (by omega) (by rw [List.size_toArray, ← hl]; exact h3) (by omega) (by rw [hk]; exact ⟨_, I', q⟩)
theorem slice_bounds (lo hi : Option Int) (n : Nat) : (sliceBounds lo hi none n).1 = ((HT.sIx n 0 lo : Nat) : Int) ∧ (sliceBounds lo hi none n).2.1 = ((HT.sIx n n hi : Nat) : Int) ∧ (sliceBounds lo hi none n).2.2 = 1 := by
  refine ⟨?_, ?_, rfl⟩
  · cases lo with
    | none => simp [sliceBounds, HT.sIx]
    | some i =>
      simp only [sliceBounds, HT.sIx, Option.getD_none, show (1 : Int) > 0 by decide, if_true]
      by_cases h : i < 0
      · simp only [h, if_true] <;> omega
      · simp only [h, if_false] <;> omega
  · cases hi with
    | none => simp [sliceBounds, HT.sIx]
    | some i =>
      simp only [sliceBounds, HT.sIx, Option.getD_none, show (1 : Int) > 0 by decide, if_true]
      by_cases h : i < 0
      · simp only [h, if_true] <;> omega
      · simp only [h, if_false] <;> omega
theorem slicePick_cut (its : List Value) (lo hi : Option Int) : slicePick its.toArray lo hi none = ((its.drop (HT.sIx its.length 0 lo)).take (HT.sIx its.length its.length hi - HT.sIx its.length 0 lo)).toArray := by
  obtain ⟨h1, h2, h3⟩ := slice_bounds lo hi its.toArray.size
  unfold slicePick
  rw [h1, h2, h3]
  simp only [sliceRange_one, pick_run, List.size_toArray] <;> rfl
/-- xs[lo:hi] of a list: a new list -/
def rSlL (K : PySem.W.Frag) : V → Option Int → Option Int → Hp → VK → Prop := fun x lo hi H Q => ∃ a xs, x = .ref a ∧ SqL K H a xs ∧ ∀ p, H p = none → Q (.ref p) (upd H p (.lst (cutV xs lo hi)))
theorem sl_list : SlR X (rSlL X.K) := by
  intro pins s σ H x v vl vu lo hi sl Q I rx hs pl pu h
  obtain ⟨a, xs, rfl, hx, q⟩ := h
  cases rx
  obtain ⟨its, r, ht, hz⟩ := I.list hx
  have hlen := r.length
  refine ⟨"list", _, slot_list_getitem.lookup, ht.isList.typeIs, ?_⟩
  refine wpAny_getItem_list_slice ht.isList hs pl pu .none (by simp) ?_ (by rw [List.size_toArray] <;> omega)
  rw [slicePick_cut, ← hlen]
  refine ⟨.ref s.heap.objs.size, _, I.laid (t' := s.toks) (o := .lst (cutV xs lo hi)) (fun b ob q => Heap.get?_push_of_some _ q) (Nat.le_refl _) ?_, rfl, q _ (I.hok.fresh (Nat.le_refl _))⟩
  exact ⟨Nat.le_trans (cutV_length xs lo hi) hz, _, 0, (r.drop (HT.sIx xs.length 0 lo)).take (HT.sIx xs.length xs.length hi - HT.sIx xs.length 0 lo), Heap.get?_push_size _ rfl⟩
def flatV : V → Bool
  | .non => true
  | .bl _ => true
  | .int _ => true
  | .str _ => true
  | _ => false
/-- == of flat values -/
def eqV : V → V → Bool
  | .non, .non => true
  | .bl a, .bl b => a == b
  | .bl a, .int b => (if a then 1 else 0) == b
  | .int a, .bl b => a == (if b then 1 else 0)
  | .int a, .int b => a == b
  | .str a, .str b => a == b
  | _, _ => false
theorem eqAt_V {A : Around} {s : Shared} {y x : V} {u v : Value} (ry : RelV y u) (rx : RelV x v) (fy : flatV y = true) (fx : flatV x = true) : SeqAt.EqAt A s u v (eqV y x) := by
  cases y with
  | non =>
    cases ry
    cases x with
    | non => cases rx; exact SeqAt.EqAt.same _
    | bl b => cases rx; exact SeqAt.EqAt.none_bool b
    | int b => obtain ⟨t, rfl⟩ := rx; exact SeqAt.EqAt.none_int b t
    | str b => obtain ⟨t, rfl⟩ := rx; exact SeqAt.EqAt.none_str b t
    | _ => exact absurd (show false = true from fx) Bool.false_ne_true
  | bl a =>
    cases ry
    cases x with
    | non => cases rx; exact SeqAt.EqAt.bool_none a
    | bl b => cases rx; exact SeqAt.EqAt.bool_bool a b
    | int b => obtain ⟨t, rfl⟩ := rx; exact SeqAt.EqAt.bool_int a b t
    | str b => obtain ⟨t, rfl⟩ := rx; exact SeqAt.EqAt.bool_str a b t
    | _ => exact absurd (show false = true from fx) Bool.false_ne_true
  | int a =>
    obtain ⟨t', rfl⟩ := ry
    cases x with
    | non => cases rx; exact SeqAt.EqAt.int_none a t'
    | bl b => cases rx; exact SeqAt.EqAt.int_bool a t' b
    | int b => obtain ⟨t, rfl⟩ := rx; exact SeqAt.EqAt.int_int a t' b t
    | str b => obtain ⟨t, rfl⟩ := rx; exact SeqAt.EqAt.int_str a t' b t
    | _ => exact absurd (show false = true from fx) Bool.false_ne_true
  | str a =>
    obtain ⟨t', rfl⟩ := ry
    cases x with
    | non => cases rx; exact SeqAt.EqAt.str_none a t'
    | bl b => cases rx; exact SeqAt.EqAt.str_bool a t' b
    | int b => obtain ⟨t, rfl⟩ := rx; exact SeqAt.EqAt.str_int a t' b t
    | str b => obtain ⟨t, rfl⟩ := rx; exact SeqAt.EqAt.str_str a t' b t
    | _ => exact absurd (show false = true from fx) Bool.false_ne_true
  | _ => exact absurd (show false = true from fy) Bool.false_ne_true
/-- the items' answers, read off the values (a value's own answer does not lean on its token) -/
def eqU (x : V) (u : Value) : Bool := match u with
  | .none => eqV .non x
  | .bool b => eqV (.bl b) x
  | .int i _ => eqV (.int i) x
  | .str z _ => eqV (.str z) x
  | _ => false
theorem eqU_of {x y : V} {u : Value} (r : RelV y u) (f : flatV y = true) : eqU x u = eqV y x := by
  cases y with
  | non => cases r; rfl
  | bl b => cases r; rfl
  | int i => obtain ⟨t, rfl⟩ := r; rfl
  | str z => obtain ⟨t, rfl⟩ := r; rfl
  | _ => exact absurd (show false = true from f) Bool.false_ne_true
theorem any_eqU {x : V} : ∀ {xs : List V} {us : List Value}, Vals xs us → xs.all flatV = true → us.any (eqU x) = xs.any fun y => eqV y x
  | _, _, .nil, _ => rfl
  | y :: xs, u :: us, .cons r t, f => by
    rw [List.all_cons, Bool.and_eq_true] at f
    rw [List.any_cons, List.any_cons, eqU_of r f.1, any_eqU t f.2]
theorem mem_eqAt {A : Around} {s : Shared} {x : V} {v : Value} (rx : RelV x v) (fx : flatV x = true) : ∀ {xs : List V} {us : List Value}, Vals xs us → xs.all flatV = true → ∀ u ∈ us, SeqAt.EqAt A s u v (eqU x u)
  | _, _, .nil, _ => fun u hu => by cases hu
  | y :: xs, u :: us, .cons r t, f => fun u' hu => by
    rw [List.all_cons, Bool.and_eq_true] at f
    rcases List.mem_cons.mp hu with rfl | hu
    · rw [eqU_of r f.1]; exact eqAt_V r rx f.1 fx
    · exact mem_eqAt rx fx t f.2 u' hu
def inV (x : V) (xs : List V) : Bool := xs.any fun y => eqV y x
/-- x in a list or tuple of flat items -/
def rIn (K : PySem.W.Frag) (neg : Bool) : R2 := fun x y H Q => ∃ p xs, y = .ref p ∧ (SqL K H p xs ∨ SqT K H p xs) ∧ flatV x = true ∧ xs.all flatV = true ∧ Q (.bl (if neg then !inV x xs else inV x xs)) H
theorem op_in_seq : OpR X (compareOp .In) (rIn X.K false) := by
  intro pins s σ H x y v u Q I rx ry h
  obtain ⟨p, xs, rfl, hq, fx, fs, q⟩ := h
  cases ry
  rcases hq with hq | hq
  · obtain ⟨its, r, pl, hz⟩ := I.list hq
    refine SeqAt.in_listAt (eqU x) pl.isList (fun w hw => mem_eqAt rx fx r fs w (by simpa using hw)) ⟨.bl _, H, I, rfl, ?_⟩
    rw [show its.toArray.any (eqU x) = its.any (eqU x) by simp, any_eqU r fs]
    exact q
  · obtain ⟨its, r, pl, hz⟩ := I.tuple hq
    refine SeqAt.in_tupleAt (eqU x) pl (fun w hw => mem_eqAt rx fx r fs w (by simpa using hw)) ⟨.bl _, H, I, rfl, ?_⟩
    rw [show its.toArray.any (eqU x) = its.any (eqU x) by simp, any_eqU r fs]
    exact q
theorem call_len_seq : CallR X (.builtin "len") (fun xs H Q => ∃ p ys, xs = [.ref p] ∧ (SqL X.K H p ys ∨ SqT X.K H p ys) ∧ Q (.int ys.length) H) := by
  intro pins s σ H xs us Q I r h
  obtain ⟨p, ys, rfl, hq, q⟩ := h
  obtain ⟨u, rfl, rx⟩ := vals1 r
  cases rx
  have hn := line63
  rcases hq with hq | hq
  · obtain ⟨its, r', pl, hz⟩ := I.list hq
    have hlen := r'.length
    exact Calls.call_len_list pl.isList (by simp only [List.size_toArray] <;> omega) ⟨.int ys.length, H, I.tok _, ⟨s.toks + 1, by rw [List.size_toArray, hlen]⟩, q⟩
  · obtain ⟨its, r', pl, hz⟩ := I.tuple hq
    have hlen := r'.length
    exact len_tuple pl (by simp only [List.size_toArray] <;> omega) ⟨.int ys.length, H, I.tok _, ⟨s.toks + 1, by rw [List.size_toArray, hlen]⟩, q⟩
theorem call_list_of : CallR X (.type "list") (fun xs H Q => ∃ p ys, xs = [.ref p] ∧ (SqL X.K H p ys ∨ SqT X.K H p ys) ∧ ∀ l, H l = none → Q (.ref l) (upd H l (.lst ys))) := by
  intro pins s σ H xs us Q I r h
  obtain ⟨p, ys, rfl, hq, q⟩ := h
  obtain ⟨u, rfl, rx⟩ := vals1 r
  cases rx
  have fin : ∀ (its : List Value), Vals ys its → ys.length ≤ sizeLine → ∀ (h' : Heap) (c' : Nat), (∀ b o', s.heap.get? b = some o' → h'.get? b = some o') →
      h'.get? s.heap.objs.size = some { cls := .type "list", dict := none, data := .seq its.toArray c', slots := #[] } → EP X pins σ Q (.ref s.heap.objs.size) { s with heap := h' } := fun its r' hz h' c' kp e =>
    ⟨.ref s.heap.objs.size, _, I.laid (t' := s.toks) kp (Nat.le_refl _) (show ObjOk X.prog X.w _ h' _ (.lst ys) from ⟨hz, its, c', r', e⟩), rfl, q _ (I.hok.fresh (Nat.le_refl _))⟩
  rcases hq with hq | hq
  · obtain ⟨its, r', pl, hz⟩ := I.list hq
    have hlen := r'.length
    obtain ⟨o, ho, hc, n, hd⟩ := pl.isList
    exact call_list_seq p (.inl rfl) ho hc hd (fun h' c' kp e => fin its r' hz h' c' kp e) (by simp only [List.size_toArray] <;> omega)
  · obtain ⟨its, r', pl, hz⟩ := I.tuple hq
    have hlen := r'.length
    obtain ⟨o, ho, hc, n, hd⟩ := pl
    exact call_list_seq p (.inr rfl) ho hc hd (fun h' c' kp e => fin its r' hz h' c' kp e) (by simp only [List.size_toArray] <;> omega)
/-- the value is of that builtin type -/
def tyV (K : PySem.W.Frag) (T : String) (x : V) (H : Hp) : Prop := match x with
  | .str _ => T = "str"
  | .int _ => T = "int"
  | .ref p => (T = "list" ∧ ∃ xs, SqL K H p xs) ∨ (T = "tuple" ∧ ∃ o, K.lookup p = some o ∧ o.cls = .type "tuple" ∧ o.dict = none) ∨
      (T = "dict" ∧ ((∃ kvs, H p = some (.dK kvs)) ∨ ∃ kvs, H p = some (.dT kvs))) ∨ (T = "set" ∧ ∃ S n, H p = some (.set S n))
  | _ => False
theorem tyV_is {pins : List (Addr × Obj)} {σ : St} {H : Hp} {s : Shared} {T : String} {x : V} {v : Value} (I : Inv X pins σ H s) (r : RelV x v) (ty : tyV X.K T x H) :
    s.TypeIs v T ∧ ∀ a, v = .ref a → ∃ ob, s.heap.get? a = some ob ∧ ob.dict = none := by
  cases x with
  | str z =>
    obtain ⟨t, rfl⟩ := r
    cases (show T = "str" from ty)
    exact ⟨typeIs_str s z t, fun _ e => nomatch e⟩
  | int i =>
    obtain ⟨t, rfl⟩ := r
    cases (show T = "int" from ty)
    exact ⟨typeIs_int s i t, fun _ e => nomatch e⟩
  | ref p =>
    cases r
    rcases ty with ⟨rfl, xs, hq⟩ | ⟨rfl, o, hk, hc, hd⟩ | ⟨rfl, hk⟩ | ⟨rfl, S, n, hk⟩
    · obtain ⟨its, _, pl, _⟩ := I.list hq
      refine ⟨pl.isList.typeIs, fun a e => ?_⟩
      cases e
      obtain ⟨o, n, e, c, hd, _⟩ := pl
      exact ⟨o, e, hd⟩
    · refine ⟨⟨o, I.kIn p o hk, hc⟩, fun a e => ?_⟩
      cases e
      exact ⟨o, I.kIn _ o hk, hd⟩
    · have z : ∃ o, s.heap.get? p = some o ∧ o.ExactDict := by
        rcases hk with ⟨kvs, hk⟩ | ⟨kvs, hk⟩
        · obtain ⟨_, _, _, _, o, _, _, e, ex, _⟩ := I.hok p _ hk
          exact ⟨o, e, ex⟩
        · obtain ⟨_, _, _, _, o, _, _, e, ex, _⟩ := I.hok p _ hk
          exact ⟨o, e, ex⟩
      obtain ⟨o, e, ex⟩ := z
      refine ⟨⟨o, e, ex.1⟩, fun a e2 => ?_⟩
      cases e2
      exact ⟨o, e, ex.2.1⟩
    · obtain ⟨o, _, _, _, e, ex, _⟩ := I.hok p _ hk
      refine ⟨⟨o, e, ex.1⟩, fun a e2 => ?_⟩
      cases e2
      exact ⟨o, e, ex.2.1⟩
  | _ => exact False.elim ty
def tBM0 (K : PySem.W.Frag) (T : String) (r : V → List V → Hp → VK → Prop) (to : TE) : TE := fun σ H Q => to σ H fun x H1 => tyV K T x H1 ∧ r x [] H1 Q
def tBM (K : PySem.W.Frag) (T : String) (r : V → List V → Hp → VK → Prop) (to : TE) (t : TA) : TE := fun σ H Q => to σ H fun x H1 => tyV K T x H1 ∧ t σ H1 fun xs H2 => r x xs H2 Q
variable {o e : Expr} {es : List Expr} {to : TE} {t : TA} {name : Str} {apos cpos : Pos} {T id : String} {r : V → List V → Hp → VK → Prop}
theorem pe_bm0 (pa : PlainAttrs T) (slot : Slot T name id) (hty : typeOf (.builtin id) = pure (.type "method_descriptor")) (hm : MtR X id r) (ho : PE X o to)
    (hbase : attributeBase o name X.env (eval o X.env) = eval o X.env := by rfl) (hline : (apos.endLine == cpos.line) = true := by rfl) : PE X (.Call (.Attribute o name apos) [] [] cpos) (tBM0 X.K T r to) := by
  intro pins s σ H Q I h
  refine wpAny_Call_method0_late hbase hline (thn (ho pins s σ H _ I h) fun v s1 ⟨x, H1, I1, r1, ty, q1⟩ => ?_)
  obtain ⟨h1, h2⟩ := tyV_is I1 r1 ty
  exact ⟨T, id, pa, slot, hty, h1, h2, Calls.callWith_builtin rfl (PySem.evalArgs_none (hm pins s1 σ H1 x [] v [] Q I1 r1 .nil q1))⟩
theorem pe_bm (pa : PlainAttrs T) (slot : Slot T name id) (hty : typeOf (.builtin id) = pure (.type "method_descriptor")) (hm : MtR X id r) (ho : PE X o to) (ha : PA X (e :: es) t)
    (hbase : attributeBase o name X.env (eval o X.env) = eval o X.env := by rfl)
    (hfew : ((backTo cpos (starEach (e :: es) X.env)).all (fun x => !x.1) && (backToKw cpos (keywordEach [] X.env)).all (fun x => x.1.isSome)
      && decide ((e :: es).length + ([] : List Keyword).length + (if ([] : List Keyword).isEmpty then 0 else 1) < 30)) = true := by rfl)
    (hline : (apos.endLine == cpos.line) = true := by rfl) (hs : starEach (e :: es) X.env = (false, eval e X.env) :: starEach es X.env := by rfl) (hplain : (backTo cpos (starEach es X.env)).any (·.1) = false := by rfl) :
    PE X (.Call (.Attribute o name apos) (e :: es) [] cpos) (tBM X.K T r to t) := by
  intro pins s σ H Q I h
  refine wpAny_Call_method_late hbase hfew hline rfl (thn (ho pins s σ H _ I h) fun v s1 ⟨x, H1, I1, r1, ty, q1⟩ => ?_)
  obtain ⟨h1, h2⟩ := tyV_is I1 r1 ty
  refine ⟨T, id, pa, slot, hty, h1, h2, ?_⟩
  have hA := ha cpos pins s1 σ H1 _ I1 q1
  rw [hs] at hA ⊢
  refine Calls.callWith_builtin (by show (false || (backTo cpos (starEach es X.env)).any (·.1)) = false; rw [hplain] <;> rfl) (Calls.evalArgs_plain ?_)
  exact thn hA fun us s2 ⟨vs, H2, I2, r2, q2⟩ => hm pins s2 σ H2 x vs v us Q I2 r1 r2 q2
/- xs.append(e), list.index on a module's tuple .. are MtR facts of 06m -/
end
end L2
namespace L2
open PySem PySem.Spec PyProof.Rows
def MtM (X : Cx) (id : String) (r : V → List V → Hp → VK → Prop) : Prop :=
  ∀ (pins : List (Addr × Obj)) (s : Shared) (σ : St) (H : Hp) (x : V) (xs : List V) (v : Value) (us : List Value) (Q : VK), Inv X pins σ H s → RelV x v → Vals xs us → r x xs H Q →
    wpAny (model X.prog X.w) X.A (call (.builtin id) (v :: us)) (EP X pins σ Q) X.xe s
theorem Vals.one : ∀ {x : V} {us : List Value}, Vals [x] us → ∃ u, us = [u] ∧ RelV x u
  | _, _, .cons r .nil => ⟨_, rfl, r⟩
theorem Vals.reverse {xs : List V} {us : List Value} (h : Vals xs us) : Vals xs.reverse us.reverse := by
  induction h with
  | nil => exact .nil
  | cons r t ih => rw [List.reverse_cons, List.reverse_cons]; exact Vals.append ih (.cons r .nil)
section
variable {X : Cx} {pins : List (Addr × Obj)} {σ : St} {H : Hp} {s : Shared} {l b : Addr} {xs ys zs : List V}
theorem Inv.lset {its its' : List Value} {n : Nat} {f : Array Value → Array Value} {t' : Nat} (I : Inv X pins σ H s) (hH : H l = some (.lst xs))
    (e : s.heap.get? l = some { cls := .type "list", data := .seq its.toArray n }) (hf : f its.toArray = its'.toArray) (hv : Vals ys its') (hz : ys.length ≤ sizeLine) :
    Inv X pins σ (upd H l (.lst ys)) { s with heap := s.heap.update l (Obj.mapSeq f), toks := t' } := by
  have q := PySem.IsL.update e f
  rw [hf] at q
  refine I.write (x := l) (e := l) (by rw [hH]; exact trivial) (.inl rfl) (fun b' u hb hu => (Heap.get?_update_other s.heap (Obj.mapSeq f) (Ne.symm hb)).trans hu) ⟨_, q⟩ ?_
  exact ⟨hz, its', _, hv, q⟩
theorem Inv.lnew {its : List Value} {t' : Nat} (I : Inv X pins σ H s) (hv : Vals ys its) (hz : ys.length ≤ sizeLine) :
    Inv X pins σ (upd H s.heap.objs.size (.lst ys)) { s with heap := s.heap.push { cls := .type "list", data := .seq its.toArray }, toks := t' } :=
  I.laid (fun _ _ q => Heap.get?_push_of_some _ q) (Nat.le_refl _) ⟨hz, its, 0, hv, Heap.get?_push_size _ rfl⟩
theorem Inv.fresh (I : Inv X pins σ H s) : H s.heap.objs.size = none := I.hok.fresh (Nat.le_refl _)
theorem Inv.lstM (I : Inv X pins σ H s) (hH : H l = some (.lst xs)) : xs.length ≤ sizeLine ∧ ∃ (its : List Value) (n : Nat), Vals xs its ∧ xs.length = its.length ∧ s.heap.get? l = some { cls := .type "list", data := .seq its.toArray n } := by
  obtain ⟨z, its, n, r, e⟩ := I.hok l _ hH
  exact ⟨z, its, n, r, r.length, e⟩
theorem notLongL {n : Nat} (h : n ≤ sizeLine) : Builtin.List.listTooLong n = false := by
  unfold Builtin.List.listTooLong
  exact decide_eq_false (by omega)
end
section
variable {X : Cx}
def rAppend : V → List V → Hp → VK → Prop := fun x vs H Q => ∃ l xs y, x = .ref l ∧ vs = [y] ∧ H l = some (.lst xs) ∧ xs.length < sizeLine ∧ Q .non (upd H l (.lst (xs ++ [y])))
theorem mt_append : MtM X "list.append" rAppend := by
  intro pins s σ H x vs v us Q I rx rv h
  obtain ⟨l, xs, y, rfl, rfl, hH, hz, q⟩ := h
  cases rx
  obtain ⟨u, rfl, ru⟩ := rv.one
  obtain ⟨z, its, n, r, hl, e⟩ := I.lstM hH
  refine call_meets F.slot_list_append ⟨_, e, rfl⟩ F.entry_list_append (F.args_list_append_2 _ _) (PySem.list_append l its.toArray n u (by rw [List.size_toArray]; omega)) ⟨e, ?_⟩
  refine ⟨.non, _, I.lset (its' := its ++ [u]) hH e (by simp) (r.append (.cons ru .nil)) ?_, rfl, q⟩
  rw [List.length_append, List.length_singleton]
  omega
def rExtend : V → List V → Hp → VK → Prop := fun x vs H Q => ∃ l b xs zs, x = .ref l ∧ vs = [.ref b] ∧ H l = some (.lst xs) ∧ H b = some (.lst zs) ∧ xs.length + zs.length ≤ sizeLine ∧ Q .non (upd H l (.lst (xs ++ zs)))
theorem mt_extend : MtM X "list.extend" rExtend := by
  intro pins s σ H x vs v us Q I rx rv h
  obtain ⟨l, b, xs, zs, rfl, rfl, hH, hB, hz, q⟩ := h
  cases rx
  obtain ⟨u, rfl, ru⟩ := rv.one
  cases ru
  obtain ⟨z, its, n, r, hl, e⟩ := I.lstM hH
  obtain ⟨z2, its2, n2, r2, hl2, e2⟩ := I.lstM hB
  have hsz : its.toArray.size + its2.toArray.size ≤ sizeLine := by rw [List.size_toArray, List.size_toArray]; omega
  have hlong : ¬ (!its.toArray.isEmpty && Builtin.List.listTooLong (its.toArray.size + its2.toArray.size)) = true := by
    rw [notLongL hsz, Bool.and_false]
    exact Bool.false_ne_true
  refine call_meets F.slot_list_extend ⟨_, e, rfl⟩ F.entry_list_extend (F.args_list_extend_2 _ _)
    (AutoSeq1.list_extend_list_list_0 l its.toArray n b its2.toArray n2 hlong (by rw [List.size_toArray]; omega) (by omega)) ⟨e, e2, ?_⟩
  refine ⟨.non, _, I.lset (its' := its ++ its2) hH e (by simp) (r.append r2) ?_, rfl, q⟩
  rw [List.length_append]
  omega
def rCat : R2 := fun x y H Q => ∃ l b xs zs, x = .ref l ∧ y = .ref b ∧ H l = some (.lst xs) ∧ H b = some (.lst zs) ∧ xs.length + zs.length ≤ sizeLine ∧ ∀ p, H p = none → Q (.ref p) (upd H p (.lst (xs ++ zs)))
theorem op_cat : OpR X (binaryOp .Add) rCat := by
  intro pins s σ H x y v u Q I rx ry h
  obtain ⟨l, b, xs, zs, rfl, rfl, hH, hB, hz, q⟩ := h
  cases rx
  cases ry
  obtain ⟨z, its, n, r, hl, e⟩ := I.lstM hH
  obtain ⟨z2, its2, n2, r2, hl2, e2⟩ := I.lstM hB
  refine PySem.P.add_list e e2 ?_ (by rw [List.size_toArray, List.size_toArray]; omega)
  have ea : its.toArray ++ its2.toArray = (its ++ its2).toArray := by simp
  rw [ea]
  exact ⟨.ref _, _, I.lnew (t' := s.toks) (r.append r2) (by rw [List.length_append]; omega), rfl, q _ I.fresh⟩
end
section
variable {prog : Program} {w : World} {A : Around} {E : Value → Shared → Prop} {s : Shared}
end
section
variable {X : Cx}
end
end L2
namespace L2
open PySem PySem.Spec PyProof.Rows
theorem Vals.ints : ∀ {ns : List Int} {us : List Value}, Vals (ns.map V.int) us → IntsAre us ns
  | [], us, h => by
    rw [List.map_nil] at h
    cases h
    exact IntsAre.nil
  | n :: ns, us, h => by
    rw [List.map_cons] at h
    cases h with
    | cons r t =>
      obtain ⟨k, rfl⟩ := r
      exact IntsAre.cons n k (Vals.ints t)
theorem vals_of_ints : ∀ {us : List Value} {ns : List Int}, IntsAre us ns → Vals (ns.map V.int) us
  | _, _, .nil => by rw [List.map_nil]; exact Paired.nil
  | _, _, .cons n t h => by rw [List.map_cons]; exact Paired.cons (show RelV (V.int n) (Value.int n t) from ⟨t, rfl⟩) (vals_of_ints h)
theorem Vals.ref1 {a : Addr} {us : List Value} (r : Vals [V.ref a] us) : us = [Value.ref a] := by
  cases r with
  | cons r t =>
    cases t
    cases r
    rfl
section
variable {prog : Program} {w : World} {A : Around} {E : Value → Shared → Prop} {s : Shared} {l : Addr} {its : List Value} {ns : List Int} {Q : Value → Shared → Prop}
theorem sum_raw (hh : A.handled = none) (hl : s.heap.IsList l its.toArray) (hi : IntsAre its ns)
    (h : ∀ h' tk t', (∀ b o, s.heap.get? b = some o → h'.get? b = some o) → Q (.int ns.sum t') { s with heap := h', toks := tk }) : wpAny (model prog w) A (call (.builtin "sum") [.ref l]) Q E s := by
  obtain ⟨xs, e⟩ := hi.allInts.items
  have hn : numsOf (intItems xs).toList = ns := by rw [← e]; exact hi.numsOf
  rw [nums_intItems] at hn
  rw [e] at hl
  refine PySem.sum_intListG hh hl fun h' tk t' hk => ?_
  have := h h' tk t' hk
  rw [preSum_eq, List.take_of_length_le (by simp), hn]; exact this
theorem max_raw (hh : A.handled = none) (hl : s.heap.IsList l its.toArray) (hi : IntsAre its ns) (hne : 0 < ns.length)
    (h : ∀ h' tk M t', (∀ b o, s.heap.get? b = some o → h'.get? b = some o) → M ∈ ns → (∀ a, a ∈ ns → a ≤ M) → Q (.int M t') { s with heap := h', toks := tk }) : wpAny (model prog w) A (call (.builtin "max") [.ref l]) Q E s := by
  obtain ⟨xs, e⟩ := hi.allInts.items
  have hn : numsOf (intItems xs).toList = ns := by rw [← e]; exact hi.numsOf
  rw [nums_intItems] at hn
  subst hn
  rw [e] at hl
  have hsz : 0 < xs.size := by simpa using hne
  refine PySem.max_intList hh hl hsz fun v h' tk hv hk => ?_
  obtain ⟨t, rfl⟩ := intItems_at hv
  obtain ⟨h1, h2⟩ := argBest_gt (numAt xs) (xs.size - 1)
  refine h h' tk _ t hk ?_ fun a ha => ?_
  · rw [numAt_eq]; exact PySem.getD_mem (by rw [List.length_map, Array.length_toList]; omega)
  · obtain ⟨j, hj, rfl⟩ := mem_getD ha
    rw [List.length_map, Array.length_toList] at hj
    rw [← numAt_eq]; exact h2 j (by omega)
end
section
variable {X : Cx}
/-- sum(xs) of a list of ints -/
def rSum (K : PySem.W.Frag) : List V → Hp → VK → Prop := fun vs H Q => ∃ (a : Addr) (ns : List Int), vs = [V.ref a] ∧ SqL K H a (ns.map V.int) ∧ Q (.int ns.sum) H
/-- max(xs), min(xs) of a list of ints -/
def rMax (K : PySem.W.Frag) : List V → Hp → VK → Prop := fun vs H Q => ∃ (a : Addr) (ns : List Int), vs = [V.ref a] ∧ SqL K H a (ns.map V.int) ∧ 0 < ns.length ∧ ∀ m, m ∈ ns → (∀ y, y ∈ ns → y ≤ m) → Q (.int m) H
theorem cr_sum (hc : X.calm = true) : CallR X (.builtin "sum") (rSum X.K) := by
  intro pins s σ H vs us Q I r h
  obtain ⟨a, ns, rfl, hs, q⟩ := h
  obtain ⟨its, rv, hl, _⟩ := I.list hs
  rw [Vals.ref1 r]
  exact sum_raw (I.ok.hd hc) hl.isList rv.ints fun h' tk t' hk => ⟨.int _, H, I.kept hk, ⟨_, rfl⟩, q⟩
theorem cr_max (hc : X.calm = true) : CallR X (.builtin "max") (rMax X.K) := by
  intro pins s σ H vs us Q I r h
  obtain ⟨a, ns, rfl, hs, hne, q⟩ := h
  obtain ⟨its, rv, hl, _⟩ := I.list hs
  rw [Vals.ref1 r]
  exact max_raw (I.ok.hd hc) hl.isList rv.ints hne fun h' tk m t' hk h1 h2 => ⟨.int _, H, I.kept hk, ⟨_, rfl⟩, q m h1 h2⟩
end
section
variable {X : Cx}
end
section
variable {X : Cx}
end
theorem iter_any {prog : Program} {w : World} {A : Around} {E : Value → Shared → Prop} {s : Shared} {l : Addr} {items : Array Value} {Q : Value → Shared → Prop} (hl : s.heap.IsList l items)
    (h : ∀ s₂ : Shared, s₂ = { s with heap := s.heap.push { cls := .type "list_iterator", data := .fields #[.ref l, .int 0 0] } } →
      (s₂.heap.IsListIter s.heap.objs.size l 0 ∧ s₂.heap.IsList l items) → l ≠ s.heap.objs.size → Q (.ref s.heap.objs.size) s₂) : wpAny (model prog w) A (pyIter (.ref l)) Q E s := by
  have hlt : l < s.heap.objs.size := by obtain ⟨_, e, _⟩ := hl; exact Heap.lt_size e
  exact wpAny_pyIter_list hl (h _ rfl ⟨⟨_, Heap.get?_push_size _ rfl, rfl, rfl⟩, hl.push _⟩ (Nat.ne_of_lt hlt))
section
variable {X : Cx}
end
section
variable {X : Cx} {pins : List (Addr × Obj)} {σ : St} {H : Hp} {s : Shared}
end
section
variable {X : Cx}
end
end L2
namespace L2
open PySem PySem.Spec PyProof.Rows
abbrev CellAt (h : Heap) (c : Addr) (v : Option Value) : Prop := h.IsCell c v
def relS (scope sc : Scope) : Scope :=
  { scope with names := scope.names.map fun (n, k) => if (k == .free && sc.kind == .function && sc.names.lookup n == some .cell) then (n, .cell) else (n, k) }
def cloFrom (cells : List (Str × Addr)) : List (Str × NameKind) → List (Str × Addr) → List (Str × Addr)
  | [], acc => acc
  | (n, k) :: r, acc => if k == .free then cloFrom cells r ((n, (cells.lookup n).getD 0) :: acc) else cloFrom cells r acc
theorem closure_loop (env : Env) (f : Str × NameKind → List (Str × Addr) → Sem (ForInStep (List (Str × Addr))))
    (hf : ∀ n k c, f (n, k) c = if k == .free then (do let a ← cellOf env n; pure (.yield ((n, a) :: c))) else pure (.yield c)) :
    ∀ (names : List (Str × NameKind)) (acc : List (Str × Addr)), (∀ y ∈ names, y.2 = .free → ∃ c, env.cells.lookup y.1 = some c) → forIn names acc f = pure (cloFrom env.cells names acc)
  | [], acc, _ => by rw [List.forIn_nil]; rfl
  | (n, k) :: r, acc, h => by
    rw [List.forIn_cons, hf]
    have ih := fun acc => closure_loop env f hf r acc fun y hy => h y (List.mem_cons_of_mem _ hy)
    unfold cloFrom
    by_cases hk : (k == NameKind.free) = true
    · rw [if_pos hk, if_pos hk]
      obtain ⟨c, hc⟩ := h (n, k) List.mem_cons_self (by simpa using hk)
      have e : cellOf env n = pure c := by unfold cellOf; rw [hc]
      rw [e]
      have e2 : (env.cells.lookup n).getD 0 = c := by rw [hc]; rfl
      rw [e2]
      exact ih _
    · rw [if_neg hk, if_neg hk]
      exact ih _
theorem closure_ok {scope : Scope} {env : Env} (h : ∀ y ∈ scope.names, y.2 = .free → ∃ c, env.cells.lookup y.1 = some c) : closureFor scope env = pure (cloFrom env.cells scope.names []) := by
  simp only [closureFor]
  rw [closure_loop env _ (fun n k c => rfl) scope.names [] h]
  rfl
theorem mem_lookup {α : Type} : ∀ {l : List (Str × α)} {n : Str} {c : α}, (n, c) ∈ l → ∃ c', l.lookup n = some c'
  | (k, v) :: r, n, c, h => by
    rw [List.lookup_cons]
    cases hb : n == k with
    | true => exact ⟨_, rfl⟩
    | false =>
      rcases List.mem_cons.mp h with e | h
      · cases e; simp at hb
      · exact mem_lookup h
theorem cloFrom_mem {cells : List (Str × Addr)} : ∀ {names : List (Str × NameKind)} {acc : List (Str × Addr)} {n : Str} {c : Addr}, (n, c) ∈ cloFrom cells names acc → (n, c) ∈ acc ∨ ((n, .free) ∈ names ∧ c = (cells.lookup n).getD 0)
  | [], _, _, _, h => .inl h
  | (m, k) :: r, acc, n, c, h => by
    unfold cloFrom at h
    split at h
    · rename_i hk
      have hk : k = .free := by simpa using hk
      rcases cloFrom_mem h with h | ⟨h1, h2⟩
      · rcases List.mem_cons.mp h with e | h
        · cases e; exact .inr ⟨hk ▸ List.mem_cons_self, rfl⟩
        · exact .inl h
      · exact .inr ⟨List.mem_cons_of_mem _ h1, h2⟩
    · rcases cloFrom_mem h with h | ⟨h1, h2⟩
      · exact .inl h
      · exact .inr ⟨List.mem_cons_of_mem _ h1, h2⟩
theorem cloFrom_acc {cells : List (Str × Addr)} : ∀ {names : List (Str × NameKind)} {acc : List (Str × Addr)} {p : Str × Addr}, p ∈ acc → p ∈ cloFrom cells names acc
  | [], _, _, h => h
  | (m, k) :: r, acc, p, h => by
    unfold cloFrom
    split
    · exact cloFrom_acc (List.mem_cons_of_mem _ h)
    · exact cloFrom_acc h
theorem cloFrom_has {cells : List (Str × Addr)} : ∀ {names : List (Str × NameKind)} {acc : List (Str × Addr)} {n : Str}, (n, .free) ∈ names → (n, (cells.lookup n).getD 0) ∈ cloFrom cells names acc
  | (m, k) :: r, acc, n, h => by
    unfold cloFrom
    rcases List.mem_cons.mp h with e | h
    · cases e
      exact cloFrom_acc List.mem_cons_self
    · split
      · exact cloFrom_has h
      · exact cloFrom_has h
theorem cells_mem : ∀ {names : List (Str × NameKind)} {h : Heap} {acc : List (Str × Addr)} {x : Str} {c : Addr}, (x, c) ∈ cellsFrom h.objs.size names acc →
    (x, c) ∈ acc ∨ ((x, .cell) ∈ names ∧ h.objs.size ≤ c ∧ CellAt (pushCells h names) c none)
  | [], _, _, _, _, h => .inl h
  | (n, k) :: r, h, acc, x, c, hm => by
    unfold cellsFrom at hm
    unfold pushCells
    split at hm
    · rename_i hk
      rw [if_pos hk]
      have hk : k = .cell := by simpa using hk
      rw [← Heap.size_push h { cls := .type "cell", data := .cell none }] at hm
      rcases cells_mem hm with hm | ⟨h1, h2, h3⟩
      · rcases List.mem_cons.mp hm with e | hm
        · cases e
          exact .inr ⟨hk ▸ List.mem_cons_self, Nat.le_refl _, _, pushCells_keeps r _ _ _ (Heap.get?_push_size _ rfl), rfl⟩
        · exact .inl hm
      · rw [Heap.size_push] at h2
        exact .inr ⟨List.mem_cons_of_mem _ h1, Nat.le_of_succ_le h2, h3⟩
    · rename_i hk
      rw [if_neg hk]
      rcases cells_mem hm with hm | ⟨h1, h2, h3⟩
      · exact .inl hm
      · exact .inr ⟨List.mem_cons_of_mem _ h1, h2, h3⟩
theorem cells_acc : ∀ {names : List (Str × NameKind)} {n : Nat} {acc : List (Str × Addr)} {p : Str × Addr}, p ∈ acc → p ∈ cellsFrom n names acc
  | [], _, _, _, h => h
  | (m, k) :: r, n, acc, p, h => by
    unfold cellsFrom
    split
    · exact cells_acc (List.mem_cons_of_mem _ h)
    · exact cells_acc h
theorem cells_has : ∀ {names : List (Str × NameKind)} {n : Nat} {acc : List (Str × Addr)} {x : Str}, (x, .cell) ∈ names → ∃ c, (x, c) ∈ cellsFrom n names acc
  | (m, k) :: r, n, acc, x, h => by
    unfold cellsFrom
    rcases List.mem_cons.mp h with e | h
    · cases e
      exact ⟨n, cells_acc List.mem_cons_self⟩
    · split
      · exact cells_has h
      · exact cells_has h
theorem cells_inj : ∀ {names : List (Str × NameKind)} {h : Heap} {acc : List (Str × Addr)} {x y : Str} {c : Addr}, (∀ p ∈ acc, p.2 < h.objs.size) → (∀ x y c, (x, c) ∈ acc → (y, c) ∈ acc → x = y) →
    (x, c) ∈ cellsFrom h.objs.size names acc → (y, c) ∈ cellsFrom h.objs.size names acc → x = y
  | [], _, _, _, _, _, _, hi, h1, h2 => hi _ _ _ h1 h2
  | (n, k) :: r, h, acc, x, y, c, hl, hi, h1, h2 => by
    unfold cellsFrom at h1 h2
    split at h1
    · rename_i hk
      rw [if_pos hk] at h2
      rw [← Heap.size_push h { cls := .type "cell", data := .cell none }] at h1 h2
      refine cells_inj (h := h.push _) (fun p hp => ?_) (fun x y c a b => ?_) h1 h2
      · rw [Heap.size_push]
        rcases List.mem_cons.mp hp with rfl | hp
        · exact Nat.lt_succ_self _
        · exact Nat.lt_succ_of_lt (hl p hp)
      · rcases List.mem_cons.mp a with e | a <;> rcases List.mem_cons.mp b with e' | b
        · cases e; cases e'; rfl
        · cases e; exact absurd (hl _ b) (Nat.lt_irrefl _)
        · cases e'; exact absurd (hl _ a) (Nat.lt_irrefl _)
        · exact hi _ _ _ a b
    · rename_i hk
      rw [if_neg hk] at h2
      exact cells_inj hl hi h1 h2
theorem newEnv_comp {M : Model} {A : Around} {E : Value → Shared → Prop} {s : Shared} {scope : Scope} {globals : Addr} {closure : List (Str × Addr)} {qual : Str} {func : Option Addr} {code : Value} {around : Env} {builtins : Addr} {Q : Env → Shared → Prop}
    (h : Q (newEnv scope s.heap.objs.size globals (cellsFrom (s.heap.objs.size + 1) scope.names closure) qual func code (some around) builtins)
      { s with heap := pushCells (s.heap.push { cls := .type "dict", data := .dict #[] }) scope.names }) :
    wpAny M A (newFunctionEnv scope globals closure [] qual func code (some around) builtins) Q E s := by
  simp only [newFunctionEnv, Option.isSome_some, if_true]
  refine wpAny_bind (wpAny_alloc ?_)
  refine wpAny_bind (wpAny_layCells _ (fun n k c => rfl) scope.names closure _ _ ?_)
  rw [show ({ s with heap := s.heap.push { cls := .type "dict", data := .dict #[] } } : Shared).heap.objs.size = s.heap.objs.size + 1 from Heap.size_push ..]
  rw [List.forIn_nil]
  exact wpAny_bind (wpAny_pure (wpAny_pure h))
/-- every name of the written scope, in the scope that runs -/
theorem lookup_relS {sc : Scope} : ∀ {names : List (Str × NameKind)} {x : Str} {k : NameKind},
    (names.map fun (n, k) => if (k == NameKind.free && sc.kind == .function && sc.names.lookup n == some .cell) then (n, NameKind.cell) else (n, k)).lookup x = some k →
    ∃ k', names.lookup x = some k' ∧ (k = k' ∨ (k' = .free ∧ k = .cell))
  | [], _, _, h => by simp at h
  | (n, k₀) :: r, x, k, h => by
    have ih := @lookup_relS sc r x k
    have h' : List.lookup x ((if (k₀ == NameKind.free && sc.kind == .function && sc.names.lookup n == some .cell) = true then (n, NameKind.cell) else (n, k₀)) :: (r.map _)) = some k := h
    cases hx : x == n with
    | true =>
      simp only [List.lookup_cons, hx]
      by_cases hc : (k₀ == NameKind.free && sc.kind == .function && sc.names.lookup n == some .cell) = true
      · rw [if_pos hc] at h'
        simp only [List.lookup_cons, hx] at h'
        cases h'
        simp only [Bool.and_eq_true, beq_iff_eq] at hc
        exact ⟨k₀, rfl, .inr ⟨hc.1.1, rfl⟩⟩
      · rw [if_neg hc] at h'
        simp only [List.lookup_cons, hx] at h'
        cases h'
        exact ⟨_, rfl, .inl rfl⟩
    | false =>
      simp only [List.lookup_cons, hx]
      by_cases hc : (k₀ == NameKind.free && sc.kind == .function && sc.names.lookup n == some .cell) = true
      · rw [if_pos hc] at h'
        simp only [List.lookup_cons, hx] at h'
        exact ih h'
      · rw [if_neg hc] at h'
        simp only [List.lookup_cons, hx] at h'
        exact ih h'
/-- the names of a comprehension's block: its own (with their places in N), or captured -/
structure BlkOk (N : List Str) (sc scope : Scope) (own : List (Str × Nat)) : Prop where
  kind : scope.kind = .function
  uniq : ∀ y ∈ scope.names, scope.names.lookup y.1 = some y.2
  ix : ∀ p ∈ own, N[p.2]? = some p.1
  free : ∀ y ∈ scope.names, y.2 = .free → sc.names.lookup y.1 = some .cell ∨ sc.names.lookup y.1 = some .free
  own : ∀ y ∈ scope.names, y.2 = .local ∨ y.2 = .cell → y.1 ∈ own.map (·.1) ∨ y.1 ∉ N
/-- the slots of the block's own names forgotten -/
def wipe (σ : St) : List Nat → St
  | [] => σ
  | v :: vs => (wipe σ vs).set v none
theorem wipe_length (σ : St) : ∀ vs : List Nat, (wipe σ vs).length = σ.length
  | [] => rfl
  | v :: vs => by unfold wipe; rw [List.length_set, wipe_length σ vs]
theorem wipe_some {σ : St} {i : Nat} {x : V} : ∀ {vs : List Nat}, (wipe σ vs)[i]? = some (some x) → σ[i]? = some (some x) ∧ i ∉ vs
  | [], h => ⟨h, by simp⟩
  | v :: vs, h => by
    unfold wipe at h
    by_cases hi : v = i
    · subst hi
      by_cases hv : v < (wipe σ vs).length
      · rw [List.getElem?_set_self hv] at h; cases h
      · rw [List.getElem?_eq_none (by simpa using hv)] at h; cases h
    · rw [List.getElem?_set_ne hi] at h
      obtain ⟨h1, h2⟩ := wipe_some h
      exact ⟨h1, by simp only [List.mem_cons, not_or]; exact ⟨fun e => hi e.symm, h2⟩⟩
/-- the context of a block that starts at s, its iterator's objects at fp -/
abbrev Cx.blk (X : Cx) (s : Shared) (H : Hp) (scope : Scope) (cenv : Env) (fp : List Addr) : Cx := { X with s₀ := s, H₀ := H, env := cenv, outer := X.stack, ex := fp, fn := fun x => scope.names.lookup x == some .cell, pn := [], xe := fun _ _ => False }
section
variable {X : Cx} {pins : List (Addr × Obj)} {σ : St} {H : Hp} {s : Shared}
theorem block_start {scope : Scope} {own : List (Str × Nat)} {fp : List Addr} (I : Inv X pins σ H s) (ok : BlkOk X.N X.env.scope scope own) (hN : X.N.Nodup) (hfp : ∀ b ∈ fp, FpOk X pins H b ∧ b < s.heap.objs.size) :
    Inv (X.blk s H scope (compEnvC scope (cellsFrom (s.heap.objs.size + 1) scope.names (cloFrom X.env.cells scope.names [])) s.heap.objs.size X.env) fp) [] (wipe σ (own.map (·.2))) H { s with heap := pushCells (s.heap.push { cls := .type "dict", data := .dict #[] }) scope.names } := by
  have hfree : ∀ y ∈ scope.names, y.2 = .free → ∃ c, X.env.cells.lookup y.1 = some c := fun y hy e => by
    rcases ok.free y hy e with k | k
    · exact I.ok.has _ (.inl k)
    · exact I.ok.has _ (.inr k)
  generalize hcenv : compEnvC scope (cellsFrom (s.heap.objs.size + 1) scope.names (cloFrom X.env.cells scope.names [])) s.heap.objs.size X.env = cenv
  have kp : ∀ b o, s.heap.get? b = some o → (pushCells (s.heap.push { cls := .type "dict", data := .dict #[] }) scope.names).get? b = some o := fun b o e => pushCells_keeps _ _ _ _ (Heap.get?_push_of_some _ e)
  have hL : cenv.locals = s.heap.objs.size := by rw [← hcenv]; rfl
  have hcl : cenv.cells = cellsFrom (s.heap.objs.size + 1) scope.names (cloFrom X.env.cells scope.names []) := by rw [← hcenv]; rfl
  have hsc : cenv.scope = relS scope X.env.scope := by rw [← hcenv]; rfl
  rw [← Heap.size_push s.heap { cls := .type "dict", data := .dict #[] }] at hcl
  have cm : ∀ {y c}, (y, c) ∈ cloFrom X.env.cells scope.names [] → X.env.cells.lookup y = some c ∧ c < s.heap.objs.size := fun {y c} hm => by
    rcases cloFrom_mem hm with hm | ⟨h1, rfl⟩
    · cases hm
    · obtain ⟨c, hc⟩ := hfree _ h1 rfl
      rw [hc]
      obtain ⟨w, z⟩ := I.cell _ _ hc
      exact ⟨rfl, z.lt⟩
  have mem : ∀ {y c}, cenv.cells.lookup y = some c → (X.env.cells.lookup y = some c ∧ c < s.heap.objs.size) ∨ (s.heap.objs.size + 1 ≤ c ∧ CellAt (pushCells (s.heap.push { cls := .type "dict", data := .dict #[] }) scope.names) c none) := fun {y c} e => by
    rw [hcl] at e
    rcases cells_mem (PySem.mem_of_lookup e) with hm | ⟨_, h2, h3⟩
    · exact .inl (cm hm)
    · rw [Heap.size_push] at h2; exact .inr ⟨h2, h3⟩
  have look : ∀ {y}, scope.names.lookup y = some .free → ∃ c, cenv.cells.lookup y = some c ∧ X.env.cells.lookup y = some c := fun {y} hl => by
    have hy : (y, NameKind.free) ∈ scope.names := PySem.mem_of_lookup hl
    obtain ⟨c', e'⟩ := mem_lookup (cells_acc (names := scope.names) (n := (s.heap.push { cls := .type "dict", data := .dict #[] }).objs.size) (cloFrom_has (cells := X.env.cells) (acc := []) hy))
    rw [← hcl] at e'
    refine ⟨c', e', ?_⟩
    rw [hcl] at e'
    rcases cells_mem (PySem.mem_of_lookup e') with hm | ⟨h1, _, _⟩
    · exact (cm hm).1
    · have := ok.uniq _ h1
      rw [hl] at this; cases this
  have okB : (X.blk s H scope cenv fp).Ok := by
    refine ⟨I.ok.mod, by show cenv.scope.kind = _; rw [hsc]; exact ok.kind, by show cenv.globals = _; rw [← hcenv]; exact I.ok.glob, by show cenv.builtins = _; rw [← hcenv]; exact I.ok.blt, by show s.heap.objs.size ≤ cenv.locals; rw [hL]; exact Nat.le_refl _,
      fun y z c e1 e2 => ?_, fun y hy => ?_, fun y c z e => ?_, I.ok.hd, I.ok.frames, .inl rfl, fun b hb => ⟨?_, fun y c e z => ?_⟩, I.bs, Nat.le_trans I.ok.bsz I.sz, fun b o e hb => ?_, fun b hb z => ?_, I.stack, I.stkFree⟩
    · have e1 : cenv.cells.lookup y = some c := e1
      have e2 : cenv.cells.lookup z = some c := e2
      rw [hcl] at e1 e2
      refine cells_inj (fun p hp => ?_) (fun y z c a b => I.ok.inj y z c (cm a).1 (cm b).1) (PySem.mem_of_lookup e1) (PySem.mem_of_lookup e2)
      rw [Heap.size_push]
      exact Nat.lt_succ_of_lt (cm (y := p.1) (c := p.2) hp).2
    · show ∃ c, cenv.cells.lookup y = some c
      have key : ∀ k, cenv.kindOf y = some k → (k = .cell ∨ k = .free) → ∃ c, cenv.cells.lookup y = some c := fun k hk hk' => by
        unfold Env.kindOf at hk
        rw [hsc] at hk
        obtain ⟨k', e, r⟩ := lookup_relS hk
        have : k' = .cell ∨ k' = .free := by
          rcases r with rfl | ⟨rfl, _⟩
          · exact hk'
          · exact .inr rfl
        rcases this with rfl | rfl
        · obtain ⟨c, hm⟩ := cells_has (n := (s.heap.push { cls := .type "dict", data := .dict #[] }).objs.size) (acc := cloFrom X.env.cells scope.names []) (PySem.mem_of_lookup e)
          obtain ⟨c', e'⟩ := mem_lookup hm
          exact ⟨c', by rw [hcl]; exact e'⟩
        · obtain ⟨c, h1, _⟩ := look e
          exact ⟨c, h1⟩
      rcases hy with hy | hy
      · exact key _ hy (.inl rfl)
      · exact key _ hy (.inr rfl)
    · have z : (scope.names.lookup y == some NameKind.cell) = true := z
      have z : scope.names.lookup y = some .cell := by simpa using z
      have e : cenv.cells.lookup y = some c := e
      rw [hcl] at e
      rcases cells_mem (PySem.mem_of_lookup e) with hm | ⟨_, h2, _⟩
      · rcases cloFrom_mem hm with hm | ⟨h1, _⟩
        · cases hm
        · have q := ok.uniq _ h1
          rw [z] at q; cases q
      · rw [Heap.size_push] at h2
        exact Nat.le_of_succ_le h2
    · show b ≠ cenv.locals
      rw [hL]; exact Nat.ne_of_lt (hfp b hb).2
    · have e : cenv.cells.lookup y = some c := e
      rcases mem e with ⟨h1, _⟩ | ⟨h1, _⟩
      · exact (hfp b hb).1.2.2.2.2.1 y c h1 z
      · have h2 : s.heap.objs.size + 1 ≤ b := by rw [← z]; exact h1
        exact absurd (Nat.lt_of_lt_of_le (hfp b hb).2 (Nat.le_of_succ_le h2)) (Nat.lt_irrefl _)
    · rcases (hfp b hb).1.2.2.2.1 with z | z
      · exact I.ok.noex b o e z
      · exact absurd (Nat.lt_of_lt_of_le (Heap.lt_size e) (Nat.le_trans I.ok.bsz z)) (Nat.lt_irrefl _)
    · rcases List.mem_cons.mp (I.stkSub b z) with z | z
      · exact (hfp b hb).1.2.1 z
      · exact (hfp b hb).1.2.2.1 z
  refine ⟨okB, rfl, I.bare, Un.kept kp, ⟨fun _ => none, ?_, fun i y av e1 e2 e3 => ?_⟩, fun y c e => ?_, ?_, fun y c e => ?_, fun p hp => ?_, I.hok.kept kp, by rw [wipe_length]; exact I.len⟩
  · show Heap.Ns _ cenv.locals _
    rw [hL]
    exact Heap.Ns.keeps (Heap.Ns.new ..) fun b o e => pushCells_keeps _ _ _ _ e
  · obtain ⟨e2, hne⟩ := wipe_some e2
    have hfr : scope.names.lookup y = some .free ∧ (cenv.kindOf y = some .cell ∨ cenv.kindOf y = some .free) := by
      have key : ∀ k, cenv.scope.names.lookup y = some k → k = .local ∨ k = .cell ∨ k = .free → scope.names.lookup y = some .free ∧ (cenv.kindOf y = some .cell ∨ cenv.kindOf y = some .free) := fun k hk hk' => by
        have hk0 := hk
        rw [hsc] at hk
        obtain ⟨k', e, r⟩ := lookup_relS hk
        have no : ¬ (k' = .local ∨ k' = .cell) := fun hh => by
          rcases ok.own _ (PySem.mem_of_lookup e) hh with e' | e'
          · obtain ⟨p, hp, hpy⟩ := List.mem_map.mp e'
            have e3 := ok.ix p hp
            have : p.1 = y := hpy
            rw [this] at e3
            exact hne (List.mem_map.mpr ⟨p, hp, nodup_ix hN e3 e1⟩)
          · exact e' (List.mem_of_getElem? e1)
        rcases r with rfl | ⟨rfl, rfl⟩
        · rcases hk' with rfl | rfl | rfl
          · exact absurd (.inl rfl) no
          · exact absurd (.inr rfl) no
          · exact ⟨e, .inr hk0⟩
        · exact ⟨e, .inl hk0⟩
      have e3 : Vis cenv.scope y := e3
      rcases e3 with e3 | e3 | e3
      · exact key _ e3 (.inl rfl)
      · exact key _ e3 (.inr (.inl rfl))
      · exact key _ e3 (.inr (.inr rfl))
    obtain ⟨m, hn, hl⟩ := I.loc
    have hvis : Vis X.env.scope y := (ok.free _ (PySem.mem_of_lookup hfr.1) rfl).elim (fun k => .inr (.inl k)) (fun k => .inr (.inr k))
    obtain ⟨w, r, q⟩ := hl i y av e1 e2 hvis
    refine ⟨w, r, .inr ⟨hfr.2, ?_⟩⟩
    obtain ⟨c, h1, h2⟩ := look hfr.1
    rcases q with ⟨k, _⟩ | ⟨_, c', e', z⟩
    · have k : X.env.scope.names.lookup y = some .local := k
      rcases ok.free _ (PySem.mem_of_lookup hfr.1) rfl with k' | k' <;> rw [show X.env.scope.names.lookup y = _ from k'] at k <;> cases k
    · rw [h2] at e'; cases e'
      exact ⟨c, h1, z.keeps kp⟩
  · have e : cenv.cells.lookup y = some c := e
    rcases mem e with ⟨h1, _⟩ | ⟨_, z⟩
    · obtain ⟨w, z⟩ := I.cell y c h1
      exact ⟨w, z.keeps kp⟩
    · exact ⟨_, z⟩
  · show H cenv.locals = none
    rw [hL]; exact I.hok.fresh (Nat.le_refl _)
  · have e : cenv.cells.lookup y = some c := e
    rcases mem e with ⟨h1, _⟩ | ⟨h1, _⟩
    · exact I.freeC y c h1
    · exact I.hok.fresh (Nat.le_of_succ_le h1)
  · exact absurd (show p ∈ ([] : List (Addr × Obj)) ++ [] from hp) (by simp)
/-- an item appended to a tracked list -/
theorem app_ok {E : Value → Shared → Prop} {D : Addr} {xs : List V} {y : V} {v : Value} {Q : Value → Shared → Prop} (I : Inv X pins σ H s) (hD : H D = some (.lst xs)) (hz : xs.length < sizeLine) (r : RelV y v)
    (h : ∀ s', Inv X pins σ (upd H D (.lst (xs ++ [y]))) s' → Q .none s') : wpAny (model X.prog X.w) X.A (call (.builtin "list.append") [.ref D, v]) Q E s := by
  obtain ⟨hz', its, n, ri, e⟩ := I.hok D _ hD
  have hl := ri.length
  refine append_at (hsz := by rw [List.size_toArray]; omega) e fun h' sb ho' => ?_
  refine h { s with heap := h' } (I.write (t' := s.toks) (by rw [hD]; trivial) (.inl rfl) (fun b u hb q => (sb.2 b hb).trans q) ⟨_, ho'⟩ ⟨by rw [List.length_append]; exact hz, its ++ [v], n + 1, ri.append (.cons r .nil), ?_⟩)
  rw [ho']
  simp
/-- a clause's tests -/
def PTs (X : Cx) (ifs : List Expr) (t : TT) : Prop :=
  ∀ (pins : List (Addr × Obj)) (s : Shared) (σ : St) (H : Hp) (Q : Bool → Hp → Prop), Inv X pins σ H s → t σ H Q →
    wpAny (model X.prog X.w) X.A (forIn ifs true fun c r => if r = true then do let ok ← isTrue c X.env (eval c X.env); pure (ForInStep.yield ok) else pure (ForInStep.yield r)) (TP X pins σ Q) X.xe s
def tYes : TT := fun _ H Q => Q true H
theorem pts_nil : PTs X [] tYes := fun _ _ _ H _ I h => wpAny_tests_nil ⟨H, I, h⟩
theorem pts_one {c : Expr} {t : TT} (h : PT X c t) : PTs X [c] t := fun pins s σ H Q I hw => wpAny_tests_one (h pins s σ H Q I hw)
end
theorem thnF {α : Type} {t : Sem α} {Q Q' : α → Shared → Prop} {M : Model} {A : Around} {E : Value → Shared → Prop} {s : Shared} (h : wpAny M A t Q (fun _ _ => False) s) (hQ : ∀ a s, Q a s → Q' a s) : wpAny M A t Q' E s := wpAny_mono h hQ fun _ _ z => False.elim z
/-- the loop of a list comprehension's block, the target of any form (codeAny_compLoop_tests asks a target that no tuple goes to; statement and proof follow it, PyProof/CompMap.lean:41-61, with the step letOwnedTupleGo kept) -/
theorem compLoop_any {prog : Program} {w : World} {A : Around} {R : Result → Shared → Prop} {s : Shared} {elt target iter : Expr} {ifs : List Expr} {scope : Scope} {pos : Pos} {it acc : Value} {env : Env} (I : Nat → Shared → Prop)
    (turn : ∀ n s, I n s → wpAny (model prog w) A (pyNext it) (fun r s₁ => match r with
      | none => R (.ok .next) s₁
      | some v => wpAny (model prog w) A (letOwnedTupleGo target it v) (fun _ s₁' => wpAny (model prog w) A (assign target env v) (fun _ s₂ =>
          wpAny (model prog w) A (forIn ifs true fun c r => if r = true then do let ok ← isTrue c env (eval c env); pure (ForInStep.yield ok) else pure (ForInStep.yield r)) (fun ok s₃ =>
            if ok = true then wpAny (model prog w) A (eval elt env) (fun x s₄ =>
              wpAny (model prog w) A (call (.builtin "list.append") [acc, x]) (fun _ s₅ => ∃ m, m < n ∧ I m s₅) (notedBy (model prog w) A env fun e s' => R (.error e) s') s₄) (notedBy (model prog w) A env fun e s' => R (.error e) s') s₃
            else ∃ m, m < n ∧ I m s₃) (notedBy (model prog w) A env fun e s' => R (.error e) s') s₂) (notedBy (model prog w) A env fun e s' => R (.error e) s') s₁') (notedBy (model prog w) A env fun e s' => R (.error e) s') s₁) (notedBy (model prog w) A env fun e s' => R (.error e) s') s)
    (n : Nat) (h : I n s) :
    codeAny (model prog w) A (.compLoop (.ListComp elt [⟨target, iter, ifs, 0⟩] scope pos) 0 it acc env) R s := by
  refine codeAny_loop rfl I (fun n s hI => ?_) n h
  show wpAny _ A ((compTurn (.ListComp elt [⟨target, iter, ifs, 0⟩] scope pos) 0 it acc env).onRaise (fun x => do noteFrame x env; theTreesLotGoes x)) _ _ s
  refine wpAny_noted ?_
  rw [compTurn_list]
  refine wpAny_bind (wpAny_standAt (wpAny_bind (wpAny_mono (turn n s hI) (fun r s₁ h₁ => ?_) fun _ _ h' => h')))
  cases r with
  | none => exact wpAny_pure h₁
  | some v =>
    refine wpAny_bind (wpAny_mono h₁ (fun _ s₁' h₁' => ?_) fun _ _ h' => h')
    refine wpAny_bind (wpAny_mono h₁' (fun _ s₂ h₂ => wpAny_bind (wpAny_mono h₂ (fun ok s₃ h₃ => ?_) fun _ _ h' => h')) fun _ _ h' => h')
    cases ok with
    | false => exact wpAny_pure ⟨rfl, h₃⟩
    | true =>
      exact wpAny_bind (wpAny_bind (wpAny_mono h₃ (fun x s₄ h₄ => wpAny_bind (wpAny_mono h₄ (fun _ s₅ h₅ => wpAny_pure (wpAny_pure ⟨rfl, h₅⟩)) fun _ _ h' => h')) fun _ _ h' => h'))
section
variable {X : Cx}
/-- [elt for target in iter if ..]: D the new list; W by the turn and a measure, Nx what a turn is to reach -/
def tLc (wi : TI) (g : TG) (tt : TT) (te : TE) (vs : List Nat) : TE := fun σ H Q => wi σ H fun J H1 => ∀ D, H1 D = none → ∃ W : Nat → Nat → Hp → Prop, (∃ m, W 0 m (upd H1 D (.lst []))) ∧ ∀ i m H, W i m H →
  (J.stop i H ∧ Q (.ref D) H) ∨ (J.go i H ∧ ∃ Nx : Hp → Prop, (∀ H', Nx H' → ∃ m', m' < m ∧ W (i + 1) m' H') ∧ ∀ x H', J.yld i H x H' → g x (wipe σ vs) H' fun σ2 H2 => wipe σ2 vs = wipe σ vs ∧ tt σ2 H2 fun b H3 =>
    if b = true then te σ2 H3 fun y H4 => ∃ acc, H4 D = some (.lst acc) ∧ acc.length < sizeLine ∧ Nx (upd H4 D (.lst (acc ++ [y]))) else Nx H3)
theorem lc_core {pins : List (Addr × Obj)} {s : Shared} {σ : St} {H : Hp} {Q : VK} {elt tg iter : Expr} {ifs : List Expr} {scope : Scope} {own : List (Str × Nat)} {pos pos' : Pos} {wi : TI} {g : TG} {tt : TT} {te : TE} {use : Option (Value → Sem Unit)} {Qf : Value → Shared → Prop}
    (hc : X.calm = true) (hN : X.N.Nodup) (I : Inv X pins σ H s) (hi : PI X tg iter wi) (ok : BlkOk X.N X.env.scope scope own)
    (hg : ∀ (s : Shared) (H : Hp) (C : Addr) (cl : List (Str × Addr)) (fp : List Addr), PG (X.blk s H scope (compEnvC scope cl C X.env) fp) tg g) (ht : ∀ (s : Shared) (H : Hp) (C : Addr) (cl : List (Str × Addr)) (fp : List Addr), PTs (X.blk s H scope (compEnvC scope cl C X.env) fp) ifs tt)
    (he : ∀ (s : Shared) (H : Hp) (C : Addr) (cl : List (Str × Addr)) (fp : List Addr), PE (X.blk s H scope (compEnvC scope cl C X.env) fp) elt te) (hs : ∀ x, foldedSetIterable iter X.env x = pure x)
    (h : tLc wi g tt te (own.map (·.2)) σ H Q)
    (hRR : ∀ D C s' m H', Inv X pins σ H' s' → Q (.ref D) H' → s'.heap.Ns C m → FpOk X pins H' C → compPost (model X.prog X.w) X.A X.xe use Qf (.ref D) C (.ok .next) s') :
    wpAny (model X.prog X.w) X.A (comprehension (.ListComp elt [⟨tg, iter, ifs, 0⟩] scope pos) scope X.env pos' (newList []) false (eval iter X.env) use) Qf X.xe s := by
  have hfree : ∀ y ∈ scope.names, y.2 = .free → ∃ c, X.env.cells.lookup y.1 = some c := fun y hy e => by
    rcases ok.free y hy e with k | k
    · exact I.ok.has _ (.inl k)
    · exact I.ok.has _ (.inr k)
  refine wpAny_comprehension_free (use := use) rfl hs (closure_ok hfree) ok.kind (fun y hy e => by rw [ok.uniq y hy, e])
    (thn (hi pins s σ H _ I h) fun xv s1 hx => thn hx fun itv s2 h2 => ?_)
  obtain ⟨it, fp, tn, J, H2, e, I2, T, st2, f2, q⟩ := h2
  subst e
  refine wpAny_newObj_type (newEnv_comp ?_) (by show 0 ≤ sizeLine; decide)
  generalize hD : s2.heap.objs.size = D
  have hDn : H2 D = none := I2.hok.fresh (Nat.le_of_eq hD)
  obtain ⟨W, ⟨m0, w0⟩, turn⟩ := q D hDn
  -- the new list
  generalize hs3 : ({ s2 with heap := s2.heap.push { cls := .type "list", data := .seq ([] : List Value).toArray } } : Shared) = s3
  have I3 : Inv X pins σ (upd H2 D (.lst [])) s3 := by
    rw [← hs3]
    refine I2.laid (t' := s2.toks) (fun b o e => Heap.get?_push_of_some _ e) (Nat.le_of_eq hD) ⟨Nat.zero_le _, [], 0, .nil, ?_⟩
    rw [← hD]
    exact Heap.get?_push_size _ rfl
  have h3 : s3.heap = s2.heap.push { cls := .type "list", data := .seq ([] : List Value).toArray } := by rw [← hs3]
  have sz : ∀ b ∈ fp, b < s2.heap.objs.size := fun b hb => by
    obtain ⟨o, e, _⟩ := T.obj _ _ st2 b hb
    exact Heap.lt_size e
  have f3 : ∀ b ∈ fp, FpOk X pins (upd H2 D (.lst [])) b ∧ b < s3.heap.objs.size := fun b hb => by
    have hlt := sz b hb
    refine ⟨⟨?_, (f2 b hb).2⟩, by rw [h3, Heap.size_push]; exact Nat.lt_succ_of_lt hlt⟩
    rw [upd_ne (by rw [← hD]; exact Nat.ne_of_lt hlt)]
    exact (f2 b hb).1
  have st3 : tn 0 s3.heap := T.keep _ _ _ st2 fun b _ o e => by rw [h3]; exact Heap.get?_push_of_some _ e
  have I4 := block_start I3 ok hN f3
  have pg := hg s3 (upd H2 D (.lst [])) s3.heap.objs.size (cellsFrom (s3.heap.objs.size + 1) scope.names (cloFrom X.env.cells scope.names [])) fp
  have pt := ht s3 (upd H2 D (.lst [])) s3.heap.objs.size (cellsFrom (s3.heap.objs.size + 1) scope.names (cloFrom X.env.cells scope.names [])) fp
  have pe := he s3 (upd H2 D (.lst [])) s3.heap.objs.size (cellsFrom (s3.heap.objs.size + 1) scope.names (cloFrom X.env.cells scope.names [])) fp
  show codeAny _ _ (.compStart (.ListComp elt [⟨tg, iter, ifs, 0⟩] scope pos) 0 (.ref it) (.ref D) (compEnvC scope (cellsFrom (s3.heap.objs.size + 1) scope.names (cloFrom X.env.cells scope.names [])) s3.heap.objs.size X.env)) (compPost (model X.prog X.w) X.A X.xe use Qf (.ref D) s3.heap.objs.size) { s3 with heap := pushCells (s3.heap.push { cls := .type "dict", data := .dict #[] }) scope.names }
  have nfp : ∀ b ∈ fp, (upd H2 D (.lst [])) b = none := fun b hb => (f3 b hb).1.1
  generalize hce : compEnvC scope (cellsFrom (s3.heap.objs.size + 1) scope.names (cloFrom X.env.cells scope.names [])) s3.heap.objs.size X.env = ce at I4 pg pt pe ⊢
  have cL : ce.locals = s3.heap.objs.size := by subst hce; rfl
  generalize hH3 : upd H2 D (.lst []) = H3 at I3 I4 pg pt pe w0 nfp f3
  generalize hs4 : ({ s3 with heap := pushCells (s3.heap.push { cls := .type "dict", data := .dict #[] }) scope.names } : Shared) = s4 at I4 ⊢
  have st4 : tn 0 s4.heap := T.keep _ _ _ st3 fun b _ o e => by rw [← hs4]; exact pushCells_keeps _ _ _ _ (Heap.get?_push_of_some _ e)
  have stat : ∀ {σ' : St} {H' : Hp} {s' : Shared}, Inv (X.blk s3 H3 scope ce fp) [] σ' H' s' → (∀ b ∈ fp, H' b = none) → ∀ b ∈ fp, FpOk (X.blk s3 H3 scope ce fp) [] H' b := fun {σ' H' s'} I' hn b hb =>
    ⟨hn b hb, (I'.ok.exf b hb).1, I'.ok.exfs b hb, .inl hb, fun x c e => (I'.ok.exf b hb).2 x c e, fun p hp => absurd (show p ∈ ([] : List (Addr × Obj)) ++ [] from hp) (by simp)⟩
  have loop : codeAny (model X.prog X.w) X.A (.compLoop (.ListComp elt [⟨tg, iter, ifs, 0⟩] scope pos) 0 (.ref it) (.ref D) ce) (compPost (model X.prog X.w) X.A X.xe use Qf (.ref D) s3.heap.objs.size) s4 := by
    refine compLoop_any (fun n s' => ∃ i H', Inv (X.blk s3 H3 scope ce fp) [] (wipe σ (own.map (·.2))) H' s' ∧ tn i s'.heap ∧ (∀ b ∈ fp, H' b = none) ∧ W i n H') ?_ m0 ⟨0, H3, I4, st4, nfp, w0⟩
    rintro n s5 ⟨i, H5, I5, st5, n5, w5⟩
    rcases turn i n H5 w5 with ⟨stop, qq⟩ | ⟨go, Nx, hNx, step⟩
    · have td := T.done (X.blk s3 H3 scope ce fp) rfl rfl rfl hc i [] s5 _ H5 (fun _ _ => False) I5 (stat I5 n5) st5 stop
      refine thnF td fun r s6 ⟨hr, I6⟩ => ?_
      subst hr
      -- back in the def's context
      have I7 : Inv X pins σ H5 s6 := I3.call' (ch := fp) I6.os I6.base I6.hok I6.bare fun b hb => ⟨(f3 b hb).1.2.2.2.1, (f3 b hb).1.2.1, (f3 b hb).1.2.2.2.2.1, (f3 b hb).1.2.2.2.2.2⟩
      have nC : H5 s3.heap.objs.size = none := by
        have z : H5 ce.locals = none := I6.free
        rw [cL] at z
        exact z
      obtain ⟨m, hn, _⟩ := I6.loc
      have hn : s6.heap.Ns ce.locals m := hn
      rw [cL] at hn
      exact hRR D s3.heap.objs.size s6 m H5 I7 qq hn (I3.fpOk (Nat.le_refl _) nC)
    · have ti := T.item (X.blk s3 H3 scope ce fp) rfl rfl rfl hc i [] s5 _ H5 (fun _ _ => False) I5 (stat I5 n5) st5 go
      refine thnF ti fun r s6 ⟨u, hr, h6⟩ => ?_
      subst hr
      refine thnF h6 fun _ s7 ⟨x, H7, I7, r7, y7, st7, n7⟩ => ?_
      have I7' := I7.pinned (stat I7 n7) (T.obj _ _ st7)
      refine thnF (pg _ s7 _ H7 x u _ I7' r7 (step x H7 y7)) fun _ s8 ⟨σ8, H8, I8, hw8, q8⟩ => ?_
      refine thnF (pt _ s8 σ8 H8 _ I8 q8) fun b s9 ⟨H9, I9, q9⟩ => ?_
      -- the turn's end
      have fin : ∀ {s' : Shared} {H' : Hp}, Inv (X.blk s3 H3 scope ce fp) ([] ++ pinsAt fp s7.heap) σ8 H' s' → Nx H' → ∃ m, m < n ∧ ∃ i H', Inv (X.blk s3 H3 scope ce fp) [] (wipe σ (own.map (·.2))) H' s' ∧ tn i s'.heap ∧ (∀ b ∈ fp, H' b = none) ∧ W i m H' := fun {s' H'} I' nx => by
        obtain ⟨m', hm, w'⟩ := hNx H' nx
        have pin' : ∀ b ∈ fp, ∀ o, s7.heap.get? b = some o → s'.heap.get? b = some o ∧ H' b = none := fun b hb o e =>
          let z := I'.pin (b, o) (List.mem_append_right _ (List.mem_append_right _ (mem_pinsAt hb e)))
          ⟨z.1, z.2.1⟩
        have hl : (wipe σ (own.map (·.2))).length = σ8.length := by rw [← hw8, wipe_length]
        refine ⟨m', hm, i + 1, H', (I'.unpinned (pins := [])).weak hl (fun j v e => ?_), T.keep _ _ _ st7 fun b hb o e => (pin' b hb o e).1, fun b hb => ?_, w'⟩
        · rw [← hw8] at e
          exact (wipe_some e).1
        · obtain ⟨o, e, _⟩ := T.obj _ _ st7 b hb
          exact (pin' b hb o e).2
      cases b with
      | false =>
        simp only [Bool.false_eq_true, if_false] at q9 ⊢
        exact fin I9 q9
      | true =>
        simp only [if_true] at q9 ⊢
        refine thnF (pe _ s9 σ8 H9 _ I9 q9) fun z s10 ⟨yv, H10, I10, r10, acc, hD10, hz10, nx⟩ => ?_
        exact app_ok (X := X.blk s3 H3 scope ce fp) I10 hD10 hz10 r10 fun s11 I11 => fin I11 nx
  exact codeAny_compStart_list loop (T.self X.A 0 _ _ _ st4 loop)
/-- as a value -/
theorem pe_lc {elt tg iter : Expr} {ifs : List Expr} {scope : Scope} {own : List (Str × Nat)} {pos : Pos} {wi : TI} {g : TG} {tt : TT} {te : TE} (hc : X.calm = true) (hN : X.N.Nodup) (hi : PI X tg iter wi) (ok : BlkOk X.N X.env.scope scope own)
    (hg : ∀ (s : Shared) (H : Hp) (C : Addr) (cl : List (Str × Addr)) (fp : List Addr), PG (X.blk s H scope (compEnvC scope cl C X.env) fp) tg g) (ht : ∀ (s : Shared) (H : Hp) (C : Addr) (cl : List (Str × Addr)) (fp : List Addr), PTs (X.blk s H scope (compEnvC scope cl C X.env) fp) ifs tt)
    (he : ∀ (s : Shared) (H : Hp) (C : Addr) (cl : List (Str × Addr)) (fp : List Addr), PE (X.blk s H scope (compEnvC scope cl C X.env) fp) elt te) (hs : ∀ x, foldedSetIterable iter X.env x = pure x := by intro _; rfl) :
    PE X (.ListComp elt [⟨tg, iter, ifs, 0⟩] scope pos) (tLc wi g tt te (own.map (·.2))) := by
  intro pins s σ H Q I h
  rw [eval_ListComp]
  refine lc_core hc hN I hi ok hg ht he hs h fun D C s' m H' I' q hn f => ⟨m, hn, fun h'' sb => ?_⟩
  obtain ⟨f0, f1, f2, f3, f4, f5⟩ := f
  exact ⟨.ref D, H', I'.turned (t' := s'.toks) (fun b o hb e => (sb.2 b hb).trans e) f0 f1 f3 f4 f5, rfl, q⟩
/-- name = [..] on one line, the name a local -/
theorem ps_setLc {i : Nat} {y : Str} {py : Pos} {elt tg iter : Expr} {ifs : List Expr} {scope : Scope} {own : List (Str × Nat)} {pos spos : Pos} {wi : TI} {g : TG} {tt : TT} {te : TE} (hc : X.calm = true) (hN : X.N.Nodup) (hy : X.N[i]? = some y) (hyl : X.env.scope.names.lookup y = some .local)
    (hsw : swapsWith (.ListComp elt [⟨tg, iter, ifs, 0⟩] scope pos) (some (.Name y py)) spos.line X.env = pure true) (hi : PI X tg iter wi) (ok : BlkOk X.N X.env.scope scope own)
    (hg : ∀ (s : Shared) (H : Hp) (C : Addr) (cl : List (Str × Addr)) (fp : List Addr), PG (X.blk s H scope (compEnvC scope cl C X.env) fp) tg g) (ht : ∀ (s : Shared) (H : Hp) (C : Addr) (cl : List (Str × Addr)) (fp : List Addr), PTs (X.blk s H scope (compEnvC scope cl C X.env) fp) ifs tt)
    (he : ∀ (s : Shared) (H : Hp) (C : Addr) (cl : List (Str × Addr)) (fp : List Addr), PE (X.blk s H scope (compEnvC scope cl C X.env) fp) elt te) (hs : ∀ x, foldedSetIterable iter X.env x = pure x := by intro _; rfl) :
    PS X (.Assign [.Name y py] (.ListComp elt [⟨tg, iter, ifs, 0⟩] scope pos) spos) (tAsg (tLc wi g tt te (own.map (·.2))) (gName i)) := by
  intro pins s σ H D I h
  rw [exec_Assign_Name_used _ _ _ _ hsw]
  refine wpAny_bind (wpAny_standAt (wpAny_bind ?_))
  show wpAny _ X.A (do let _ ← comprehension (.ListComp elt [⟨tg, iter, ifs, 0⟩] scope pos) scope X.env (firstIterPos [⟨tg, iter, ifs, 0⟩] pos) (newList []) false (eval iter X.env) (some (assign (.Name y py) X.env))) _ _ s
  have h : tLc wi g tt te (own.map (·.2)) σ H (fun x H1 => gName i x σ H1 D.nx) := h
  refine wpAny_bind (thn (lc_core (Qf := fun _ s' => SP X pins D .next s') hc hN I hi ok hg ht he hs h fun L C s' m H' I' q hn f => ?_) fun _ s' hq => wpAny_pure (wpAny_pure hq))
  show wpAny _ _ (assign (.Name y py) X.env (.ref L)) _ _ _
  refine wpAny_assign_Name (store_ok2 (v := V.ref L) I' hN hy (.inl hyl) rfl (fun s2 I2 ⟨a, sb, ha⟩ => ?_) (.inr hyl))
  obtain ⟨f0, f1, f2, f3, f4, f5⟩ := f
  have haC : C ≠ a := by
    rcases ha with z | z
    · rw [z]; exact f1
    · exact fun e => f4 y a z e.symm
  refine ⟨m, hn.sameBut sb haC, fun h3 sb3 => ?_⟩
  exact ⟨_, H', I2.turned (t' := s2.toks) (fun b o hb e => (sb3.2 b hb).trans e) f0 f1 f3 f4 f5, q⟩
theorem sw_true {elt : Expr} {gs : List Comprehension} {scope : Scope} {pos py : Pos} {y : Str} {l : Nat} {env : Env} (hk : env.scope.kind = .function) (hy : env.scope.names.lookup y = some .local) (hl : (py.line == pos.line) = true)
    (ha : (scope.names.any fun (n, k) => n == y && (k == .local || k == .cell)) = false) : swapsWith (.ListComp elt gs scope pos) (some (.Name y py)) l env = pure true := by
  have ky : env.kindOf y = some .local := hy
  have hb : env.blockKind = .function := by unfold Env.blockKind; rw [hk]; rfl
  unfold swapsWith
  simp only [hb, ky, ha, Expr.pos, hl]
  rfl
end
/-- over a range: Pv by the turn and the heap (the new list at D within) -/
theorem lc_range {lo : Int} {n : Nat} {g : TG} {tt : TT} {te : TE} {vs : List Nat} {σ : St} {H1 : Hp} {D : Addr} {Qd : Hp → Prop} (Pv : Nat → Hp → Prop) (h0 : Pv 0 (upd H1 D (.lst [])))
    (hs : ∀ i H, i < n → Pv i H → g (.int (lo + i)) (wipe σ vs) H fun σ2 H2 => wipe σ2 vs = wipe σ vs ∧ tt σ2 H2 fun b H3 =>
      if b = true then te σ2 H3 fun y H4 => ∃ acc, H4 D = some (.lst acc) ∧ acc.length < sizeLine ∧ Pv (i + 1) (upd H4 D (.lst (acc ++ [y]))) else Pv (i + 1) H3) (hd : ∀ H, Pv n H → Qd H) :
    ∃ W : Nat → Nat → Hp → Prop, (∃ m, W 0 m (upd H1 D (.lst []))) ∧ ∀ i m H, W i m H →
      ((Itr lo n).stop i H ∧ Qd H) ∨ ((Itr lo n).go i H ∧ ∃ Nx : Hp → Prop, (∀ H', Nx H' → ∃ m', m' < m ∧ W (i + 1) m' H') ∧ ∀ x H', (Itr lo n).yld i H x H' → g x (wipe σ vs) H' fun σ2 H2 => wipe σ2 vs = wipe σ vs ∧ tt σ2 H2 fun b H3 =>
        if b = true then te σ2 H3 fun y H4 => ∃ acc, H4 D = some (.lst acc) ∧ acc.length < sizeLine ∧ Nx (upd H4 D (.lst (acc ++ [y]))) else Nx H3) := by
  refine ⟨fun i m H => m = n - i ∧ i ≤ n ∧ Pv i H, ⟨n, by simp, Nat.zero_le _, h0⟩, ?_⟩
  rintro i m H ⟨rfl, hi, p⟩
  by_cases hlt : i < n
  · refine .inr ⟨hlt, Pv (i + 1), fun H' p' => ⟨n - (i + 1), by omega, rfl, hlt, p'⟩, fun x H' y => ?_⟩
    obtain ⟨e, y⟩ := y
    subst e y
    exact hs i _ hlt p
  · have e : i = n := by omega
    subst e
    exact .inl ⟨Nat.le_refl _, hd H p⟩
/-- over a list that the block leaves as it is -/
theorem lc_list {K : PySem.W.Frag} {a : Addr} {xs : List V} {g : TG} {tt : TT} {te : TE} {vs : List Nat} {σ : St} {H1 : Hp} {D : Addr} {Qd : Hp → Prop} (Pv : Nat → Hp → Prop) (h0 : Pv 0 (upd H1 D (.lst []))) (hl : ∀ i H, i ≤ xs.length → Pv i H → SqL K H a xs)
    (hs : ∀ i x H, xs[i]? = some x → Pv i H → g x (wipe σ vs) H fun σ2 H2 => wipe σ2 vs = wipe σ vs ∧ tt σ2 H2 fun b H3 =>
      if b = true then te σ2 H3 fun y H4 => ∃ acc, H4 D = some (.lst acc) ∧ acc.length < sizeLine ∧ Pv (i + 1) (upd H4 D (.lst (acc ++ [y]))) else Pv (i + 1) H3) (hd : ∀ H, Pv xs.length H → Qd H) :
    ∃ W : Nat → Nat → Hp → Prop, (∃ m, W 0 m (upd H1 D (.lst []))) ∧ ∀ i m H, W i m H →
      ((Itl K a).stop i H ∧ Qd H) ∨ ((Itl K a).go i H ∧ ∃ Nx : Hp → Prop, (∀ H', Nx H' → ∃ m', m' < m ∧ W (i + 1) m' H') ∧ ∀ x H', (Itl K a).yld i H x H' → g x (wipe σ vs) H' fun σ2 H2 => wipe σ2 vs = wipe σ vs ∧ tt σ2 H2 fun b H3 =>
        if b = true then te σ2 H3 fun y H4 => ∃ acc, H4 D = some (.lst acc) ∧ acc.length < sizeLine ∧ Nx (upd H4 D (.lst (acc ++ [y]))) else Nx H3) := by
  refine ⟨fun i m H => m = xs.length - i ∧ i ≤ xs.length ∧ Pv i H, ⟨xs.length, by simp, Nat.zero_le _, h0⟩, ?_⟩
  rintro i m H ⟨rfl, hi, p⟩
  have q := hl i H hi p
  by_cases hlt : i < xs.length
  · refine .inr ⟨⟨xs, xs[i], q, by simp [hlt]⟩, Pv (i + 1), fun H' p' => ⟨xs.length - (i + 1), by omega, rfl, hlt, p'⟩, fun x H' y => ?_⟩
    obtain ⟨e, y⟩ := y
    subst e
    exact hs i x _ (y xs q) p
  · have e : i = xs.length := by omega
    subst e
    exact .inl ⟨⟨xs, q, Nat.le_refl _⟩, hd H p⟩
def blkC (N : List Str) (sc scope : Scope) (own : List (Str × Nat)) : Bool :=
  (match scope.kind with | .function => true | _ => false) && (scope.names.all fun y => decide (scope.names.lookup y.1 = some y.2)) && (own.all fun p => decide (N[p.2]? = some p.1)) &&
    (scope.names.all fun y => match y.2 with
      | .free => (match sc.names.lookup y.1 with | some .cell => true | some .free => true | _ => false)
      | .local => decide (y.1 ∈ own.map (·.1)) || decide (y.1 ∉ N)
      | .cell => decide (y.1 ∈ own.map (·.1)) || decide (y.1 ∉ N)
      | _ => true)
theorem blkOk_by {N : List Str} {sc scope : Scope} {own : List (Str × Nat)} (h : blkC N sc scope own = true) : BlkOk N sc scope own := by
  unfold blkC at h
  simp only [Bool.and_eq_true, List.all_eq_true, decide_eq_true_eq] at h
  obtain ⟨⟨⟨h1, h2⟩, h3⟩, h4⟩ := h
  refine ⟨?_, h2, h3, fun y hy e => ?_, fun y hy e => ?_⟩
  · split at h1
    · assumption
    · cases h1
  · have q := h4 y hy
    simp only [e] at q
    split at q <;> first | exact .inl (by assumption) | exact .inr (by assumption) | cases q
  · have q := h4 y hy
    rcases e with e | e <;> (simp only [e, Bool.or_eq_true, decide_eq_true_eq] at q; exact q)
end L2
namespace L2
open PySem PySem.Spec PyProof.Rows
section
variable {prog : Program} {w : World} {A : Around} {R : Result → Shared → Prop} {s : Shared} {elt t0 i0 t1 i1 : Expr} {ifs0 ifs1 : List Expr} {scope : Scope} {pos : Pos} {it acc : Value} {env : Env}
end
section
variable {X : Cx}
end
end L2
namespace L2
open PySem PySem.Spec PyProof.Rows
section
variable {κ : Type} [DecidableEq κ]
def valV (kvs : List (κ × V)) (k : κ) : Option V := (kvs.find? fun kv => decide (kv.1 = k)).map (·.2)
/-- in its place, or at the end -/
def putK (kvs : List (κ × V)) (k : κ) (v : V) : List (κ × V) :=
  if (kvs.any fun kv => decide (kv.1 = k)) = true then kvs.map (fun kv => if kv.1 = k then (kv.1, v) else kv) else kvs ++ [(k, v)]
theorem valV_pos {p : κ × V} {r : List (κ × V)} {k : κ} (e : p.1 = k) : valV (p :: r) k = some p.2 := by simp [valV, List.find?_cons, e]
theorem valV_neg {p : κ × V} {r : List (κ × V)} {k : κ} (e : ¬ p.1 = k) : valV (p :: r) k = valV r k := by simp [valV, List.find?_cons, e]
theorem valV_any (k : κ) : ∀ kvs : List (κ × V), (kvs.any fun kv => decide (kv.1 = k)) = (valV kvs k).isSome
  | [] => rfl
  | p :: r => by
    rw [List.any_cons]
    by_cases e : p.1 = k
    · simp only [valV_pos e, decide_eq_true e, Bool.true_or, Option.isSome_some]
    · rw [valV_neg e, decide_eq_false e, Bool.false_or]; exact valV_any k r
theorem valV_map (k j : κ) (y : V) : ∀ kvs : List (κ × V), valV (kvs.map fun kv => if kv.1 = k then (kv.1, y) else kv) j = (valV kvs j).map fun x => if j = k then y else x
  | [] => rfl
  | p :: r => by
    have ih := valV_map k j y r
    rw [List.map_cons]
    by_cases h : p.1 = k
    · rw [if_pos h]
      by_cases e : p.1 = j
      · rw [valV_pos (p := (p.1, y)) e, valV_pos e, Option.map_some, if_pos (e.symm.trans h)]
      · rw [valV_neg (p := (p.1, y)) e, valV_neg e, ih]
    · rw [if_neg h]
      by_cases e : p.1 = j
      · rw [valV_pos (p := p) e, valV_pos e, Option.map_some, if_neg (fun z => h (e.trans z))]
      · rw [valV_neg (p := p) e, valV_neg e, ih]
theorem valV_snoc (k j : κ) (y : V) : ∀ kvs : List (κ × V), valV kvs k = none → valV (kvs ++ [(k, y)]) j = if j = k then some y else valV kvs j
  | [], _ => by
    by_cases e : k = j
    · rw [if_pos e.symm]; exact valV_pos (p := (k, y)) e
    · rw [if_neg (fun z => e z.symm)]; exact valV_neg (p := (k, y)) e
  | p :: r, hn => by
    rw [List.cons_append]
    have hk : ¬ p.1 = k := fun z => by rw [valV_pos z] at hn; cases hn
    rw [valV_neg hk] at hn
    have ih := valV_snoc k j y r hn
    by_cases e : p.1 = j
    · rw [valV_pos e, valV_pos e, if_neg (fun z => hk (e.trans z))]
    · rw [valV_neg e, valV_neg e, ih]
theorem valV_put (kvs : List (κ × V)) (k j : κ) (y : V) : valV (putK kvs k y) j = if j = k then some y else valV kvs j := by
  unfold putK
  by_cases a : (kvs.any fun kv => decide (kv.1 = k)) = true
  · rw [if_pos a, valV_map]
    rw [valV_any] at a
    by_cases e : j = k
    · obtain ⟨x, hx⟩ := Option.isSome_iff_exists.mp a
      rw [if_pos e, e, hx, Option.map_some, if_pos rfl]
    · rw [if_neg e]
      cases valV kvs j with
      | none => rfl
      | some x => rw [Option.map_some, if_neg e]
  · rw [if_neg a]
    refine valV_snoc k j y kvs ?_
    rw [valV_any] at a
    cases q : valV kvs k with
    | none => rfl
    | some x => rw [q] at a; exact (a rfl).elim
theorem length_putK (kvs : List (κ × V)) (k : κ) (v : V) : (putK kvs k v).length ≤ kvs.length + 1 := by
  unfold putK
  split
  · rw [List.length_map]; omega
  · rw [List.length_append, List.length_cons, List.length_nil]; omega
theorem RelO.isSome_eq {o : Option V} {u : Option Value} (r : RelO o u) : o.isSome = u.isSome := by
  cases o with
  | none => cases u with
    | none => rfl
    | some _ => exact (show False from r).elim
  | some _ => cases u with
    | none => exact (show False from r).elim
    | some _ => rfl
/-- raw tables of the same keys -/
theorem KV.val {kvs : List (κ × V)} {vs : List (κ × Value)} (r : KV kvs vs) (k : κ) : RelO (valV kvs k) (valueAt vs k) := by
  unfold KV at r
  induction r with
  | nil => exact True.intro
  | @cons p q ps qs h t ih =>
    obtain ⟨h1, h2⟩ := h
    by_cases e : p.1 = k
    · have e' : q.1 = k := h1.symm.trans e
      have b : valueAt (q :: qs) k = some q.2 := by simp [valueAt, List.find?_cons, e']
      rw [valV_pos e, b]; exact h2
    · have e' : ¬ q.1 = k := fun z => e (h1.trans z)
      have b : valueAt (q :: qs) k = valueAt qs k := by simp [valueAt, List.find?_cons, e']
      rw [valV_neg e, b]; exact ih
theorem KV.any {kvs : List (κ × V)} {vs : List (κ × Value)} (r : KV kvs vs) (k : κ) : (kvs.any fun kv => decide (kv.1 = k)) = vs.any fun kv => decide (kv.1 = k) := by
  unfold KV at r
  induction r with
  | nil => rfl
  | cons h t ih => rw [List.any_cons, List.any_cons, ih, h.1]
theorem KV.repl {kvs : List (κ × V)} {vs : List (κ × Value)} (r : KV kvs vs) (k : κ) {y : V} {u : Value} (ry : RelV y u) :
    KV (kvs.map fun kv => if kv.1 = k then (kv.1, y) else kv) (vs.map fun kv => if kv.1 = k then (kv.1, u) else kv) := by
  unfold KV at r ⊢
  induction r with
  | nil => exact .nil
  | @cons p q ps qs h t ih =>
    rw [List.map_cons, List.map_cons]
    refine .cons ?_ ih
    obtain ⟨h1, h2⟩ := h
    by_cases e : p.1 = k
    · rw [if_pos e, if_pos (h1.symm.trans e)]; exact ⟨h1, ry⟩
    · rw [if_neg e, if_neg (fun z => e (h1.trans z))]; exact ⟨h1, h2⟩
theorem KV.put {kvs : List (κ × V)} {vs : List (κ × Value)} (r : KV kvs vs) (k : κ) {y : V} {u : Value} (ry : RelV y u) : KV (putK kvs k y) (stored vs k u) := by
  unfold putK stored
  rw [r.any k]
  by_cases e : (vs.any fun kv => decide (kv.1 = k)) = true
  · rw [if_pos e, if_pos e]; exact r.repl k ry
  · rw [if_neg e, if_neg e]; exact Paired.snoc r ⟨rfl, ry⟩
theorem KV.length {kvs : List (κ × V)} {vs : List (κ × Value)} (r : KV kvs vs) : kvs.length = vs.length := Paired.length r
end
theorem kV_is {P : Program} {w : World} {k : Key} {u : Value} (r : RelV (kV k) u) : (mixKind P w).is k u = true := by
  cases k with
  | inl i => obtain ⟨t, e⟩ := (show ∃ t, u = Value.int i t from r); subst e; exact mixKind_int P w i t
  | inr x => obtain ⟨t, e⟩ := (show ∃ t, u = Value.str x t from r); subst e; exact mixKind_str P w x t
theorem items_are {P : Program} {w : World} : ∀ {ks : List Key} {us : List Value}, Vals (ks.map kV) us → ItemsAre (mixKind P w) ks us
  | [], _, r => by rw [List.map_nil] at r; cases r; exact .nil
  | k :: ks, _, r => by
    rw [List.map_cons] at r
    cases r with
    | cons h t => exact .cons (kV_is h) (items_are t)
/-- raw entries of a dict with tuple keys -/
abbrev KT (H : Hp) : List (List Key × V) → List (List Key × Addr × Value) → Prop := Paired fun p q => p.1 = q.1 ∧ H q.2.1 = some (.tup (p.1.map kV)) ∧ RelV p.2 q.2.2
theorem KT.val {H : Hp} {kvs : List (List Key × V)} {xs : List (List Key × Addr × Value)} (r : KT H kvs xs) (k : List Key) : RelO (valV kvs k) ((atKey xs k).map (·.2)) := by
  induction r with
  | nil => exact True.intro
  | @cons p q ps qs h t ih =>
    obtain ⟨h1, _, h2⟩ := h
    by_cases e : p.1 = k
    · have e' : q.1 = k := h1.symm.trans e
      have b : atKey (q :: qs) k = some q.2 := by simp [atKey, List.find?_cons, e']
      rw [valV_pos e, b]; exact h2
    · have e' : ¬ q.1 = k := fun z => e (h1.trans z)
      have b : atKey (q :: qs) k = atKey qs k := by simp [atKey, List.find?_cons, e']
      rw [valV_neg e, b]; exact ih
theorem KT.repl {H : Hp} {kvs : List (List Key × V)} {xs : List (List Key × Addr × Value)} (r : KT H kvs xs) (k : List Key) {y : V} {u : Value} (ry : RelV y u) :
    KT H (kvs.map fun kv => if kv.1 = k then (kv.1, y) else kv) (xs.map (putAt k u)) := by
  induction r with
  | nil => exact .nil
  | @cons p q ps qs h t ih =>
    rw [List.map_cons, List.map_cons]
    refine .cons ?_ ih
    obtain ⟨h1, h2, h3⟩ := h
    unfold putAt
    by_cases e : p.1 = k
    · rw [if_pos e, if_pos (h1.symm.trans e)]; exact ⟨h1, h2, ry⟩
    · rw [if_neg e, if_neg (fun z => e (h1.trans z))]; exact ⟨h1, h2, h3⟩
theorem KT.put {H : Hp} {kvs : List (List Key × V)} {xs : List (List Key × Addr × Value)} (r : KT H kvs xs) (k : List Key) {b : Addr} {y : V} {u : Value} (hb : H b = some (.tup (k.map kV))) (ry : RelV y u) :
    KT H (putK kvs k y) (storedH xs k b u) := by
  have e : (kvs.any fun kv => decide (kv.1 = k)) = (atKey xs k).isSome := by
    rw [valV_any, (r.val k).isSome_eq, Option.isSome_map]
  unfold putK storedH
  rw [e]
  by_cases q : (atKey xs k).isSome = true
  · rw [if_pos q, if_pos q]; exact r.repl k ry
  · rw [if_neg q, if_neg q]; exact Paired.snoc r ⟨rfl, hb, ry⟩
theorem KT.keeps {H H' : Hp} {kvs : List (List Key × V)} {xs : List (List Key × Addr × Value)} (r : KT H kvs xs) (ht : ∀ b ys, H b = some (.tup ys) → H' b = some (.tup ys)) : KT H' kvs xs :=
  Paired.mapP r fun _ _ z => ⟨z.1, ht _ _ z.2.1, z.2.2⟩
section
variable {P : Program} {w : World} {H : Hp} {h : Heap} {a : Addr}
theorem rd_of {u : HO} (ok : HOk P w H h) (e : Rd H a u) : ObjOk P w H h a u := e.ok ok
theorem dk_rd {kvs : List (Key × V)} (ok : HOk P w H h) (e : Rd H a (.dK kvs)) : kvs.length ≤ sizeLine ∧ (a == sysModules) = false ∧ ∃ vs, KV kvs vs ∧ h.DictOf (mixKind P w) a vs :=
  show ObjOk P w H h a (.dK kvs) from rd_of ok e
theorem dk_of {kvs : List (Key × V)} (ok : HOk P w H h) (e : H a = some (.dK kvs)) : kvs.length ≤ sizeLine ∧ (a == sysModules) = false ∧ ∃ vs, KV kvs vs ∧ h.DictOf (mixKind P w) a vs := dk_rd ok (.inl e)
/-- a tracked tuple of ints and texts is a key -/
theorem key_of {ks : List Key} (ok : HOk P w H h) (e : H a = some (.tup (ks.map kV))) : (tupleKind (mixKind P w)).is h ks a := by
  obtain ⟨_, its, r, o, h1, h2, n, h3⟩ := (show ObjOk P w H h a (.tup (ks.map kV)) from ok a _ e)
  exact ⟨o, its.toArray, n, h1, h2, h3, by simpa using items_are r⟩
theorem dt_rd {kvs : List (List Key × V)} (ok : HOk P w H h) (e : Rd H a (.dT kvs)) : kvs.length ≤ sizeLine ∧ (a == sysModules) = false ∧
    ∃ xs, KT H kvs xs ∧ h.DictOfH (tupleKind (mixKind P w)) a xs := by
  obtain ⟨z, y, xs, r, o, es, ep, h1, h2, h3, h4, h5⟩ := (show ObjOk P w H h a (.dT kvs) from rd_of ok e)
  refine ⟨z, y, xs, r, o, es, ep, h1, h2, h3, h4, fun x hx => ?_, h5⟩
  have all : ∀ {l : List (List Key × V)} {m : List (List Key × Addr × Value)}, KT H l m → ∀ x ∈ m, (tupleKind (mixKind P w)).is h x.1 x.2.1 := by
    intro l m q
    induction q with
    | nil => intro x hx; exact nomatch hx
    | @cons p q ps qs hq t ih =>
      intro x hx
      rcases List.mem_cons.mp hx with e | hx
      · subst e
        exact key_of ok (by rw [← hq.1]; exact hq.2.1)
      · exact ih x hx
  exact all r x hx
theorem dt_of {kvs : List (List Key × V)} (ok : HOk P w H h) (e : H a = some (.dT kvs)) : kvs.length ≤ sizeLine ∧ (a == sysModules) = false ∧
    ∃ xs, KT H kvs xs ∧ h.DictOfH (tupleKind (mixKind P w)) a xs := dt_rd ok (.inl e)
end
/-- what the dict at a holds at the key y -/
def DGet (H : Hp) (a : Addr) (y : V) (r : Option V) : Prop :=
  (∃ kvs k, Rd H a (.dK kvs) ∧ y = kV k ∧ r = valV kvs k) ∨ ∃ kvs k b, Rd H a (.dT kvs) ∧ y = .ref b ∧ H b = some (.tup (k.map kV)) ∧ r = valV kvs k
/-- the heap behind a[y] = v -/
def DPut (H : Hp) (a : Addr) (y v : V) (H' : Hp) : Prop :=
  (∃ kvs k, H a = some (.dK kvs) ∧ y = kV k ∧ kvs.length < sizeLine ∧ H' = upd H a (.dK (putK kvs k v))) ∨
  ∃ kvs k b, H a = some (.dT kvs) ∧ y = .ref b ∧ H b = some (.tup (k.map kV)) ∧ kvs.length < sizeLine ∧ H' = upd H a (.dT (putK kvs k v))
theorem DGet.k {H : Hp} {a : Addr} {kvs : List (Key × V)} {k : Key} (e : H a = some (.dK kvs)) : DGet H a (kV k) (valV kvs k) := .inl ⟨kvs, k, .inl e, rfl, rfl⟩
theorem DPut.k {H : Hp} {a : Addr} {kvs : List (Key × V)} {k : Key} {v : V} (e : H a = some (.dK kvs)) (hl : kvs.length < sizeLine) : DPut H a (kV k) v (upd H a (.dK (putK kvs k v))) := .inl ⟨kvs, k, e, rfl, hl, rfl⟩
section
variable {X : Cx} {pins : List (Addr × Obj)} {σ : St} {H : Hp} {s : Shared} {a : Addr} {y v : V} {u r : Value} {o : Option V} {A : Around} {E : Value → Shared → Prop}
theorem Inv.big (I : Inv X pins σ H s) : sysModules < s.heap.objs.size := by
  have h : mainGlobals < s.heap.objs.size := (I.mod.glob.keeps I.bk).lt
  exact Nat.lt_trans (by decide) h
/-- d[y], there -/
theorem d_getItem {Q : Value → Shared → Prop} (hu : A.units + 1 < cLine) (I : Inv X pins σ H s) (g : DGet H a y (some v)) (ry : RelV y u) (h : ∀ w' s', Inv X pins σ H s' → RelV v w' → Q w' s') :
    wpAny (model X.prog X.w) A (getItem (.ref a) u) Q E s := by
  rcases g with ⟨kvs, k, e, ey, l⟩ | ⟨kvs, k, b, e, ey, eb, l⟩
  · subst ey
    obtain ⟨z, hd, vs, rel, dd⟩ := dk_rd I.hok e
    obtain ⟨w', hw, rw'⟩ := RelO.some_of (v := v) (o := valueAt vs k) (by rw [l]; exact rel.val k)
    exact wpAny_getItem_of (kV_is ry) dd.mapOf hw (h w' _ (I.tok _) rw')
  · subst ey
    cases (show u = Value.ref b from ry)
    obtain ⟨z, hd, xs, rel, dd⟩ := dt_rd I.hok e
    obtain ⟨w', hw, rw'⟩ := RelO.some_of (v := v) (o := (atKey xs k).map (·.2)) (by rw [l]; exact rel.val k)
    obtain ⟨p, hp, hp2⟩ := Option.map_eq_some_iff.mp hw
    refine wpAny_getItem_heap (tupleKind_room_in1 hu) (key_of I.hok eb) dd hp ?_
    rw [hp2]
    exact h w' _ (I.tok _) rw'
theorem d_notIn {Q : Value → Shared → Prop} (hu : A.units + 1 < cLine) (I : Inv X pins σ H s) (g : DGet H a y o) (ry : RelV y u) (h : ∀ s', Inv X pins σ H s' → Q (.bool (!o.isSome)) s') :
    wpAny (model X.prog X.w) A (compareOp .NotIn u (.ref a)) Q E s := by
  rcases g with ⟨kvs, k, e, ey, l⟩ | ⟨kvs, k, b, e, ey, eb, l⟩
  · subst ey
    obtain ⟨z, hd, vs, rel, dd⟩ := dk_rd I.hok e
    refine wpAny_notIn_of (kV_is ry) hd dd.mapOf ?_
    rw [← (rel.val k).isSome_eq, ← l]
    exact h _ (I.tok _)
  · subst ey
    cases (show u = Value.ref b from ry)
    obtain ⟨z, hd, xs, rel, dd⟩ := dt_rd I.hok e
    refine wpAny_notIn_heap (tupleKind_room_in1 hu) (key_of I.hok eb) hd dd ?_
    have q := (rel.val k).isSome_eq
    rw [Option.isSome_map] at q
    rw [← q, ← l]
    exact h _ (I.tok _)
/-- a dict's object is replaced -/
theorem d_write {h' : Heap} {t' : Nat} {ob : HO} (I : Inv X pins σ H s) (mu : Mut (H a)) (hs : Heap.SameBut a s.heap h') (he : ∃ q, h'.get? a = some q) (new : ObjOk X.prog X.w (upd H a ob) h' a ob) :
    Inv X pins σ (upd H a ob) { s with heap := h', toks := t' } :=
  I.write (x := a) (e := a) mu (.inl rfl) (fun b q hb z => (hs.2 b hb).trans z) he new
theorem dk_new {P : Program} {w : World} {H' : Hp} {h' : Heap} {kvs : List (Key × V)} {vs : List (Key × Value)} (z : kvs.length ≤ sizeLine) (hd : (a == sysModules) = false) (rel : KV kvs vs) (dd : h'.DictOf (mixKind P w) a vs) :
    ObjOk P w H' h' a (.dK kvs) := ⟨z, hd, vs, rel, dd⟩
/-- d[y] = v -/
theorem d_setItem {H' : Hp} {Q : Unit → Shared → Prop} (hu : A.units + 1 < cLine) (I : Inv X pins σ H s) (g : DPut H a y v H') (ry : RelV y u) (rv : RelV v r) (h : ∀ s', Inv X pins σ H' s' → Q () s') :
    wpAny (model X.prog X.w) A (setItem (.ref a) u r) Q E s := by
  rcases g with ⟨kvs, k, e, ey, l, eH⟩ | ⟨kvs, k, b, e, ey, eb, l, eH⟩
  · subst ey eH
    obtain ⟨z, hd, vs, rel, dd⟩ := dk_of I.hok e
    have hz : vs.length ≤ sizeLine := by rw [← rel.length]; exact z
    have hl : (putK kvs k v).length ≤ sizeLine := by have := length_putK kvs k v; omega
    refine wpAny_setItem_pairs (hsz := hz) (kV_is ry) dd fun h' dd' hs => h _ ?_
    have he : ∃ q, h'.get? a = some q := let ⟨q, _, _, hq, _⟩ := dd'; ⟨q, hq⟩
    exact d_write I (by rw [e]; exact True.intro) hs he (dk_new hl hd (rel.put k rv) dd')
  · subst ey eH
    cases (show u = Value.ref b from ry)
    obtain ⟨z, hd, xs, rel, dd⟩ := dt_of I.hok e
    have hz : xs.length ≤ sizeLine := by rw [← Paired.length rel]; exact z
    have hl : (putK kvs k v).length ≤ sizeLine := by have := length_putK kvs k v; omega
    refine wpAny_setItem_heap (hsz := hz) (tupleKind_room_in1 hu) (key_of I.hok eb) dd fun h' dd' hs => h _ ?_
    obtain ⟨q, es, ep, hq, h2, h3, h4, _, h5⟩ := dd'
    refine d_write I (by rw [e]; exact True.intro) hs ⟨q, hq⟩ ⟨hl, hd, _, (rel.put k eb rv).keeps fun c ys ec => ?_, q, es, ep, hq, h2, h3, h4, h5⟩
    rw [upd_ne (ne_of ec e (fun z => nomatch z))]
    exact ec
end
section
variable {X : Cx} {pins : List (Addr × Obj)} {σ : St} {H : Hp} {s : Shared} {a : Addr} {kvs : List (Key × V)} {k : Key} {u : Value} {A : Around} {E : Value → Shared → Prop}
end
/-- the element of a subscription, not a slice -/
def NoSl (i : Expr) : Prop := ∀ ov iv, subscripted i false ov iv = operate [ov, iv] (getItem ov iv)
theorem subD_of {prog : Program} {w : World} {A : Around} {E : Value → Shared → Prop} {s : Shared} {env : Env} {value slice : Expr} {pos : Pos} {T id : String} {Q : Value → Shared → Prop}
    (hl : typeLookup (.type T) "__getitem__" = pure (some (.builtin id))) (hs : NoSl slice)
    (h : wpAny (model prog w) A (eval value env) (fun o s₁ => wpAny (model prog w) A (eval slice env) (fun i s₂ => s₂.TypeIs o T ∧ wpAny (model prog w) A (getItem o i) Q E s₂) E s₁) E s) :
    wpAny (model prog w) A (eval (.Subscript value slice pos) env) Q E s := by
  refine Subscript_ (wpAny_mono h (fun o s₁ h₁ => wpAny_mono h₁ (fun i s₂ h₂ => ?_) fun _ _ x => x) fun _ _ x => x)
  obtain ⟨hT, h₂⟩ := h₂
  unfold subscriptTail
  refine wpAny_bind ?_
  rw [getitemInPython_of_ne hT.not_modules]
  refine wpAny_bind (wpAny_specialOf hT hl ?_)
  have fin : wpAny (model prog w) A (subscripted slice false o i) (fun r s₃ => wpAny (model prog w) A (letTemporaryGo value o r >>= fun _ => pure r) Q E s₃) E s₂ := by
    rw [hs o i]
    exact wpAny_operating (wpAny_mono h₂ (fun r s₃ h₃ => wpAny_bind (wpAny_letTemporaryGo (wpAny_pure h₃))) fun _ _ x => x)
  first
    | exact wpAny_pure (wpAny_bind fin)
    | exact wpAny_bind (wpAny_pure (wpAny_bind fin))
    | exact wpAny_bind fin
theorem dict_typeIs {X : Cx} {pins : List (Addr × Obj)} {σ : St} {H : Hp} {s : Shared} {a : Addr} {y : V} {o : Option V} (I : Inv X pins σ H s) (g : DGet H a y o) : s.TypeIs (.ref a) "dict" := by
  rcases g with ⟨kvs, k, e, _, _⟩ | ⟨kvs, k, b, e, _, _, _⟩
  · obtain ⟨_, _, vs, _, dd⟩ := dk_rd I.hok e
    exact dd.typeIs
  · obtain ⟨_, _, xs, _, dd⟩ := dt_rd I.hok e
    exact dd.typeIs
/-- d[y] -/
def tDGet (td ty : TE) : TE := fun σ H Q => td σ H fun x H1 => ty σ H1 fun y H2 => ∃ a v, x = .ref a ∧ DGet H2 a y (some v) ∧ Q v H2
def tDNotIn (ty td : TE) : TE := fun σ H Q => ty σ H fun y H1 => td σ H1 fun x H2 => ∃ a o, x = .ref a ∧ DGet H2 a y o ∧ Q (.bl (!o.isSome)) H2
/-- d[y] = v -/
def sDPut (td ty tv : TE) : TS := fun D σ H => tv σ H fun v H1 => td σ H1 fun x H2 => ty σ H2 fun y H3 => ∃ a H4, x = .ref a ∧ DPut H3 a y v H4 ∧ D.nx σ H4
section
variable {X : Cx} {o i e value : Expr} {pos pos' tpos : Pos} {td ty tv : TE}
theorem pe_dget (hu : X.A.units + 1 < cLine) (ho : PE X o td) (hi : PE X i ty) (hs : NoSl i) : PE X (.Subscript o i pos) (tDGet td ty) := by
  intro pins s σ H Q I h
  refine subD_of PySem.F.slot_dict_getitem.lookup hs (thn (ho pins s σ H _ I h) fun u s1 ⟨x, H1, I1, rx, q1⟩ => thn (hi pins s1 σ H1 _ I1 q1) fun iv s2 ⟨y, H2, I2, ry, a, v, ex, g, q2⟩ => ?_)
  subst ex
  obtain rfl : u = Value.ref a := rx
  exact ⟨dict_typeIs I2 g, d_getItem hu I2 g ry fun w' s3 I3 rw' => ⟨v, H2, I3, rw', q2⟩⟩
theorem pc_dnotin (hu : X.A.units + 1 < cLine) (hi : PE X i ty) (ho : PE X o td) : PC X .NotIn i o (tDNotIn ty td) := by
  intro pins s σ H Q I h
  refine thn (hi pins s σ H _ I h) fun iv s1 ⟨y, H1, I1, ry, q1⟩ => thn (ho pins s1 σ H1 _ I1 q1) fun u s2 ⟨x, H2, I2, rx, a, ov, ex, g, q2⟩ => ?_
  subst ex
  obtain rfl : u = Value.ref a := rx
  exact d_notIn hu I2 g ry fun s3 I3 => ⟨.bl (!ov.isSome), H2, I3, rfl, q2⟩
theorem ps_dput (hu : X.A.units + 1 < cLine) (ho : PE X o td) (hi : PE X i ty) (hv : PE X value tv) (hs : swapsWith value (some (.Subscript o i pos')) pos.line X.env = pure false) :
    PS X (.Assign [.Subscript o i pos'] value pos) (sDPut td ty tv) := by
  intro pins s σ H D I h
  refine wpAny_Assign_Subscript (thn (hv pins s σ H _ I h) fun r s1 ⟨v, H1, I1, rv, q1⟩ => thn (ho pins s1 σ H1 _ I1 q1) fun u s2 ⟨x, H2, I2, rx, q2⟩ => thn (hi pins s2 σ H2 _ I2 q2) fun iv s3 ⟨y, H3, I3, ry, a, H4, ex, g, q3⟩ => ?_) hs
  subst ex
  obtain rfl : u = Value.ref a := rx
  exact d_setItem hu I3 g ry rv fun s4 I4 => ⟨σ, H4, I4, q3⟩
end
theorem dk_empty {P : Program} {w : World} {H : Hp} (h : Heap) (hb : sysModules < h.objs.size) : ObjOk P w H (h.push { cls := .type "dict", data := .dict #[] }) h.objs.size (.dK []) :=
  ⟨Nat.zero_le _, beq_eq_false_iff_ne.mpr (Ne.symm (Nat.ne_of_lt hb)), [], .nil, Heap.DictOf.new h⟩
/-- {}, to be a dict of the kind that is wanted -/
def tDNewK : TE := fun _ H Q => ∀ p, H p = none → Q (.ref p) (upd H p (.dK []))
section
variable {X : Cx} {pos : Pos}
theorem pe_dnewK : PE X (.Dict [] [] pos) tDNewK := fun pins s σ H Q I h =>
  wpAny_Dict_empty ⟨.ref s.heap.objs.size, _, I.laid (a := s.heap.objs.size) (o := .dK []) (t' := s.toks) (fun _ _ q => Heap.get?_push_of_some _ q) (Nat.le_refl _) (dk_empty s.heap I.big), rfl, h _ (I.hok.fresh (Nat.le_refl _))⟩
end
section
variable {X : Cx} {pins : List (Addr × Obj)} {σ : St} {H : Hp} {s : Shared} {a : Addr} {y d : V} {u r : Value} {o : Option V} {A : Around} {E : Value → Shared → Prop}
end
section
variable {X : Cx} {o e f : Expr} {apos cpos : Pos} {td ty tx : TE}
end
section
variable {X : Cx} {pins : List (Addr × Obj)} {σ : St} {H : Hp} {s : Shared} {a : Addr} {kvs : List (Key × V)} {A : Around} {E : Value → Shared → Prop}
end
section
variable {X : Cx} {pins : List (Addr × Obj)} {σ : St} {H : Hp} {s : Shared} {a : Addr} {y : V} {u : Value} {A : Around} {E : Value → Shared → Prop}
end
end L2
namespace L2
open PySem PySem.Spec PyProof.Rows
section
variable {prog : Program} {w : World} {A : Around} {E : Value → Shared → Prop}
end
section
variable {X : Cx}
end
end L2
namespace L2
open PySem PySem.Spec PyProof.Rows
theorem boot_reversed5 : bootBuiltins "reversed" = some (.type "reversed") := by decide +kernel
section
variable {X : Cx} {pins : List (Addr × Obj)} {σ : St} {H : Hp} {s : Shared} {h' : Heap}
/-- .. and one new object is laid -/
theorem Inv.turnedNew {t' : Nat} {ch : List Addr} {T : Addr} {ob : HO} (I : Inv X pins σ H s) (k : ∀ b o, b ∉ ch → s.heap.get? b = some o → h'.get? b = some o) (hf : ∀ b ∈ ch, FpOk X pins H b) (hT : s.heap.objs.size ≤ T)
    (new : ObjOk X.prog X.w (upd H T ob) h' T ob) : Inv X pins σ (upd H T ob) { s with heap := h', toks := t' } := by
  have hn : H T = none := I.hok.fresh hT
  have nit : ∀ b u, H b = some u → b ∉ ch := fun b u e z => by
    have q := (hf b z).1
    rw [q] at e; cases e
  refine I.step (g' := s.gens) (d' := s.drawn) (ch := ch) (fun b hb => ⟨(hf b hb).2.2.2.1, (hf b hb).2.1, (hf b hb).2.2.2.2.1, (hf b hb).2.2.2.2.2⟩) (fun b o _ _ hc e _ => k b o hc e) (fun b o _ _ hc e _ => ⟨o.slots, k b o hc e⟩)
    (fun b o _ e n => ?_) (fun b o hc e => ⟨o, k b o hc e⟩) (fun b xs e => ?_) (fun b o u e => ?_) (fun b ps e => ⟨#[], ?_⟩) (fun m hm => ?_) (fun b u e => ?_) I.bare
  · rw [upd_ne (Nat.ne_of_lt (Nat.lt_of_lt_of_le (Heap.lt_size e) hT))]; exact n
  · rw [upd_ne (ne_of_none e hn)]; exact e
  · rw [upd_ne (ne_of_none e hn)]; exact e
  · rw [upd_ne (ne_of_none e hn), e]; simp
  · obtain ⟨o, es, ep, ho, r⟩ := hm
    exact ⟨o, es, ep, k _ o (fun z => (hf _ z).2.1 rfl) ho, r⟩
  · by_cases hb : b = T
    · subst hb
      rw [upd_same] at e
      cases e
      exact new
    · rw [upd_ne hb] at e
      refine (I.hok b u e).stay (fun c v hc q => k c v ?_ q) (fun c q => by rw [upd_ne (ne_of_none q hn)]; exact q) fun c xs q => by rw [upd_ne (ne_of_none q hn)]; exact q
      rcases hc with z | z
      · rw [z]; exact nit b u e
      · exact nit c _ z
end
section
variable {X : Cx}
theorem pi_one {tg : Expr} {pins : List (Addr × Obj)} {σ : St} {H : Hp} {s : Shared} {R : It → Hp → Prop} {J : It} {tn : Nat → Heap → Prop} {tk : Nat} (I : Inv X pins σ H s) (o : Obj)
    (T : Turn X.prog X.w X.K tg J [s.heap.objs.size] s.heap.objs.size tn) (st : tn 0 (s.heap.push o)) (q : R J H) : PIE X pins σ tg R (.ref s.heap.objs.size) { s with heap := s.heap.push o, toks := tk } := by
  refine ⟨s.heap.objs.size, [s.heap.objs.size], tn, J, H, rfl, I.kept fun b ob e => Heap.get?_push_of_some _ e, T, st, fun b hb => ?_, q⟩
  have e : b = s.heap.objs.size := by simpa using hb
  subst e
  exact I.fpOk (Nat.le_refl _) (I.hok.fresh (Nat.le_refl _))
end
section
variable {X : Cx} {tg : Expr}
end
/-- the list at a (n items at the start, which the loop leaves there), from its end -/
def Itv (K : PySem.W.Frag) (a : Addr) (n : Nat) : It :=
  ⟨fun i H => i < n ∧ ∃ (xs : List V) (x : V), SqL K H a xs ∧ xs[n - 1 - i]? = some x, fun i H x H' => H' = H ∧ ∀ xs, SqL K H a xs → xs[n - 1 - i]? = some x, fun i _ => n ≤ i⟩
theorem turn_rev {P : Program} {w : World} {K : PySem.W.Frag} {tg : Expr} (a it : Addr) (n : Nat) : Turn P w K tg (Itv K a n) [it] it (fun i h => i ≤ n ∧ h.IsRevIter it a ((n : Int) - 1 - (i : Nat))) where
  mem := by simp
  obj := fun i h st b hb => by
    have e : b = it := by simpa using hb
    subst e
    obtain ⟨_, o, e, c, d⟩ := st
    exact ⟨o, e, fun v z => by rw [d] at z; cases z⟩
  keep := fun i h h' st k => ⟨st.1, st.2.at fun o e => k it (by simp) o e⟩
  item := by
    intro X hP hw hK hc i pins s σ H E I hf st hg
    subst hP hw hK
    obtain ⟨hin, xs, x, hq, hx⟩ := hg
    obtain ⟨its, rv, p, hz⟩ := I.list hq
    obtain ⟨u, hu, ru⟩ := rv.get hx
    obtain ⟨f0, f1, f2, f3, f4, f5⟩ := hf it (by simp)
    obtain ⟨_, hit⟩ := st
    have e1 : (n : Int) - 1 - ((i : Nat) : Int) = ((n - 1 - i : Nat) : Int) := by omega
    rw [e1] at hit
    refine wpAny_pyNext_rev_item hit p.isList (x := u) (by simpa using hu) fun h' st' sb => ?_
    have e2 : ((n - 1 - i : Nat) : Int) - 1 = (n : Int) - 1 - ((i + 1 : Nat) : Int) := by omega
    rw [e2] at st'
    have I1 : Inv X pins σ H { s with heap := h' } := I.turned (t' := s.toks) (fun b o hb e => (sb.2 b hb).trans e) f0 f1 f3 f4 f5
    obtain ⟨o, e, c, d⟩ := id st'
    exact ⟨u, rfl, go_of (s := { s with heap := h' }) e c d (by decide) ⟨x, H, I1, ru, ⟨rfl, fun ys hy => by rw [I.list_inj hy hq]; exact hx⟩, ⟨hin, st'⟩, fun b hb => (hf b hb).1⟩⟩
  done := by
    intro X hP hw hK hc i pins s σ H E I hf st hg
    subst hP hw hK
    obtain ⟨f0, f1, f2, f3, f4, f5⟩ := hf it (by simp)
    obtain ⟨hin, hit⟩ := st
    have hge : n ≤ i := hg
    have e1 : (n : Int) - 1 - ((i : Nat) : Int) = -1 := by omega
    rw [e1] at hit
    exact wpAny_pyNext_rev_end (I.ok.hd hc) hit fun h' eb => ⟨rfl, I.turned (t' := s.toks) (fun b o hb e => eb b o hb e) f0 f1 f3 f4 f5⟩
  self := fun A i s Q E st h => wpAny_pyIter_revIter st.2 h
def iRev (K : PySem.W.Frag) (ta : TA) : TI := fun σ H R => ta σ H fun vs H1 => ∃ (a : Addr) (xs : List V), vs = [.ref a] ∧ SqL K H1 a xs ∧ R (Itv K a xs.length) H1
section
variable {X : Cx} {tg : Expr}
theorem pi_reversed {e : Expr} {ta : TA} {p pos : Pos} (hg : Gl X "reversed") (hm : X.mg "reversed" = none) (ha : PA X [e] ta) (hs : starEach [e] X.env = [(false, eval e X.env)] := by rfl) : PI X tg (.Call (.Name "reversed" p) [e] [] pos) (iRev X.K ta) := by
  intro pins s σ H R I h
  refine Call_ (ld_blt I hg hm boot_reversed5 (PyProof.Rows.callWith_type1 (thn (ha pos pins s σ H _ I h) fun us s1 ⟨vs, H1, I1, r1, q1⟩ => ?_) hs rfl))
  obtain ⟨a, xs, e, hq, q⟩ := q1
  subst e
  cases r1 with
  | cons r rr =>
    cases rr
    cases r
    obtain ⟨its, rv, p', hz⟩ := I1.list hq
    have hl := rv.length
    have e1 : ((its.toArray.size : Nat) : Int) - 1 = (xs.length : Int) - 1 - ((0 : Nat) : Int) := by simp only [List.size_toArray]; omega
    refine call_reversed_list p'.isList (wpAny_pyIter_revIter (l := a) (i := ((its.toArray.size : Nat) : Int) - 1) ⟨_, Heap.get?_push_size _ rfl, rfl, rfl⟩ ?_)
    refine pi_one (tk := s1.toks) I1 _ (turn_rev a _ xs.length) ⟨Nat.zero_le _, ?_⟩ q
    rw [← e1]
    exact ⟨_, Heap.get?_push_size _ rfl, rfl, rfl⟩
end
section
variable {prog : Program} {w : World} {A : Around} {E : Value → Shared → Prop} {s : Shared}
end
section
variable {X : Cx} {pins : List (Addr × Obj)} {σ : St} {H : Hp} {s : Shared} {d : Addr} {o : Obj}
end
section
variable {P : Program} {w : World} {K : PySem.W.Frag} {tg : Expr} {d : Addr} {o : Obj} {es : Array DictEntry} {ep : Nat}
end
section
variable {X : Cx} {tg e : Expr} {td : TE} {apos cpos : Pos}
end
/-- the list at a as it stands at each turn, each item in a new pair -/
def Ite (K : PySem.W.Frag) (a : Addr) : It :=
  ⟨fun i H => ∃ (xs : List V) (x : V), SqL K H a xs ∧ xs[i]? = some x, fun i H v H' => ∃ T x, v = .ref T ∧ H T = none ∧ H' = upd H T (.tup [.int (i : Nat), x]) ∧ ∀ xs, SqL K H a xs → xs[i]? = some x, fun i H => ∃ xs : List V, SqL K H a xs ∧ xs.length ≤ i⟩
theorem turn_enum {P : Program} {w : World} {K : PySem.W.Frag} {elts : List Expr} {kk : Nat} {tpos : Pos} (a e it : Addr) :
    Turn P w K (.Tuple elts kk tpos) (Ite K a) [e, it] e (fun i h => (∃ old, IsEnum h e it ((i : Nat) : Int) old) ∧ h.IsListIter it a i ∧ e ≠ it) where
  mem := by simp
  obj := fun i h st b hb => by
    obtain ⟨⟨old, he⟩, ⟨o, ho, hc, hd⟩, _⟩ := st
    have e' : b = e ∨ b = it := by simpa using hb
    rcases e' with z | z
    · rw [z]; exact ⟨_, he, fun v q => nomatch q⟩
    · rw [z]; exact ⟨o, ho, fun v q => by rw [hd] at q; cases q⟩
  keep := fun i h h' st k => let ⟨⟨old, he⟩, hi, hne⟩ := st; ⟨⟨old, k e (by simp) _ he⟩, hi.at fun o q => k it (by simp) o q, hne⟩
  item := by
    intro X hP hw hK hc i pins s σ H E I hf st hg
    subst hP hw hK
    obtain ⟨⟨old, he⟩, hit, hne⟩ := st
    obtain ⟨xs, x, hq, hx⟩ := hg
    obtain ⟨its, rv, p, hz⟩ := I.list hq
    obtain ⟨u, hu, ru⟩ := rv.get hx
    have hel : e < s.heap.objs.size := Heap.lt_size he
    have hil : it < s.heap.objs.size := by obtain ⟨_, q, _⟩ := hit; exact Heap.lt_size q
    refine wpAny_pyNext_enum_item he hit p.isList (x := u) (by simpa using hu) hne fun h' ho hit' hT hsz hk => ?_
    refine ⟨_, rfl, wpAny_letOwnedTupleGo_enum (s := { s with heap := h', toks := s.toks + 1 }) ho fun h'' he' sb => ?_⟩
    have hT2 : h''.get? s.heap.objs.size = some { cls := .type "tuple", data := .seq #[.int i s.toks, u] } := (sb.2 _ (Nat.ne_of_gt hel)).trans hT
    have new : ObjOk X.prog X.w (upd H s.heap.objs.size (.tup [.int (i : Nat), x])) h'' s.heap.objs.size (.tup [.int (i : Nat), x]) :=
      ⟨by show 2 ≤ sizeLine; decide, [.int i s.toks, u], .cons ⟨_, rfl⟩ (.cons ru .nil), ⟨_, hT2, rfl, _, rfl⟩⟩
    have I1 : Inv X pins σ (upd H s.heap.objs.size (.tup [.int (i : Nat), x])) { s with heap := h'', toks := s.toks + 1 } :=
      I.turnedNew (ch := [e, it]) (fun b ob hb q => (sb.2 b (fun z => hb (by simp [z]))).trans (hk b ob (fun z => hb (by simp [z])) (fun z => hb (by simp [z])) q)) hf (Nat.le_refl _) new
    refine ⟨.ref s.heap.objs.size, _, I1, rfl, ⟨_, x, rfl, I.hok.fresh (Nat.le_refl _), rfl, fun ys hy => by rw [I.list_inj hy hq]; exact hx⟩, ⟨⟨u, ?_⟩, hit'.at fun o q => (sb.2 it (Ne.symm hne)).trans q, hne⟩, fun b hb => ?_⟩
    · have e1 : ((i + 1 : Nat) : Int) = (i : Int) + 1 := by omega
      rw [e1]; exact he'
    · have hb' : b < s.heap.objs.size := by
        have e' : b = e ∨ b = it := by simpa using hb
        rcases e' with z | z
        · rw [z]; exact hel
        · rw [z]; exact hil
      rw [upd_ne (Nat.ne_of_lt hb')]
      exact (hf b hb).1
  done := by
    intro X hP hw hK hc i pins s σ H E I hf st hg
    subst hP hw hK
    obtain ⟨⟨old, he⟩, hit, hne⟩ := st
    obtain ⟨xs, hq, hx⟩ := hg
    obtain ⟨its, rv, p, hz⟩ := I.list hq
    obtain ⟨f0, f1, f2, f3, f4, f5⟩ := hf it (by simp)
    have hl := rv.length
    exact wpAny_pyNext_enum_end (I.ok.hd hc) he hit p.isList (by simp; omega) fun h' eb => ⟨rfl, I.turned (t' := s.toks) (fun b o hb q => eb b o hb q) f0 f1 f3 f4 f5⟩
  self := fun A i s Q E st h => let ⟨⟨_, he⟩, _⟩ := st; wpAny_pyIter_enum he h
def iEnum (K : PySem.W.Frag) (ta : TA) : TI := fun σ H R => ta σ H fun vs H1 => ∃ a xs, vs = [.ref a] ∧ SqL K H1 a xs ∧ R (Ite K a) H1
theorem pi_enum {X : Cx} {e : Expr} {ta : TA} {p pos tpos : Pos} {elts : List Expr} {kk : Nat} (hg : Gl X "enumerate") (hm : X.mg "enumerate" = none) (ha : PA X [e] ta) (hs : starEach [e] X.env = [(false, eval e X.env)] := by rfl) :
    PI X (.Tuple elts kk tpos) (.Call (.Name "enumerate" p) [e] [] pos) (iEnum X.K ta) := by
  intro pins s σ H R I h
  refine Call_ (ld_blt I hg hm boot_enumerate (PyProof.Rows.callWith_type1 (thn (ha pos pins s σ H _ I h) fun us s1 ⟨vs, H1, I1, r1, q1⟩ => ?_) hs rfl))
  obtain ⟨a, xs, ex, hq, q⟩ := q1
  subst ex
  cases r1 with
  | cons r rr =>
    cases rr
    cases r
    obtain ⟨its, rv, p', hz⟩ := I1.list hq
    refine call_enumerate_list p'.isList fun h' he hit hsz hk => wpAny_pyIter_enum he ?_
    have I2 : Inv X pins σ H1 { s1 with heap := h' } := I1.kept (t' := s1.toks) hk
    refine ⟨s1.heap.objs.size + 1, [s1.heap.objs.size + 1, s1.heap.objs.size], _, _, H1, rfl, I2, turn_enum a (s1.heap.objs.size + 1) s1.heap.objs.size, ⟨⟨.none, he⟩, hit, Nat.succ_ne_self _⟩, fun b hb => ?_, q⟩
    have e' : b = s1.heap.objs.size + 1 ∨ b = s1.heap.objs.size := by simpa using hb
    have hle : s1.heap.objs.size ≤ b := by
      rcases e' with z | z
      · rw [z]; exact Nat.le_add_right _ _
      · rw [z]; exact Nat.le_refl _
    exact I1.fpOk hle (I1.hok.fresh hle)
end L2
section 
namespace Bits
open PySem PyProof.Rows
theorem bitOr_pp {x y : Int} (hx : 0 ≤ x) (hy : 0 ≤ y) : Builtin.bitOr x y = ((x.toNat ||| y.toNat : Nat) : Int) := by
  have e := nat_or_add_and x.toNat y.toNat
  rw [bitOr_and, bitAnd_pp hx hy]
  omega
end Bits
end 
section 
namespace TL
open PySem PySem.Builtin PySem.Builtin.Str PySem.StrLaws
end TL
end 
namespace L2
open PySem PySem.Spec PyProof.Rows
section
variable {X : Cx} {pins : List (Addr × Obj)} {σ : St} {H : Hp} {s : Shared} {Q : VK}
end
section
variable {X : Cx}
end
section
variable {X : Cx} {o e : Expr} {to te : TE}
end
end L2
namespace L2
open PySem PySem.Spec PyProof.Rows
section
variable {X : Cx}
end
end L2
namespace Att
open PySem PySem.W PySem.Calls PyProof.Rows
theorem ints_of_wellAll {P : Params} {h : Heap} : ∀ (ns : List Int) (vs : List Value), WellAll P h vs (ns.map WData.int) → IntsAre vs ns := by
  intro ns
  induction ns with
  | nil =>
    intro vs w
    rw [List.map_nil] at w
    cases w
    exact .nil
  | cons n ns ih =>
    intro vs w
    rw [List.map_cons] at w
    cases w with
    | cons a b =>
      cases a
      exact .cons _ _ (ih _ b)
section
variable {prog : Program} {w : World} {A : Around} {E : Value → Shared → Prop} {s : Shared} {K : Frag}
end
end Att
namespace L2
open PySem PySem.Spec PyProof.Rows
theorem vals_ints : ∀ {vs : List Value} {ns : List Int}, IntsAre vs ns → Vals (ns.map V.int) vs
  | _, _, .nil => .nil
  | _, _, .cons n t h => .cons ⟨t, rfl⟩ (vals_ints h)
/-- nothing is tracked but the script, known to the object (or it is an object of the module) -/
def Only (H : Hp) : Prop := ∀ b, H b = none ∨ ∃ o xs, H b = some (.frz o (.lst xs))
end L2
namespace L2
open PySem PySem.Spec PyProof.Rows
end L2
/- THE LAST THEOREM (shape; LID, My.* are yours):
   My.Adr: a structure of the addresses that your layer names (classes, functions); My.Txt K t: a structure (Prop) of the equations over K;
   My.txt_mk : {K} {implicit addresses ..} (e1 : nsIn K mainGlobals "law" = some (some (.ref f))) (e2 : K.lookup f = some ⟨oc, od, .func (fnOf "law" "law" params body scope dV kV doc pm an cdv ct), sl⟩) (e3 : codeIn K cdv "law" = true) .. : ∃ t, My.Txt K t
set_option maxRecDepth 100000 in
set_option maxHeartbeats 0 in
theorem PySem.Challenge.cw_LID_holds : PySem.Challenge.rw_LID.Holds := by
  w_on; o_law; k_head; (case hw => w_witness2)
  k_fill
  refine L2.walk_of (l := PySem.Challenge.rw_LID) (n := 63) (k := 40) (x := "script") (CX := fun w => ..) (sp := fun _ => My.sp_law) rfl (by decide) rfl ⟨rfl, by decide, by decide⟩ (fun w h Y => PySem.W.kIn_of Y) ?F ?S ?C
  case F =>
    intro w mg fa h KX G hmg
    have T : ∃ t, My.Txt (L2.KOf KX) t := by
      dsimp only [L2.KOf]                          -- K must stand as «<heap const> w.params» for k_is
      refine' My.txt_mk ?e1 ?e2 ?e3 ..
      (case e1 => PySem.W.k_is)                    -- in the order: a name -> its address -> its object -> its parts
      (case e2 => PySem.W.k_is)
      ..
    obtain ⟨t, T⟩ := T
    have e0 := hmg.symm.trans (PySem.W.mg_of KX G T.law)
    cases e0                                       -- fa is the law's own address
    exact ⟨_, fun s u => .of_eq rfl, fun base kb nb => My.law_fn T kb nb⟩     -- if «.of_eq rfl» comes too early: refine' ⟨_, ?b, fun base kb nb => My.law_fn T kb nb⟩; exact fun s u => .of_eq rfl
  case S => exact fun w H a ns hl hO hS => ..
  case C => exact ..
(the tactic k_is has no namespace: write k_is) -/
namespace L2
open PySem PySem.Spec PyProof.Rows
/-- the j-th statement of a class's body -/
def inClass (s : Stmt) (j : Nat) : Stmt := match s with
  | .ClassDef _ _ _ body _ _ _ _ _ _ _ => body.getD j (.Pass ⟨0, 0, 0, 0⟩)
  | _ => .Pass ⟨0, 0, 0, 0⟩
def defArgs (s : Stmt) : Arguments := match s with
  | .FunctionDef _ a _ _ _ _ _ _ _ _ => a
  | _ => { posonlyargs := [], args := [], vararg := none, kwonlyargs := [], kw_defaults := [], kwarg := none, defaults := [] }
def defBody (s : Stmt) : List Stmt := match s with
  | .FunctionDef _ _ b _ _ _ _ _ _ _ => b
  | _ => []
def defScope (s : Stmt) : Scope := match s with
  | .FunctionDef _ _ _ _ _ _ sc _ _ _ => sc
  | _ => { kind := .function, names := [], isGenerator := false, isCoroutine := false }
abbrev CX0 : CXT := fun _ _ _ _ _ _ => False
abbrev E0 : XK := fun _ _ _ => False
theorem pass0 {X : Cx} : Passes CX0 X E0 := fun _ _ _ _ _ _ _ h => h.elim
structure Fun (K : PySem.W.Frag) (x qual : Str) (st : Stmt) (f : Addr) (fd : FuncData) : Prop where
  ex : ∃ (oc : Value) (od : Option Addr) (kV doc pm : Value) (an : Option Addr) (cdv ct : Value) (osl : Array (Option Value)),
    fd = PySem.W.fnOf x qual (defArgs st) (defBody st) (defScope st) .none kV doc pm an cdv ct ∧ K.lookup f = some ⟨oc, od, .func fd, osl⟩ ∧ PySem.W.codeIn K cdv qual = true
  kp : PySem.W.keepIn K (.ref f) = true
section
variable {P : Program} {w : World} {K : PySem.W.Frag} {mg : Str → Option Value} {base : Heap}
/-- THE RULE for a def: its body as a term of rules, and the reading of that term -/
theorem Fun.ok {x qual : Str} {st : Stmt} {f : Addr} {fd : FuncData} {N ps : List Str} {k : Nat} {sp : Sp} (F : Fun K x qual st f fd) (S : FnScope N ps (defScope st)) (len : ∀ vs H Q E, sp vs H Q E → vs.length = ps.length)
    (hbody : ∀ (cdv : Value) (A : Around) (outer : List Env) (s : Shared) (H : Hp) (vs : List V) (Q : VK) (E : XK), Room k (A.deeper (envOfC qual (defScope st) s.heap.objs.size f cdv)) → sp vs H Q E →
      ∃ t, PSs (cxOf CX0 P w K mg base N qual (defScope st) f cdv A outer s H E).nox (defBody st) t ∧ t { nx := fun _ H' => Q .non H', rt := Q } (start N vs) H) : FnOk P w K mg base CX0 (k + 1) f fd ps sp := by
  obtain ⟨oc, od, kV, doc, pm, an, cdv, ct, osl, rfl, lk, hcd⟩ := F.ex
  refine fn_of lk hcd S len fun A outer s H vs Q E hr hsp => ?_
  obtain ⟨t, h, q⟩ := hbody cdv A outer s H vs Q E hr hsp
  exact ⟨t, h.nox, q⟩
/-- how its arguments bind (no defaults): h is «fun _ _ _ _ _ _ us hl => match us, hl with | [_, _], _ => rfl», one _ a parameter -/
theorem Fun.binds {x qual : Str} {st : Stmt} {f : Addr} {fd : FuncData} {ps : List Str} (F : Fun K x qual st f fd)
    (h : ∀ (kV doc pm : Value) (an : Option Addr) (cdv ct : Value) (us : List Value), us.length = ps.length → bindArgs (PySem.W.fnOf x qual (defArgs st) (defBody st) (defScope st) .none kV doc pm an cdv ct) ⟨us, []⟩ = pure (ps.zip us)) : Binds K fd ps [] := by
  obtain ⟨oc, od, kV, doc, pm, an, cdv, ct, osl, rfl, lk, hcd⟩ := F.ex
  exact .all (h kV doc pm an cdv ct)
theorem fun_mk {x qual : Str} {st : Stmt} {f : Addr} {oc : Value} {od an : Option Addr} {osl : Array (Option Value)} {kV doc pm cdv ct : Value} (l : K.lookup f = some ⟨oc, od, .func (PySem.W.fnOf x qual (defArgs st) (defBody st) (defScope st) .none kV doc pm an cdv ct), osl⟩)
    (c : PySem.W.codeIn K cdv qual = true) (k : PySem.W.keepIn K (.ref f) = true) : Fun K x qual st f (PySem.W.fnOf x qual (defArgs st) (defBody st) (defScope st) .none kV doc pm an cdv ct) := ⟨⟨oc, od, kV, doc, pm, an, cdv, ct, osl, rfl, l, c⟩, k⟩
end
theorem hu_of {A : Around} {k : Nat} (hr : Room k A) : A.units + 1 < cLine := Nat.lt_of_le_of_lt (Nat.add_le_add_left (by decide : 1 ≤ 64) _) hr.units
theorem small1000 {n : Nat} (h : n ≤ 1000) : n < sizeLine := Nat.lt_of_le_of_lt h (by decide)
section
variable {X : Cx}
theorem pv (i : Nat) {x : Str} {pos : Pos} (hN : X.N[i]? = some x := by rfl) (hv : Vis X.env.scope x := by first | exact Or.inl rfl | exact Or.inr (Or.inl rfl) | exact Or.inr (Or.inr rfl)) (hd : (x == ("__debug__" : Str)) = false := by decide)
    (hcd : (x == ("__classdict__" : Str)) = false := by decide) : PE X (.Name x pos) (tVar i) := pe_var hN hv hd hcd
end
theorem iteF {A B : Prop} (h : B) : if false = true then A else B := by
  rw [if_neg Bool.false_ne_true]
  exact h
theorem iteT {A B : Prop} (h : A) : if true = true then A else B := by
  rw [if_pos rfl]
  exact h
/-- all that was tracked is as it was -/
def Same (H H' : Hp) : Prop := ∀ b o, H b = some o → H' b = some o
theorem Same.refl (H : Hp) : Same H H := fun _ _ h => h
theorem Same.trans {H H1 H2 : Hp} (a : Same H H1) (b : Same H1 H2) : Same H H2 := fun c o h => b c o (a c o h)
theorem Same.free {H H' : Hp} (e : Same H H') {l : Addr} (h : H' l = Option.none) : H l = Option.none := by
  cases q : H l with
  | none => rfl
  | some o =>
    rw [e l o q] at h
    cases h
theorem Same.seq {K : PySem.W.Frag} {H H' : Hp} {a : Addr} {xs : List V} (e : Same H H') (h : SqL K H a xs) : SqL K H' a xs := by
  rcases h with (h | ⟨o, h⟩) | h
  · exact .inl (.inl (e _ _ h))
  · exact .inl (.inr ⟨o, e _ _ h⟩)
  · exact .inr h
section
variable {κ : Type} [DecidableEq κ]
end
theorem at_of {xs : List V} {z : Int} {j : Nat} {v : V} (e : z = (j : Int)) (h : xs[j]? = some v) : atI xs z = some v := by
  rw [e]
  exact atI_nat h
/-- a new instance and its __init__ leave all that was tracked as it was -/
theorem Same.made {H H1 : Hp} {x dx C : Addr} (nx : H x = Option.none) (nd : H dx = Option.none) (k : ∀ b o, (upd (upd H dx (.own x)) x (.ins C dx [])) b = some o → b ≠ x → H1 b = some o) : Same H H1 := fun b o e =>
  k b o (by rw [upd_ne (ne_of_none e nx), upd_ne (ne_of_none e nd)]; exact e) (ne_of_none e nx)
end L2

set_option linter.all false
set_option maxRecDepth 100000
set_option Elab.async false
namespace L2
open PySem PySem.Spec PyProof.Rows
theorem spec_call {P : Program} {w : World} {K : PySem.W.Frag} {mg mb : Str → Option Value} {CX : CXT} {k : Nat} {fa a : Addr} {fd : FuncData} {x : Str} {sp : Sp} {s₁ : Shared} {vs : List Value} {ns : List Int}
    (KX : K.In s₁.heap) (hns : s₁.heap.Ns mainGlobals mg) (hb : s₁.heap.Ns builtinsNs mb) (hbb : ∀ x : Str, x ≠ "__name__" → mb x = bootBuiltins x) (hlim : s₁.heap.NoLimit) (hg : s₁.gens = #[])
    (ha : s₁.heap.get? a = some { cls := .type "list", data := .seq vs.toArray }) (hi : IntsAre vs ns) (hl : ns.length ≤ sizeLine) (hr : Room k callerA)
    (F : ∀ base : Heap, K.In base → base.Ns mainGlobals mg → FnOk P w K mg base CX k fa fd [x] sp) (hbind : ∀ (s : Shared) (u : Value), BindsTo s fd ⟨[u], []⟩ [(x, u)])
    {Qd : VK} (hsp : ∀ H : Hp, Only H → SqL K H a (ns.map V.int) → sp [.ref a] H Qd fun _ _ _ => False)
    (hCX : ∀ H e s', CX [] H s₁ (fun _ _ _ => False) e s' → False) :
    codeAny (model P w) callerA (.call (.ref fa) ⟨[.ref a], []⟩) (fun r s' => (∃ u v H', r = .ok (.ret u) ∧ RelV v u ∧ HOk P w H' s'.heap ∧ Qd v H') ∧ OldK s₁.heap s'.heap ∧ s'.os = s₁.os ∧ AllBare s'.gens) s₁ := by
  have rv := vals_ints hi
  have lenV := hi.length
  -- from an abstract heap in which nothing but the script may be tracked
  have core : ∀ H : Hp, Only H → SqL K H a (ns.map V.int) → HOk P w H s₁.heap → (∀ b, H b ≠ none → b = a) → (H a ≠ none → K.lookup a = none) →
      codeAny (model P w) callerA (.call (.ref fa) ⟨[.ref a], []⟩) (fun r s' => (∃ u v H', r = .ok (.ret u) ∧ RelV v u ∧ HOk P w H' s'.heap ∧ Qd v H') ∧ OldK s₁.heap s'.heap ∧ s'.os = s₁.os ∧ AllBare s'.gens) s₁ := by
    intro H hO hS hok hA hK
    have base_of : ∀ {b : Addr} {o : Obj}, s₁.heap.get? b = some o → H b = none → (hidT s₁.heap H).get? b = some o := fun e n => hidT_get e n
    have noA : ∀ {b : Addr} {o : Obj} {es : Array DictEntry} {ep : Nat}, s₁.heap.get? b = some o → o.data = .dict es ep → H b = none := fun {b o es ep} e d => by
      cases q : H b with
      | none => rfl
      | some u =>
        have e' : b = a := hA b (by rw [q]; simp)
        subst e'
        rw [ha] at e; cases e
        have d' : Data.seq vs.toArray _ = Data.dict es ep := d
        cases d'
    have nsK : ∀ {b : Addr} {m : Str → Option Value}, s₁.heap.Ns b m → (hidT s₁.heap H).Ns b m := fun {b m} ⟨o, es, ep, e, d, r⟩ => ⟨o, es, ep, base_of e (noA e d), d, r⟩
    have hKb : K.In (hidT s₁.heap H) := fun b o e => base_of (KX b o e) (by
      cases q : H b with
      | none => rfl
      | some u =>
        have e' : b = a := hA b (by rw [q]; simp)
        subst e'
        rw [hK (by rw [q]; simp)] at e; cases e)
    have hM : Mod K mg (hidT s₁.heap H) := ⟨hKb, nsK hns, ⟨mb, nsK hb, hbb⟩, let ⟨mc, h1, h2⟩ := hlim; ⟨mc, nsK h1, h2⟩⟩
    have e0 : Env0 P w K mg (hidT s₁.heap H) callerA [] s₁ H := ⟨rfl, hM, fun b o e => of_hidT e, Nat.le_of_eq (hidT_size _ _), trivial, fun b hb => absurd (show b ∈ ([] : List Addr) from hb) (by simp), hok, .of_eq hg⟩
    refine codeAny_mono ((F _ hKb (nsK hns)).run callerA [] s₁ H ⟨[.ref a], []⟩ [.ref a] [.ref a] _ _ hr e0 (hbind s₁ (.ref a)) (.cons rfl .nil) (hsp H hO hS)) fun r s' h => ?_
    cases r with
    | error e => exact (hCX H e s' h).elim
    | ok fl =>
      cases fl with
      | next => exact False.elim h
      | brk => exact False.elim h
      | cont => exact False.elim h
      | ret u =>
        obtain ⟨v, H', os, bare, un, hok', r', q⟩ := h
        refine ⟨⟨u, v, H', rfl, r', hok', q⟩, OldK.of_keep fun b o e => ?_, os, bare⟩
        cases q : H b with
        | none => exact un.keep b o e q (by intro z; exact absurd (show b ∈ ([] : List Addr) from z) (by simp)) (by simp)
        | some u =>
          rcases hO b with z | ⟨ob, xs, z⟩
          · rw [q] at z; cases z
          · have z2 := un.frzs b ob _ z
            obtain ⟨e1, _⟩ := hok b _ z
            obtain ⟨e2, _⟩ := hok' b _ z2
            rw [e] at e1; cases e1
            exact e2
  cases hk : K.lookup a with
  | some o =>
    -- the script is one of the module's own objects
    have e := KX a o hk
    rw [ha] at e
    cases e
    refine core (fun _ => none) (fun _ => .inl rfl) (.inr ⟨_, vs.toArray, _, hk, rfl, rfl, rfl, by rw [List.size_toArray, lenV]; exact hl, by simpa using rv⟩) (fun b u z => by have z' : (none : Option HO) = some u := z; cases z') (fun b z => absurd rfl z) fun z => absurd rfl z
  | none =>
    refine core (fun b => if b = a then some (.frz { cls := .type "list", data := .seq vs.toArray } (.lst (ns.map V.int))) else none) (fun b => ?_) (.inl (.inr ⟨{ cls := .type "list", data := .seq vs.toArray }, if_pos rfl⟩)) (fun b u z => ?_) (fun b z => ?_) fun _ => hk
    · by_cases hb : b = a
      · exact .inr ⟨_, _, if_pos hb⟩
      · exact .inl (if_neg hb)
    · by_cases hb : b = a
      · have z' := (if_pos hb).symm.trans z
        cases z'
        subst hb
        exact ⟨ha, by rw [List.length_map]; exact hl, vs, _, rv, ha⟩
      · have z' := (if_neg hb).symm.trans z
        cases z'
    · by_cases hb : b = a
      · exact hb
      · exact absurd (if_neg hb) z
theorem reads_ints {cl : Str → Option Addr} {h : Heap} : ∀ {us : List Value} {ys : List Int}, IntsAre us ys → ∃ as, PySem.W.ReadsAllW [] cl h us (ys.map PySem.W.WData.int) as
  | _, _, .nil => ⟨[], .nil⟩
  | _, _, .cons n t hr => by
    obtain ⟨as, r⟩ := reads_ints (cl := cl) (h := h) hr
    exact ⟨[] ++ as, .cons (.int n t) r⟩
/-- the goal that k_headS leaves (case hc), from the promise of the def -/
theorem walk_spec {r : PySem.W.OpenSpec} {k : Nat} {q : Program} {loose : List Str} {XP : (Str → Option Value) → Heap → Prop} {YP : World → Heap → Prop} {d : DefRec} {K : Params → PySem.W.Frag} {CX : CXT} {sp : PySem.W.Frag → Sp} {x : Str} {G : List Int → Prop} {f : List Int → List Int}
    (hdf : d.params.defaults = []) (hr : Room k callerA)
    (hreq : ∀ args, r.pre args = true → ∃ ns : List Int, args = [PySem.W.WData.list (ns.map PySem.W.WData.int)] ∧ ns.length ≤ sizeLine ∧ G ns ∧ r.post args (.list ((f ns).map PySem.W.WData.int)) = true)
    (hY : ∀ (w : World) (h : Heap), YP w h → (K w.params).In h)
    (F : ∀ (w : World) (mg : Str → Option Value) (fa : Addr) (h : Heap), (K w.params).In h → h.Ns mainGlobals mg → mg d.name = some (.ref fa) →
      ∃ fd : FuncData, (∀ (s : Shared) (u : Value), BindsTo s fd ⟨[u], []⟩ [(x, u)]) ∧
        ∀ base : Heap, (K w.params).In base → base.Ns mainGlobals mg → FnOk r.prog w (K w.params) mg base CX k fa fd [x] (sp (K w.params)))
    (hsp : ∀ (K : PySem.W.Frag) (H : Hp) (a : Addr) (ns : List Int), G ns → Only H → SqL K H a (ns.map V.int) → sp K [.ref a] H (fun v H' => ∃ b, v = .ref b ∧ H' b = some (.lst ((f ns).map V.int))) fun _ _ _ => False)
    (hCX : ∀ (H : Hp) (s : Shared) (e : Value) (s' : Shared), CX [] H s (fun _ _ _ => False) e s' → False) :
    PySem.W.WalkOS q loose XP YP r d [] (fun f vs => PySem.call f vs) := by
  intro w s₀ s₁ mg mb G0 Y fa o pm cd doc dV kV ho hd hcd hD hmg hg args vals as hpre hlay hrd hwl hlo
  obtain rfl : dV = .none := PySem.W.Dflts.none hD hdf
  obtain rfl : kV = .none := PySem.W.Dflts.noKw hD
  obtain ⟨ns, rfl, hl, hG, hpost⟩ := hreq args hpre
  have KX := hY w _ Y
  obtain ⟨fd, hb, hF⟩ := F w mg fa _ KX G0.T.g hmg
  cases hwl with
  | cons w1 w2 =>
    cases w2
    cases w1 with
    | list hobj hall =>
      rename_i a vs
      have hi := Att.ints_of_wellAll ns _ hall
      refine PySem.W.enter_call (codeAny_mono (spec_call KX G0.T.g G0.T.b G0.T.builtins G0.T.nolimit hg hobj hi hl hr hF hb (fun H hO hS => hsp (K w.params) H a ns hG hO hS) fun H e s' => hCX H s₁ e s') fun rr s' hq => ?_)
      obtain ⟨⟨u, v, H', rfl, rv, hok, b, rfl, hb'⟩, h2, h3, h4⟩ := hq
      obtain rfl : u = Value.ref b := rv
      obtain ⟨hz, its, n, hv, hget⟩ := hok b _ hb'
      obtain ⟨as', hreads⟩ := reads_ints (cl := classAt s₀.heap) (h := s'.heap) (Vals.ints hv)
      refine ⟨.inl ⟨.ref b, .list ((f ns).map PySem.W.WData.int), b :: as', rfl, fun _ => rfl, ?_, hpost, fun z => absurd z Bool.false_ne_true⟩, h2, h3, h4⟩
      refine .list hget rfl rfl ?_
      show PySem.W.ReadsAllW [] (classAt s₀.heap) s'.heap its.toArray.toList _ _
      simpa using hreads
end L2

set_option linter.all false
set_option maxRecDepth 100000
set_option Elab.async false
namespace L2
open PySem PySem.Spec PyProof.Rows
section
variable {X : Cx}
theorem truth_ints {prog : Program} {w : World} {A : Around} {its : List Value} {ns : List Int} (hi : IntsAre its ns) :
    TruthOf prog w A (fun i v => its.toArray[i]? = some v) (fun i => ns.getD i 0 != 0) := fun i v s Q E hv hq => by
  obtain ⟨t, rfl⟩ := IntsAre.int_at hi i v (by simpa using hv)
  exact truthy_int hq
theorem any_rangeI : ∀ ns : List Int, (List.range ns.length).any (fun i => ns.getD i 0 != 0) = ns.any (· != 0)
  | [] => rfl
  | b :: bs => by
    rw [List.length_cons, List.range_succ_eq_map, List.any_cons, List.any_map, List.any_cons, ← any_rangeI bs]
    all_goals rfl
def rAnyI (K : PySem.W.Frag) : List V → Hp → VK → Prop := fun vs H Q => ∃ (a : Addr) (ns : List Int), vs = [V.ref a] ∧ SqL K H a (ns.map V.int) ∧ Q (.bl (ns.any (· != 0))) H
theorem cr_anyI (hc : X.calm = true) : CallR X (.builtin "any") (rAnyI X.K) := by
  intro pins s σ H vs us Q I r h
  obtain ⟨a, ns, rfl, hs, q⟩ := h
  obtain ⟨its, rv, hl, _⟩ := I.list hs
  rw [Vals.ref1 r]
  have hi := rv.ints
  refine call_any_walk (iter_any hl.isList fun s₂ e2 st hne => ?_)
  subst e2
  refine ⟨_, _, _, _, _, _, _, rfl, Walks.list (A := X.A.in1) (I.ok.hd hc) _ a hne its.toArray, st, truth_ints hi, fun h' tk hk => ?_⟩
  refine ⟨.bl _, H, I.kept fun b o eo => hk b o (fun hmem => ?_) (Heap.get?_push_of_some _ eo), ?_, q⟩
  · rcases List.mem_cons.mp hmem with e1 | hmem
    · exact absurd (e1 ▸ Heap.lt_size eo) (Nat.lt_irrefl _)
    · cases hmem
  · show Value.bool _ = Value.bool _
    rw [← any_rangeI, List.size_toArray, hi.length]
def tCallV (X : Cx) (k : Nat) (tf : TE) (t : TA) : TE := fun σ H Q => tf σ H fun x H1 => ∃ f fd ps sp, x = .ref f ∧ FnOk X.prog X.w X.K X.mg X.base CX0 k f fd ps sp ∧ PySem.W.keepIn X.K (.ref f) = true ∧ Binds X.K fd ps [] ∧
  t σ H1 fun vs H2 => sp vs H2 Q E0
theorem pe_callV {k : Nat} {fe e : Expr} {es : List Expr} {tf : TE} {t : TA} {pos : Pos} (hf : PE X fe tf) (hr : Room k X.A) (ha : PA X (e :: es) t)
    (he : starEach (e :: es) X.env = (false, eval e X.env) :: starEach es X.env := by rfl) (hpl : (backTo pos (starEach es X.env)).any (·.1) = false := by rfl)
    (hev : eval (.Call fe (e :: es) [] pos) X.env = (do callWith pos (← eval fe X.env) [] (backTo pos (starEach (e :: es) X.env)) (backToKw pos (keywordEach [] X.env))) := by rfl) :
    PE X (.Call fe (e :: es) [] pos) (tCallV X k tf t) := by
  intro pins s σ H Q I h
  refine Call_ (thn (hf pins s σ H _ I h) fun u s1 ⟨x, H1, I1, rx, f, fd, ps, sp, ex, F, hk, hb, q⟩ => ?_) hev
  subst ex
  obtain rfl : u = Value.ref f := rx
  refine PySem.W.callWith_K (h₀ := X.base) I.ok.mod.kin hk (thn (ha pos pins s1 σ H1 _ I1 q) fun us s2 ⟨vs, H2, I2, r, q2⟩ => ⟨I2.kIn, ?_⟩) he hpl
  exact run_fn (dvs := []) (ds := []) F hr hb .nil pass0 I2 r (by rw [List.append_nil]; exact q2)
def setO (w : World) (p : Addr) (ns : List Int) : HO := .ext fun h => ST.SetAt h p ns ns.length (!ST.byT w)
theorem setO_ok {P : Program} {w : World} {H : Hp} {h : Heap} {p : Addr} {ns : List Int} (S : ST.SetAt h p ns ns.length (!ST.byT w)) : ObjOk P w H h p (setO w p ns) := by
  refine ⟨S, ?_, fun h1 h2 S1 k => S1.moved k⟩
  obtain ⟨o, _, _, _, ho, _⟩ := S
  exact ⟨o, ho⟩
def rSet (X : Cx) : List V → Hp → VK → Prop := fun vs H Q => ∃ (a : Addr) (ns : List Int), vs = [.ref a] ∧ SqL X.K H a (ns.map V.int) ∧ ns.length ≤ 65536 ∧ (∀ v ∈ ns, 0 ≤ v ∧ v < 65536) ∧ ∀ p, H p = none → Q (.ref p) (upd H p (setO X.w p ns))
theorem cr_set (hc : X.calm = true) : CallR X (.type "set") (rSet X) := by
  intro pins s σ H vs us Q I r h
  obtain ⟨a, ns, rfl, hs, hz, hsm, q⟩ := h
  obtain ⟨its, rv, hl, _⟩ := I.list hs
  rw [Vals.ref1 r]
  have hi := rv.ints
  have hlen : its.length = ns.length := hi.length
  refine ST.call_set (I.ok.hd hc) hl.isList (by simpa using hi) (by rw [List.size_toArray, hlen]; exact hz) hsm fun h' tk S kp => ?_
  have S : ST.SetAt h' s.heap.objs.size ns its.length (!ST.byT X.w) := S
  rw [hlen] at S
  exact ⟨.ref s.heap.objs.size, _, I.laid (t' := tk) (fun b o e => kp b o (Heap.lt_size e) e) (Nat.le_refl _) (setO_ok S), rfl, q _ (I.hok.fresh (Nat.le_refl _))⟩
def rSortedSet (X : Cx) : List V → Hp → VK → Prop := fun vs H Q => ∃ (p : Addr) (ns : List Int), vs = [.ref p] ∧ H p = some (setO X.w p ns) ∧ ns.length ≤ 65536 ∧
  ∀ (l : Addr) (ns' : List Int), H l = none → (∀ v, v ∈ ns' ↔ v ∈ ns) → ns'.Pairwise (· ≤ ·) → ns'.length ≤ ns.length → Q (.ref l) (upd H l (.lst (ns'.map V.int)))
theorem cr_sortedSet (hc : X.calm = true) : CallR X (.builtin "sorted") (rSortedSet X) := by
  intro pins s σ H vs us Q I r h
  obtain ⟨p, ns, rfl, hp, hz, q⟩ := h
  rw [Vals.ref1 r]
  obtain ⟨S, _, _⟩ := I.hok p _ hp
  refine ST.call_sorted (I.ok.hd hc) S hz fun l h' tk out ns' c hl hget hi hm hs hn kp => ?_
  refine ⟨.ref l, _, I.laid (t' := tk) kp hl (show ObjOk X.prog X.w _ h' l (.lst (ns'.map V.int)) from ⟨?_, out.toList, c, vals_of_ints hi, hget⟩), rfl, q l ns' (I.hok.fresh hl) hm hs hn⟩
  rw [List.length_map]
  exact ST.small_line (by omega)
end
section
variable {prog : Program} {w : World} {A : Around} {E : Value → Shared → Prop} {s : Shared}
theorem nolen_lri : typeLookup (.type "list_reverseiterator") "__len__" = pure none := by rw [typeLookup_type, builtinLookup_eq_fast]; kernel_rfl
theorem hint_lri : typeLookup (.type "list_reverseiterator") "__length_hint__" = pure (some (.builtin "list_reverseiterator.__length_hint__")) := by rw [typeLookup_type, builtinLookup_eq_fast]; kernel_rfl
theorem extend_rev {R : Result → Shared → Prop} (hh : A.handled = none) {p a S : Addr} {items : Array Value} {c : Nat} (hit : s.heap.IsRevIter p a ((items.size : Int) - 1)) (hl : s.heap.IsList a items) (hS : s.heap.get? S = some { cls := .type "list", data := .seq #[] c })
    (hne : a ≠ p) (hSp : S ≠ p) (hSa : S ≠ a) (hn : items.size ≤ sizeLine)
    (hR : ∀ h' tk acc' c', (∀ b o, b ≠ S → b ≠ p → s.heap.get? b = some o → h'.get? b = some o) → h'.get? S = some { cls := .type "list", dict := none, data := .seq acc' c', slots := #[] } →
      ItemsOf (fun i v => items[items.size - 1 - i]? = some v) acc' items.size → R (.ok (.ret .none)) { s with heap := h', toks := tk }) :
    wpAny (model prog w) A.in1 (Builtin.List.listExtendWith (.ref S) (.ref p) .none)
      (fun fin s' => match fin with | .done f => R (.ok f) s' | .again c' => c'.quiet = true ∧ codeAny (model prog w) A c' R s') (fun e s' => R (.error e) s') s := by
  unfold Builtin.List.listExtendWith
  refine wpAny_bind (wpAny_typeOf hit.typeIs ?_)
  have h1 : Builtin.List.listSameRef (.ref S) (.ref p) = false := by simp [Builtin.List.listSameRef, hSp]
  rw [if_neg (by rw [h1]; decide)]
  refine wpAny_bind (wpAny_pyIter_revIter hit ?_)
  refine wpAny_bind (wpAny_holding ?_)
  unfold Builtin.List.listLengthHint
  refine wpAny_bind (wpAny_specialOf hit.typeIs nolen_lri ?_)
  show wpAny _ A.in1 (specialOf (Value.ref p) (Str.ofString "__length_hint__") >>= _) _ _ _
  refine wpAny_bind (wpAny_specialOf hit.typeIs hint_lri ?_)
  dsimp only
  rw [show splitId "list_reverseiterator.__length_hint__" = some ("list_reverseiterator", "__length_hint__") from by decide +kernel]
  dsimp only
  refine wpAny_bind (wpAny_isInstance (b := true) hit.typeIs (by rw [isSubtype_type]; kernel_rfl) ?_)
  rw [if_neg (by decide)]
  rw [if_pos (by decide +kernel)]
  rw [if_neg (by decide +kernel)]
  refine wpAny_pure ?_
  rw [if_neg (by decide +kernel)]
  have W := (Walks.listRev (prog := prog) (w := w) (A := A.in1) (by simpa using hh) p a hne items).toS
  have hSf : S ∉ [p, a] := by
    intro hm
    rcases List.mem_cons.mp hm with z | z
    · exact hSp z
    · exact hSa (List.mem_singleton.mp z)
  have e0 : (items.size : Int) - 1 - ((0 : Nat) : Int) = (items.size : Int) - 1 := by omega
  refine wpAny_pure ⟨plainId_quiet F.plain_extend_loop _, codeAny_extend_loopS W hn S hSf _ items.size 0 _ _ _ rfl (Nat.zero_le _) ⟨Nat.zero_le _, by rw [e0]; exact hit, hl⟩ hS (ItemsOf.nil _) fun s' acc' c' hm hS' hacc => ?_⟩
  rw [Moved.eq_with hm]
  refine hR s'.heap s'.toks acc' c' (fun b o hb hb2 e => hm.heap b o (fun hmem => ?_) e) hS' hacc
  rcases List.mem_cons.mp hmem with z | z
  · exact hb z
  · exact hb2 (List.mem_singleton.mp z)
theorem init_rev {R : Result → Shared → Prop} (hh : A.handled = none) {p a S : Addr} {items : Array Value} (hit : s.heap.IsRevIter p a ((items.size : Int) - 1)) (hl : s.heap.IsList a items) (hS : s.heap.get? S = some { cls := .type "list", data := .seq #[] })
    (hne : a ≠ p) (hSp : S ≠ p) (hSa : S ≠ a) (hn : items.size ≤ sizeLine)
    (hR : ∀ h' tk acc' c', (∀ b o, b ≠ S → b ≠ p → s.heap.get? b = some o → h'.get? b = some o) → h'.get? S = some { cls := .type "list", dict := none, data := .seq acc' c', slots := #[] } →
      ItemsOf (fun i v => items[items.size - 1 - i]? = some v) acc' items.size → R (.ok (.ret .none)) { s with heap := h', toks := tk }) :
    wpAny (model prog w) A.in1 (Builtin.«list.__init__» ⟨[.ref S, .ref p], []⟩)
      (fun fin s' => match fin with | .done f => R (.ok f) s' | .again c' => c'.quiet = true ∧ codeAny (model prog w) A c' R s') (fun e s' => R (.error e) s') s := by
  show wpAny _ _ (do let old ← Builtin.List.listItems (.ref S); Builtin.List.listUpdate (.ref S) (fun _ => #[]); letGo old.toList.reverse; Builtin.List.listExtendWith (.ref S) (.ref p) .none) _ _ s
  refine wpAny_bind ?_
  unfold Builtin.List.listItems
  refine wpAny_bind (wpAny_seqItems hS rfl (wpAny_pure ?_))
  show wpAny _ _ (updateSeq S (fun _ => #[]) >>= fun _ => letGo (#[] : Array Value).toList.reverse >>= fun _ => Builtin.List.listExtendWith (.ref S) (.ref p) .none) _ _ s
  refine wpAny_bind (wpAny_updateSeq hS rfl ?_)
  have hS₂ := Heap.get?_update_self (Obj.mapSeq (fun _ => (#[] : Array Value))) hS rfl
  have oth : ∀ b o, b ≠ S → s.heap.get? b = some o → (s.heap.update S (Obj.mapSeq (fun _ => (#[] : Array Value)))).get? b = some o :=
    fun b o hb e => (Heap.get?_update_other _ _ (Ne.symm hb)).trans e
  refine wpAny_bind (wpAny_letGo ?_)
  refine extend_rev hh (hit.at fun o e => oth p o (Ne.symm hSp) e) (hl.at fun o e => oth a o (Ne.symm hSa) e) hS₂ hne hSp hSa hn fun h' tk acc' c' hk hS' hacc => ?_
  exact hR h' tk acc' c' (fun b o hb hb2 e => hk b o hb hb2 (oth b o hb e)) hS' hacc
theorem call_list_rev {Q : Value → Shared → Prop} (hh : A.handled = none) {p a : Addr} {items : Array Value} (hit : s.heap.IsRevIter p a ((items.size : Int) - 1)) (hl : s.heap.IsList a items) (hne : a ≠ p) (hn : items.size ≤ sizeLine)
    (hQ : ∀ h' tk acc' c', (∀ b o, b ≠ p → s.heap.get? b = some o → h'.get? b = some o) →
      h'.get? s.heap.objs.size = some { cls := .type "list", dict := none, data := .seq acc' c', slots := #[] } → acc'.toList = items.toList.reverse → Q (.ref s.heap.objs.size) { s with heap := h', toks := tk }) :
    wpAny (model prog w) A (call (.type "list") [.ref p]) Q E s := by
  refine callType_codes (Q₁ := fun obj s₁ => obj = .ref s.heap.objs.size ∧ s₁ = { s with heap := s.heap.push { cls := .type "list", data := .seq #[] } }) F.called_list (F.typeCall_list_1 _) F.entry_list_init
    (code_list_new _ ⟨rfl, rfl⟩) fun obj s₁ h₁ => ?_
  obtain ⟨rfl, rfl⟩ := h₁
  have hS : (s.heap.push { cls := .type "list", data := .seq #[] }).get? s.heap.objs.size = some { cls := .type "list", data := .seq #[] } := Heap.get?_push_size _ rfl
  have hp : p < s.heap.objs.size := by obtain ⟨o, e, _⟩ := hit; exact Heap.lt_size e
  have ha : a < s.heap.objs.size := by obtain ⟨o, e, _⟩ := hl; exact Heap.lt_size e
  refine ⟨⟨_, hS, rfl⟩, F.args_list_init_2 _ _, init_rev (A := A.in1) hh (items := items) (hit.at fun o e => Heap.get?_push_of_some _ e) (hl.push _) hS hne (Nat.ne_of_gt hp) (Nat.ne_of_gt ha) hn fun h' tk acc' c' hk hS' hacc => ?_⟩
  refine ⟨rfl, hQ h' tk acc' c' (fun b o hb e => hk b o (Nat.ne_of_lt (Heap.lt_size e)) hb (Heap.get?_push_of_some _ e)) hS' ?_⟩
  apply List.ext_getElem?
  intro i
  rw [Array.getElem?_toList]
  by_cases c : i < items.size
  · have hlt : i < acc'.size := by rw [hacc.1]; exact c
    have := hacc.2 i _ (Array.getElem?_eq_getElem hlt)
    rw [List.getElem?_reverse (by rw [Array.length_toList]; exact c), Array.getElem?_toList, Array.length_toList, this, Array.getElem?_eq_getElem hlt]
  · rw [Array.getElem?_eq_none (by rw [hacc.1]; omega), List.getElem?_eq_none (by rw [List.length_reverse, Array.length_toList]; omega)]
end
section
variable {X : Cx}
def tListRev (K : PySem.W.Frag) (te : TE) : TE := fun σ H Q => te σ H fun v H1 => ∃ a xs, v = .ref a ∧ SqL K H1 a xs ∧ ∀ l, H1 l = none → Q (.ref l) (upd H1 l (.lst xs.reverse))
theorem pe_listRev {e : Expr} {te : TE} {p p2 pos pos2 : Pos} (hc : X.calm = true) (hg : Gl X "list") (hm : X.mg "list" = none) (hg2 : Gl X "reversed") (hm2 : X.mg "reversed" = none) (he : PE X e te)
    (hs : starEach [e] X.env = [(false, eval e X.env)] := by rfl)
    (hs2 : starEach [.Call (.Name "reversed" p2) [e] [] pos2] X.env = [(false, eval (.Call (.Name "reversed" p2) [e] [] pos2) X.env)] := by rfl) :
    PE X (.Call (.Name "list" p) [.Call (.Name "reversed" p2) [e] [] pos2] [] pos) (tListRev X.K te) := by
  intro pins s σ H Q I h
  refine Call_ (ld_blt I hg hm boot_list (PyProof.Rows.callWith_type1 ?_ hs2 rfl))
  rw [hs2]
  show wpAny _ _ (spliced ((false, eval (.Call (.Name "reversed" p2) [e] [] pos2) X.env) :: backTo pos [])) _ _ s
  refine Calls.spliced_cons (Call_ (ld_blt I hg2 hm2 boot_reversed5 (PyProof.Rows.callWith_type1 ?_ hs rfl)))
  rw [hs]
  show wpAny _ _ (spliced ((false, eval e X.env) :: backTo pos2 [])) _ _ s
  refine Calls.spliced_cons (thn (he pins s σ H _ I h) fun u s1 ⟨v, H1, I1, r1, a, xs, ev, hq, q⟩ => ?_)
  subst ev
  obtain rfl : u = Value.ref a := r1
  refine Calls.spliced_nil ?_
  obtain ⟨its, rv, hl, hz⟩ := I1.list hq
  refine call_reversed_list hl.isList ?_
  refine Calls.spliced_nil ?_
  have ha : a < s1.heap.objs.size := by obtain ⟨o, e, _⟩ := hl.isList; exact Heap.lt_size e
  have hlen := rv.length
  refine call_list_rev (I.ok.hd hc) (items := its.toArray) ⟨_, Heap.get?_push_size _ rfl, rfl, rfl⟩ (hl.isList.push _) (Nat.ne_of_lt ha) (by rw [List.size_toArray, ← hlen]; exact hz) fun h' tk acc' c' hk hS' hacc => ?_
  have hz2 : (s1.heap.push (revObj a ((its.toArray.size : Int) - 1))).objs.size = s1.heap.objs.size + 1 := Heap.size_push ..
  have ea : acc' = its.reverse.toArray := by
    apply Array.ext'
    rw [hacc]
  subst ea
  refine ⟨.ref _, _, I1.laid (t' := tk) (fun b o e => hk b o (Nat.ne_of_lt (Heap.lt_size e)) (Heap.get?_push_of_some _ e)) (by show s1.heap.objs.size ≤ (s1.heap.push _).objs.size; rw [hz2]; exact Nat.le_succ _) (show ObjOk X.prog X.w _ h' _ (.lst xs.reverse) from ⟨by rw [List.length_reverse]; exact hz, its.reverse, c', rv.reverse, hS'⟩), rfl, q _ (I1.hok.fresh ?_)⟩
  show s1.heap.objs.size ≤ (s1.heap.push _).objs.size
  rw [hz2]
  exact Nat.le_succ _
end
def KMap (K : PySem.W.Frag) (d : Addr) (f : Int → Option Value) : Prop :=
  ∃ o es ep, K.lookup d = some o ∧ o.ExactDict ∧ o.data = .dict es ep ∧ (∀ e ∈ es, ∃ k t, e.key = .int k t ∧ e.hash = hashInt k) ∧ ∀ k, findBy Value.isInt es k = f k
section
variable {X : Cx}
def tKGet (K : PySem.W.Frag) (td ty : TE) : TE := fun σ H Q => td σ H fun x H1 => ty σ H1 fun y H2 => ∃ d f i u v, x = .ref d ∧ y = .int i ∧ KMap K d f ∧ f i = some u ∧ RelV v u ∧ Q v H2
theorem pe_kdget {o i : Expr} {td ty : TE} {pos : Pos} (ho : PE X o td) (hi : PE X i ty) (hs : NoSl i) : PE X (.Subscript o i pos) (tKGet X.K td ty) := by
  intro pins s σ H Q I h
  refine subD_of PySem.F.slot_dict_getitem.lookup hs (thn (ho pins s σ H _ I h) fun u s1 ⟨x, H1, I1, rx, q1⟩ => thn (hi pins s1 σ H1 _ I1 q1) fun iv s2 ⟨y, H2, I2, ry, d, f, j, w', v, ex, ey, km, hf, rv, q2⟩ => ?_)
  subst ex ey
  obtain rfl : u = Value.ref d := rx
  obtain ⟨t, rfl⟩ := ry
  obtain ⟨ob, es, ep, hk, hex, hd, hkeys, hfind⟩ := km
  have hm : s2.heap.MapOf (PySem.intKind X.prog X.w) d f := ⟨ob, es, ep, I2.kIn d ob hk, hex, hd, fun e he => by
    obtain ⟨k, tk, e1, e2⟩ := hkeys e he
    exact ⟨k, by rw [e1]; exact intKind_is _ _ _ _, e2⟩, hfind⟩
  exact ⟨hm.typeIs, wpAny_getItem_of (intKind_is _ _ _ _) hm hf ⟨v, H2, I2.tok _, rv, q2⟩⟩
end
end L2

set_option linter.all false
set_option maxRecDepth 100000
set_option Elab.async false
namespace L2
open PySem PySem.Spec PyProof.Rows
theorem iteE2 {b c : Bool} {A B : Prop} (e : b = c) (h1 : c = true → A) (h2 : c = false → B) : if b = true then A else B := by
  subst e
  cases hb : b with
  | true => exact iteT (h1 hb)
  | false => exact iteF (h2 hb)
theorem yes_do {σ : St} {H : Hp} {A B : Hp → Prop} (h : A H) : tYes σ H fun b H3 => if b = true then A H3 else B H3 := by
  show if true = true then A H else B H
  exact iteT h
theorem Same.new {H H' : Hp} {D : Addr} {o : HO} (h : Same H H') (hD : H D = none) : Same H (upd H' D o) := fun b u e => by
  rw [upd_ne (ne_of_none e hD)]
  exact h b u e
theorem Same.add {H : Hp} {D : Addr} {o : HO} (hD : H D = none) : Same H (upd H D o) := (Same.refl H).new hD
theorem filter_succ {α : Type} (p : Nat → Bool) (f : Nat → α) (i : Nat) : ((List.range (i + 1)).filter p).map f = if p i = true then ((List.range i).filter p).map f ++ [f i] else ((List.range i).filter p).map f := by
  rw [List.range_succ, List.filter_append, List.map_append]
  by_cases h : p i = true
  · rw [if_pos h]; simp [h]
  · rw [if_neg h]; simp [h]
/-- what one turn of a comprehension reaches: the new list at D is as it was, or has one more -/
def TurnTo (H : Hp) (D : Addr) (acc : List V) (b : Bool) (y : V) (N : Hp → Prop) : Prop := ∀ H', Same H H' → H' D = some (.lst acc) → if b = true then N (upd H' D (.lst (acc ++ [y]))) else N H'
/-- a comprehension over a range: the values -/
theorem lc_rangeV {lo : Int} {n : Nat} {g : TG} {tt : TT} {te : TE} {vs : List Nat} {σ : St} {H1 : Hp} {D : Addr} {Qd : Hp → Prop} (hD : H1 D = none) (hz : n ≤ 65536) (p : Nat → Bool) (f : Nat → V)
    (turn : ∀ i H, i < n → Same H1 H → H D = some (.lst (((List.range i).filter p).map f)) → ∀ N, TurnTo H D (((List.range i).filter p).map f) (p i) (f i) N →
      g (.int (lo + i)) (wipe σ vs) H fun σ2 H2 => wipe σ2 vs = wipe σ vs ∧ tt σ2 H2 fun b H3 =>
        if b = true then te σ2 H3 fun y H4 => ∃ acc, H4 D = some (.lst acc) ∧ acc.length < sizeLine ∧ N (upd H4 D (.lst (acc ++ [y]))) else N H3)
    (hd : ∀ H, Same H1 H → H D = some (.lst (((List.range n).filter p).map f)) → Qd H) :
    ∃ W : Nat → Nat → Hp → Prop, (∃ m, W 0 m (upd H1 D (.lst []))) ∧ ∀ i m H, W i m H →
      ((Itr lo n).stop i H ∧ Qd H) ∨ ((Itr lo n).go i H ∧ ∃ Nx : Hp → Prop, (∀ H', Nx H' → ∃ m', m' < m ∧ W (i + 1) m' H') ∧ ∀ x H', (Itr lo n).yld i H x H' → g x (wipe σ vs) H' fun σ2 H2 => wipe σ2 vs = wipe σ vs ∧ tt σ2 H2 fun b H3 =>
        if b = true then te σ2 H3 fun y H4 => ∃ acc, H4 D = some (.lst acc) ∧ acc.length < sizeLine ∧ Nx (upd H4 D (.lst (acc ++ [y]))) else Nx H3) := by
  refine lc_range (fun i H => Same H1 H ∧ H D = some (.lst (((List.range i).filter p).map f))) ⟨Same.add hD, by rw [upd_same]; rfl⟩ (fun i H hi ⟨hs, hl⟩ => ?_) fun H ⟨hs, hl⟩ => hd H hs hl
  refine turn i H hi hs hl _ fun H' hs' hl' => ?_
  rw [filter_succ]
  by_cases hp : p i = true
  · rw [if_pos hp, if_pos hp]
    exact ⟨(hs.trans hs').new hD, upd_same⟩
  · rw [if_neg hp, if_neg hp]
    exact ⟨hs.trans hs', hl'⟩
/-- a comprehension over a list -/
theorem lc_listV {K : PySem.W.Frag} {a : Addr} {α : Type} {xs : List α} {h : α → V} {g : TG} {tt : TT} {te : TE} {vs : List Nat} {σ : St} {H1 : Hp} {D : Addr} {Qd : Hp → Prop} (hD : H1 D = none) (ha : SqL K H1 a (xs.map h)) (p : α → Bool) (f : α → V)
    (turn : ∀ i x H, xs[i]? = some x → Same H1 H → H D = some (.lst (((xs.take i).filter p).map f)) → (((xs.take i).filter p).map f).length < sizeLine → ∀ N, TurnTo H D (((xs.take i).filter p).map f) (p x) (f x) N →
      g (h x) (wipe σ vs) H fun σ2 H2 => wipe σ2 vs = wipe σ vs ∧ tt σ2 H2 fun b H3 =>
        if b = true then te σ2 H3 fun y H4 => ∃ acc, H4 D = some (.lst acc) ∧ acc.length < sizeLine ∧ N (upd H4 D (.lst (acc ++ [y]))) else N H3)
    (hz : xs.length ≤ sizeLine) (hd : ∀ H, Same H1 H → H D = some (.lst ((xs.filter p).map f)) → Qd H) :
    ∃ W : Nat → Nat → Hp → Prop, (∃ m, W 0 m (upd H1 D (.lst []))) ∧ ∀ i m H, W i m H →
      ((Itl K a).stop i H ∧ Qd H) ∨ ((Itl K a).go i H ∧ ∃ Nx : Hp → Prop, (∀ H', Nx H' → ∃ m', m' < m ∧ W (i + 1) m' H') ∧ ∀ x H', (Itl K a).yld i H x H' → g x (wipe σ vs) H' fun σ2 H2 => wipe σ2 vs = wipe σ vs ∧ tt σ2 H2 fun b H3 =>
        if b = true then te σ2 H3 fun y H4 => ∃ acc, H4 D = some (.lst acc) ∧ acc.length < sizeLine ∧ Nx (upd H4 D (.lst (acc ++ [y]))) else Nx H3) := by
  refine lc_list (K := K) (a := a) (xs := xs.map h) (fun i H => Same H1 H ∧ H D = some (.lst (((xs.take i).filter p).map f))) ⟨Same.add hD, by rw [upd_same]; rfl⟩ (fun i H _ ⟨hs, _⟩ => hs.seq ha) (fun i v H hi ⟨hs, hl⟩ => ?_) fun H ⟨hs, hl⟩ => hd H hs (by rw [List.length_map, List.take_length] at hl; exact hl)
  rw [List.getElem?_map] at hi
  obtain ⟨x, hx, rfl⟩ := Option.map_eq_some_iff.mp hi
  have hlt : i < xs.length := (List.getElem?_eq_some_iff.mp hx).1
  have hacc : (((xs.take i).filter p).map f).length < sizeLine := by
    rw [List.length_map]
    have h1 := List.length_filter_le p (xs.take i)
    rw [List.length_take] at h1
    omega
  refine turn i x H hx hs hl hacc _ fun H' hs' hl' => ?_
  have e : xs.take (i + 1) = xs.take i ++ [x] := by rw [List.take_succ, hx]; rfl
  rw [e, List.filter_append, List.map_append]
  by_cases hp : p x = true
  · rw [if_pos hp]
    refine ⟨(hs.trans hs').new hD, ?_⟩
    rw [upd_same]
    simp [hp]
  · rw [if_neg hp]
    refine ⟨hs.trans hs', ?_⟩
    rw [hl']
    simp [hp]
end L2
namespace L2
open PySem PySem.Spec PyProof.Rows
section
variable {X : Cx}
theorem ix_listK (K : PySem.W.Frag) (hK : X.K = K := by rfl) : IxR X (rIxL K) := by subst hK; exact ix_list
theorem ix_tupK (K : PySem.W.Frag) (hK : X.K = K := by rfl) : IxR X (rIxT K) := by subst hK; exact ix_tup
theorem op_inK (K : PySem.W.Frag) (hK : X.K = K := by rfl) : OpR X (compareOp .In) (rIn K false) := by subst hK; exact op_in_seq
/-- an int as a test -/
def tTruI (ta : TE) : TT := fun σ H Q => ta σ H fun x H' => ∃ i, x = .int i ∧ Q (i != 0) H'
theorem pt_int {a : Expr} {ta : TE} (ha : PE X a ta) (he : ∀ whole, isTrue a X.env whole = (do let v ← whole; standAt a.pos; holding [v] (truthy v)) := by exact fun _ => rfl) :
    PT X a (tTruI ta) := by
  intro pins s σ H Q I h
  refine isTrue_plain (thn (ha pins s σ H _ I h) fun v s1 ⟨x, H1, I1, r1, i, ex, q1⟩ => ?_) (he _)
  subst ex
  obtain ⟨t, rfl⟩ := r1
  exact truthy_int ⟨H1, I1, q1⟩
end
end L2

set_option linter.all false
set_option maxRecDepth 100000
set_option Elab.async false
namespace Bt
open PySem L2 Rc77 Ar
theorem nat_pow (k : Nat) : ((2 : Int) ^ k) = ((2 ^ k : Nat) : Int) := by
  rw [Int.natCast_pow]
  rfl
theorem shr_bit (m a : Nat) : (Builtin.bitAnd ((m : Int) / 2 ^ a) 1 != 0) = m.testBit a := by
  rw [PyProof.Rows.bitAnd_m1, nat_pow, ← Int.natCast_ediv, Nat.testBit_eq_decide_div_mod_eq]
  have e : ((m / 2 ^ a : Nat) : Int) % 2 = ((m / 2 ^ a % 2 : Nat) : Int) := by omega
  rw [e]
  rcases Nat.mod_two_eq_zero_or_one (m / 2 ^ a) with h | h <;> rw [h] <;> rfl
theorem and_nat (x y : Nat) : Builtin.bitAnd (x : Int) (y : Int) = ((x &&& y : Nat) : Int) := by
  rw [PyProof.Rows.bitAnd_pp (by omega) (by omega)]
  rfl
theorem or_nat (x y : Nat) : Builtin.bitOr (x : Int) (y : Int) = ((x ||| y : Nat) : Int) := by
  rw [Bits.bitOr_pp (by omega) (by omega)]
  rfl
theorem andNot_nat (x y : Nat) : Builtin.bitAnd (x : Int) (Builtin.bitNot (y : Int)) = ((x - (x &&& y) : Nat) : Int) := by
  unfold Builtin.bitAnd
  have h1 : decide ((0 : Int) ≤ (x : Int)) = true := by simp
  have h2 : decide ((0 : Int) ≤ Builtin.bitNot (y : Int)) = false := by
    unfold Builtin.bitNot
    simp
    omega
  rw [h1, h2]
  have h3 : (Builtin.bitNot (Builtin.bitNot (y : Int))).toNat = y := by
    unfold Builtin.bitNot
    omega
  dsimp only
  rw [h3, Int.toNat_natCast]
  have := Nat.and_le_left (n := x) (m := y)
  omega
theorem andNot_zero (x y : Nat) : (Builtin.bitAnd (x : Int) (Builtin.bitNot (y : Int)) != 0) = !under x y := by
  rw [andNot_nat]
  unfold under
  have h := Nat.and_le_left (n := x) (m := y)
  have e : Nat.land x y = x &&& y := rfl
  rw [e]
  by_cases c : x &&& y = x
  · rw [c]; simp
  · have h1 : (x &&& y == x) = false := by simpa using c
    have h2 : (((x - (x &&& y) : Nat) : Int) != 0) = true := by
      apply bne_iff_ne.mpr
      omega
    rw [h1, h2]
    rfl
theorem shl_one (b : Nat) : (1 : Int) * 2 ^ b = ((2 ^ b : Nat) : Int) := by rw [Int.one_mul, nat_pow]
theorem sum_bits (p : Nat → Bool) : ∀ n, (((List.range n).filter p).map fun b => ((2 ^ b : Nat) : Int)).sum = ((bitsum p n : Nat) : Int)
  | 0 => rfl
  | n + 1 => by
    rw [filter_succ, ]
    have ih := sum_bits p n
    show _ = ((bitsum p n + (if p n = true then 2 ^ n else 0) : Nat) : Int)
    by_cases h : p n = true
    · rw [if_pos h, if_pos h, List.sum_append, ih]
      simp
    · rw [if_neg h, if_neg h, ih]
      simp
/-- a list of naturals on the heap -/
abbrev nV (n : Nat) : V := .int (n : Int)
theorem nV_or (x y : Nat) : nV (x ||| y) = V.int (Builtin.bitOr (x : Int) (y : Int)) := by rw [or_nat]
theorem map_nV (f : Nat → Nat) (l : List Nat) : l.map (fun b => nV (f b)) = (l.map fun b => ((f b : Nat) : Int)).map V.int := by
  rw [List.map_map]
  rfl
def top (i : Nat) : Stmt := PySem.Challenge.pw_beatsround_s01_answers.main.body.getD i (.Pass ⟨0, 0, 0, 0⟩)
structure Bl (mg : Str → Option Value) : Prop where
  sum : mg "sum" = none
  len : mg "len" = none
  range : mg "range" = none
  any : mg "any" = none
  list : mg "list" = none
  set : mg "set" = none
  sorted : mg "sorted" = none
  reversed : mg "reversed" = none
  max : mg "max" = none
  enumerate : mg "enumerate" = none
/-- the frame F stands at p -/
def FrAt (K : PySem.W.Frag) (H : Hp) (p : Addr) (F : Rc77.Frame) : Prop := SqL K H p (F.map nV)
end Bt

set_option linter.all false
set_option maxRecDepth 100000
set_option Elab.async false
namespace Bt
open PySem L2 Rc77 Ar
abbrev sBeatersOf : Stmt := top 3
section
variable {P : Program} {w : World} {K : PySem.W.Frag} {mg : Str → Option Value} {base : Heap}
def spBeatersOf (K : PySem.W.Frag) : Sp := fun vs H Q _ => ∃ (p : Addr) (F : Rc77.Frame) (a : Nat), vs = [.ref p, nV a] ∧ FrAt K H p F ∧ F.length ≤ 16 ∧ ∀ H', Same H H' → Q (nV (beatersOf F a)) H'
theorem scBeatersOf : FnScope ["beats", "a", "b"] ["beats", "a"] (defScope sBeatersOf) := ⟨rfl, rfl, rfl, by decide +kernel, rfl, by decide +kernel, by decide +kernel⟩
theorem frame_at {F : Rc77.Frame} {i : Nat} (h : i < F.length) : (F.map nV)[i]? = some (nV (F.getD i 0)) := by
  rw [List.getElem?_map, List.getElem?_eq_getElem h, List.getD_eq_getElem?_getD, List.getElem?_eq_getElem h]
  rfl
theorem small_len {i : Nat} {F : Rc77.Frame} {q : Nat → Bool} {g : Nat → V} (hi : i < F.length) (hn : F.length ≤ 16) : (((List.range i).filter q).map g).length < sizeLine := by
  rw [List.length_map]
  have h := List.length_filter_le q (List.range i)
  rw [List.length_range] at h
  rw [sizeLine_eq]
  omega
theorem pow_one (i : Nat) : (1 : Int) * 2 ^ (0 + (i : Int)).toNat = ((2 ^ i : Nat) : Int) := by
  rw [show (0 + (i : Int)).toNat = i by omega]
  exact shl_one i
theorem ok_beatersOf {f : Addr} {fd : FuncData} (F : Fun K "beaters_of" "beaters_of" sBeatersOf f fd) (T : Bl mg) : FnOk P w K mg base CX0 1 f fd ["beats", "a"] (spBeatersOf K) := by
  refine F.ok scBeatersOf (fun vs H Q E h => ?_) (fun cdv A outer s H vs Q E hr h => ?_)
  · obtain ⟨p, F, a, rfl, _⟩ := h
    rfl
  · obtain ⟨p, F, a, rfl, hF, hn, k⟩ := h
    refine ⟨_, pss_one (ps_ret (pe_callB (cr_sum rfl) (by rfl) T.sum PyProof.Rows.boot_sum (pa_cons
      (pe_lc (own := [("b", 2)]) rfl scBeatersOf.nd (pi_range1 rfl T.range (pa_cons (pe_callB call_len_seq (by rfl) T.len PySem.boot_len (pa_cons (pv 0) pa_nil)) pa_nil)) (blkOk_by (by kernel_rfl))
        (fun _ _ _ _ _ => pg_name (i := 2) scBeatersOf.nd rfl (Or.inl rfl))
        (fun _ _ _ _ _ => pts_one (pt_int (pe_op op_and (pe_op op_shr (pe_ix (ix_listK K) (pv 0) (pv 2) (fun _ _ => rfl)) (pv 1)) pe_int)))
        (fun _ _ _ _ _ => pe_op op_shl pe_int (pv 2))) pa_nil))), ?_⟩
    refine ⟨_, rfl, p, _, rfl, .inl hF, F.length, by rw [List.length_map], by omega, by omega, fun D hD => ?_⟩
    refine lc_rangeV (n := F.length) hD (by omega) (fun b => beats F b a) (fun b => nV (2 ^ b)) (fun i H1 hi hs hl N hN => ?_) fun H1 hs hl => ?_
    · refine ⟨rfl, _, rfl, _, rfl, p, _, _, _, rfl, rfl, hs.seq hF, at_of (j := i) (by omega) (frame_at hi), _, rfl, _, _, rfl, rfl, (by show (0 : Int) ≤ (a : Int); omega), _, _, rfl, rfl, _, rfl, ?_⟩
      have h := hN H1 (Same.refl _) hl
      rw [show (Builtin.bitAnd ((((F.getD i 0 : Nat) : Int)) / 2 ^ ((a : Nat) : Int).toNat) 1 != 0) = beats F i a from shr_bit _ _]
      cases hb : beats F i a with
      | true =>
        rw [hb, if_pos rfl] at h
        refine iteT ?_
        refine ⟨_, rfl, _, _, rfl, rfl, ⟨by omega, by omega, by decide⟩, _, hl, small_len hi hn, ?_⟩
        dsimp only
        rw [pow_one]
        exact h
      | false =>
        rw [hb, if_neg Bool.false_ne_true] at h
        exact iteF h
    · refine ⟨D, _, rfl, SqL.of (by rw [hl, map_nV]), ?_⟩
      rw [sum_bits]
      exact k _ hs
abbrev sEach : Stmt := top 2
def eachL (F : Rc77.Frame) : List V := (List.range F.length).map fun a => nV (beatersOf F a)
def spEach (K : PySem.W.Frag) : Sp := fun vs H Q _ => ∃ (p : Addr) (F : Rc77.Frame), vs = [.ref p] ∧ FrAt K H p F ∧ F.length ≤ 16 ∧ ∀ D H', H D = none → Same H H' → H' D = some (.lst (eachL F)) → Q (.ref D) H'
theorem scEach : FnScope ["beats", "a"] ["beats"] (defScope sEach) := ⟨rfl, rfl, rfl, by decide +kernel, rfl, by decide +kernel, by decide +kernel⟩
theorem filter_all {α : Type} (l : List α) : l.filter (fun _ => true) = l := by
  induction l with
  | nil => rfl
  | cons a l ih => rw [List.filter_cons, if_pos rfl, ih]
/-- a def of the text, as others call it -/
structure Def (K : PySem.W.Frag) (mg : Str → Option Value) (x : Str) (st : Stmt) (f : Addr) (fd : FuncData) (ps : List Str) : Prop where
  fn : Fun K x x st f fd
  mg : mg x = some (.ref f)
  b : Binds K fd ps []
theorem ok_each {f g : Addr} {fd gd : FuncData} (F : Fun K "beaters_of_each" "beaters_of_each" sEach f fd) (T : Bl mg) (D1 : Def K mg "beaters_of" sBeatersOf g gd ["beats", "a"]) : FnOk P w K mg base CX0 2 f fd ["beats"] (spEach K) := by
  have G : FnOk P w K mg base CX0 1 g gd ["beats", "a"] (spBeatersOf K) := ok_beatersOf D1.fn T
  refine F.ok scEach (fun vs H Q E h => ?_) (fun cdv A outer s H vs Q E hr h => ?_)
  · obtain ⟨p, F, rfl, _⟩ := h
    rfl
  · obtain ⟨p, F, rfl, hF, hn, k⟩ := h
    refine ⟨_, pss_one (ps_ret
      (pe_lc (own := [("a", 1)]) rfl scEach.nd (pi_range1 rfl T.range (pa_cons (pe_callB call_len_seq (by rfl) T.len PySem.boot_len (pa_cons (pv 0) pa_nil)) pa_nil)) (blkOk_by (by kernel_rfl))
        (fun _ _ _ _ _ => pg_name (i := 1) scEach.nd rfl (Or.inl rfl))
        (fun _ _ _ _ _ => pts_nil)
        (fun _ _ _ _ _ => pe_call G hr rfl D1.mg D1.fn.kp D1.b .nil pass0 (pa_cons (pv 0) (pa_cons (pv 1) pa_nil))))), ?_⟩
    refine ⟨_, rfl, p, _, rfl, .inl hF, F.length, by rw [List.length_map], by omega, by omega, fun D hD => ?_⟩
    refine lc_rangeV (n := F.length) hD (by omega) (fun _ => true) (fun a => nV (beatersOf F a)) (fun i H1 hi hs hl N hN => ?_) fun H1 hs hl => ?_
    · refine ⟨rfl, ?_⟩
      refine yes_do ?_
      refine ⟨_, rfl, _, rfl, p, F, i, ?_, hs.seq hF, hn, fun H2 hs2 => ?_⟩
      · show [V.ref p, V.int (0 + (i : Int))] = _
        rw [Int.zero_add]
      · have h := hN H2 hs2 (hs2 _ _ hl)
        rw [if_pos rfl] at h
        exact ⟨_, hs2 _ _ hl, small_len hi hn, h⟩
    · rw [filter_all] at hl
      exact k D H1 hD hs hl
abbrev sBeatenBy : Stmt := top 4
def spBeatenBy (K : PySem.W.Frag) : Sp := fun vs H Q _ => ∃ (p : Addr) (F : Rc77.Frame) (m : Nat), vs = [.ref p, nV m] ∧ FrAt K H p F ∧ F.length ≤ 16 ∧ ∀ H', Same H H' → Q (nV (beatenBy F m)) H'
theorem scBeatenBy : FnScope ["beats", "members", "beaten", "a"] ["beats", "members"] (defScope sBeatenBy) := ⟨rfl, rfl, rfl, by decide +kernel, rfl, by decide +kernel, by decide +kernel⟩
theorem ok_beatenBy {f : Addr} {fd : FuncData} (F : Fun K "beaten_by" "beaten_by" sBeatenBy f fd) (T : Bl mg) : FnOk P w K mg base CX0 1 f fd ["beats", "members"] (spBeatenBy K) := by
  refine F.ok scBeatenBy (fun vs H Q E h => ?_) (fun cdv A outer s H vs Q E hr h => ?_)
  · obtain ⟨p, F, m, rfl, _⟩ := h
    rfl
  · obtain ⟨p, F, m, rfl, hF, hn, k⟩ := h
    refine ⟨_, pss_cons (ps_set (i := 2) scBeatenBy.nd rfl (Or.inl rfl) pe_int)
      (pss_cons (ps_for PassesOwn.never rfl (pi_range1 rfl T.range (pa_cons (pe_callB call_len_seq (by rfl) T.len PySem.boot_len (pa_cons (pv 0) pa_nil)) pa_nil)) (pg_name (i := 3) scBeatenBy.nd rfl (Or.inl rfl))
        (pss_one (ps_if (pt_int (pe_op op_and (pe_op op_shr (pv 1) (pv 3)) pe_int)) (pss_one (ps_set (i := 2) scBeatenBy.nd rfl (Or.inl rfl) (pe_op op_or (pv 2) (pe_ix (ix_listK K) (pv 0) (pv 3) (fun _ _ => rfl))))) pss_nil)))
      (pss_one (ps_ret (pv 2)))), ?_⟩
    refine ⟨_, rfl, p, _, rfl, .inl hF, F.length, by rw [List.length_map], by omega, by omega, ?_⟩
    refine for_range (n := F.length) (fun i σ H1 => ∃ v, σ = [some (.ref p), some (nV m), some (nV (lorSel (fun a => F.getD a 0) m i)), v] ∧ Same H H1) ⟨none, rfl, Same.refl _⟩ ?_ ?_
    · rintro i σ H1 hi ⟨v, rfl, hs⟩
      refine ⟨_, rfl, _, rfl, _, _, rfl, rfl, (by omega), _, _, rfl, rfl, _, rfl, ?_⟩
      have e : (Builtin.bitAnd ((m : Int) / 2 ^ (0 + (i : Int)).toNat) 1 != 0) = m.testBit i := by
        rw [show (0 + (i : Int)).toNat = i by omega]
        exact shr_bit m i
      refine iteE2 e (fun hb => ?_) (fun hb => ?_)
      · refine ⟨_, rfl, _, rfl, _, rfl, p, _, _, _, rfl, rfl, hs.seq hF, at_of (j := i) (by omega) (frame_at hi), _, _, rfl, rfl, some (.int (0 + (i : Int))), ?_, hs⟩
        have e2 : lorSel (fun a => F.getD a 0) m (i + 1) = lorSel (fun a => F.getD a 0) m i ||| F.getD i 0 := if_pos hb
        rw [e2, nV_or]
        rfl
      · have e2 : lorSel (fun a => F.getD a 0) m (i + 1) = lorSel (fun a => F.getD a 0) m i := if_neg (by rw [hb]; exact Bool.false_ne_true)
        refine ⟨some (.int (0 + (i : Int))), ?_, hs⟩
        rw [e2]
        rfl
    · rintro σ H1 ⟨v, rfl, hs⟩
      exact ⟨_, rfl, k H1 hs⟩
end
end Bt

set_option linter.all false
set_option maxRecDepth 100000
set_option Elab.async false
namespace Bt
open PySem L2 Rc77 Ar
section
variable {P : Program} {w : World} {K : PySem.W.Frag} {mg : Str → Option Value} {base : Heap}
abbrev sShielded : Stmt := top 5
def spShielded (K : PySem.W.Frag) : Sp := fun vs H Q _ => ∃ (p : Addr) (F : Rc77.Frame) (m : Nat), vs = [.ref p, nV m] ∧ FrAt K H p F ∧ F.length ≤ 16 ∧ ∀ H', Same H H' → Q (nV (shieldedBy F m)) H'
theorem scShielded : FnScope ["beats", "members", "beaten", "beaters", "a"] ["beats", "members"] (defScope sShielded) := ⟨rfl, rfl, rfl, by decide +kernel, rfl, by decide +kernel, by decide +kernel⟩
theorem each_at {F : Rc77.Frame} {i : Nat} (h : i < F.length) : (eachL F)[i]? = some (nV (beatersOf F i)) := by
  unfold eachL
  rw [List.getElem?_map, List.getElem?_range h]
  rfl
theorem ok_shielded {f g1 g2 g3 : Addr} {fd gd1 gd2 gd3 : FuncData} (F : Fun K "shielded_by" "shielded_by" sShielded f fd) (T : Bl mg) (D1 : Def K mg "beaters_of" sBeatersOf g1 gd1 ["beats", "a"]) (D2 : Def K mg "beaters_of_each" sEach g2 gd2 ["beats"])
    (D3 : Def K mg "beaten_by" sBeatenBy g3 gd3 ["beats", "members"]) : FnOk P w K mg base CX0 3 f fd ["beats", "members"] (spShielded K) := by
  have G2 : FnOk P w K mg base CX0 2 g2 gd2 ["beats"] (spEach K) := ok_each D2.fn T D1
  have G3 : FnOk P w K mg base CX0 1 g3 gd3 ["beats", "members"] (spBeatenBy K) := ok_beatenBy D3.fn T
  refine F.ok scShielded (fun vs H Q E h => ?_) (fun cdv A outer s H vs Q E hr h => ?_)
  · obtain ⟨p, F, m, rfl, _⟩ := h
    rfl
  · obtain ⟨p, F, m, rfl, hF, hn, k⟩ := h
    have hr1 : Room 1 _ := hr.mono (by decide)
    refine ⟨_, pss_cons (ps_set (i := 2) scShielded.nd rfl (Or.inr rfl) (pe_call G3 hr1 rfl D3.mg D3.fn.kp D3.b .nil pass0 (pa_cons (pv 0) (pa_cons (pv 1) pa_nil))))
      (pss_cons (ps_set (i := 3) scShielded.nd rfl (Or.inr rfl) (pe_call G2 hr rfl D2.mg D2.fn.kp D2.b .nil pass0 (pa_cons (pv 0) pa_nil)))
      (pss_one (ps_ret (pe_callB (cr_sum rfl) (by rfl) T.sum PyProof.Rows.boot_sum (pa_cons
      (pe_lc (own := [("a", 4)]) rfl scShielded.nd (pi_range1 rfl T.range (pa_cons (pe_callB call_len_seq (by rfl) T.len PySem.boot_len (pa_cons (pv 0) pa_nil)) pa_nil)) (blkOk_by (by kernel_rfl))
        (fun _ _ _ _ _ => pg_name (i := 4) scShielded.nd rfl (Or.inl rfl))
        (fun _ _ _ _ _ => pts_one (pt_not (pt_int (pe_op op_and (pe_ix (ix_listK K) (pv 3) (pv 4) (fun _ _ => rfl)) (pe_un un_inv (pv 2))))))
        (fun _ _ _ _ _ => pe_op op_shl pe_int (pv 4))) pa_nil))))), ?_⟩
    refine ⟨_, rfl, _, rfl, p, F, m, rfl, hF, hn, fun H1 hs1 => ?_⟩
    refine ⟨_, rfl, p, F, rfl, hs1.seq hF, hn, fun D2 H2 hd2 hs2 hl2 => ?_⟩
    have hs02 : Same H H2 := hs1.trans hs2
    refine ⟨_, rfl, p, _, rfl, .inl (hs02.seq hF), F.length, by rw [List.length_map], by omega, by omega, fun D hD => ?_⟩
    refine lc_rangeV (n := F.length) hD (by omega) (fun a => under (beatersOf F a) (beatenBy F m)) (fun b => nV (2 ^ b)) (fun i H3 hi hs hl N hN => ?_) fun H3 hs hl => ?_
    · refine ⟨rfl, _, rfl, _, rfl, D2, _, _, _, rfl, rfl, SqL.of (hs _ _ hl2), at_of (j := i) (by omega) (each_at hi), _, rfl, _, rfl, _, _, rfl, rfl, _, rfl, ?_⟩
      have h := hN H3 (Same.refl _) hl
      refine iteE2 (c := under (beatersOf F i) (beatenBy F m)) (by rw [andNot_zero, Bool.not_not]) (fun hb => ?_) (fun hb => ?_)
      · rw [hb, if_pos rfl] at h
        refine ⟨_, rfl, _, _, rfl, rfl, ⟨by omega, by omega, by decide⟩, _, hl, small_len hi hn, ?_⟩
        dsimp only
        rw [pow_one]
        exact h
      · rw [hb, if_neg Bool.false_ne_true] at h
        exact h
    · refine ⟨D, _, rfl, SqL.of (by rw [hl, map_nV]), ?_⟩
      rw [sum_bits]
      exact k _ (hs02.trans hs)
abbrev sRounds : Stmt := top 6
def roundsL (F : Rc77.Frame) (n : Nat) : List V := (List.range (n + 1)).map fun k => nV (rounds F k)
def spRounds (K : PySem.W.Frag) : Sp := fun vs H Q _ => ∃ (p : Addr) (F : Rc77.Frame), vs = [.ref p] ∧ FrAt K H p F ∧ F.length ≤ 16 ∧ ∀ D H', H D = none → Same H H' → H' D = some (.lst (roundsL F F.length)) → Q (.ref D) H'
theorem scRounds : FnScope ["beats", "found", "step"] ["beats"] (defScope sRounds) := ⟨rfl, rfl, rfl, by decide +kernel, rfl, by decide +kernel, by decide +kernel⟩
theorem ok_rounds {f g1 g2 g3 g4 : Addr} {fd gd1 gd2 gd3 gd4 : FuncData} (F : Fun K "rounds" "rounds" sRounds f fd) (T : Bl mg) (D1 : Def K mg "beaters_of" sBeatersOf g1 gd1 ["beats", "a"]) (D2 : Def K mg "beaters_of_each" sEach g2 gd2 ["beats"])
    (D3 : Def K mg "beaten_by" sBeatenBy g3 gd3 ["beats", "members"]) (D4 : Def K mg "shielded_by" sShielded g4 gd4 ["beats", "members"]) : FnOk P w K mg base CX0 4 f fd ["beats"] (spRounds K) := by
  have G4 : FnOk P w K mg base CX0 3 g4 gd4 ["beats", "members"] (spShielded K) := ok_shielded D4.fn T D1 D2 D3
  refine F.ok scRounds (fun vs H Q E h => ?_) (fun cdv A outer s H vs Q E hr h => ?_)
  · obtain ⟨p, F, rfl, _⟩ := h
    rfl
  · obtain ⟨p, F, rfl, hF, hn, k⟩ := h
    refine ⟨_, pss_cons (ps_set (i := 1) scRounds.nd rfl (Or.inl rfl) (pe_lst (pa_cons pe_int pa_nil)))
      (pss_cons (ps_for PassesOwn.never rfl (pi_range1 rfl T.range (pa_cons (pe_callB call_len_seq (by rfl) T.len PySem.boot_len (pa_cons (pv 0) pa_nil)) pa_nil)) (pg_name (i := 2) scRounds.nd rfl (Or.inl rfl))
        (pss_one (ps_expr (pe_bm PySem.F.plainAttrs_list PySem.F.slot_list_append PySem.F.type_list_append mt_append (pv 1) (pa_cons (pe_call G4 hr rfl D4.mg D4.fn.kp D4.b .nil pass0 (pa_cons (pv 0) (pa_cons (pe_ix (ix_listK K) (pv 1) (pv 2) (fun _ _ => rfl)) pa_nil))) pa_nil)))))
      (pss_one (ps_ret (pv 1)))), ?_⟩
    refine ⟨(by show 1 ≤ sizeLine; decide), fun D hD => ?_⟩
    have hs0 : Same H (upd H D (.lst [.int 0])) := Same.add hD
    refine ⟨_, rfl, p, _, rfl, .inl (hs0.seq hF), F.length, by rw [List.length_map], by omega, by omega, ?_⟩
    refine for_range (n := F.length) (fun i σ H1 => ∃ v, σ = [some (.ref p), some (.ref D), v] ∧ Same H H1 ∧ H1 D = some (.lst (roundsL F i))) ⟨none, rfl, hs0, by rw [upd_same]; rfl⟩ ?_ ?_
    · rintro i σ H1 hi ⟨v, rfl, hs, hl⟩
      have hat : (roundsL F i)[i]? = some (nV (rounds F i)) := by
        unfold roundsL
        rw [List.getElem?_map, List.getElem?_range (by omega)]
        rfl
      refine ⟨_, rfl, .inl ⟨rfl, _, SqL.of hl⟩, _, rfl, _, rfl, _, rfl, D, _, _, _, rfl, rfl, SqL.of hl, at_of (j := i) (by omega) hat, p, F, rounds F i, rfl, hs.seq hF, hn, fun H2 hs2 => ?_⟩
      refine ⟨D, _, _, rfl, rfl, hs2 _ _ hl, ?_, some (.int (0 + (i : Int))), rfl, (hs.trans hs2).new hD, ?_⟩
      · unfold roundsL
        rw [List.length_map, List.length_range, sizeLine_eq]
        omega
      · rw [upd_same]
        unfold roundsL
        rw [List.range_succ (n := i + 1), List.map_append, ← rounds_succ]
        rfl
    · rintro σ H1 ⟨v, rfl, hs, hl⟩
      exact ⟨_, rfl, k D H1 hD hs hl⟩
end
end Bt

set_option linter.all false
set_option maxRecDepth 100000
set_option Elab.async false
namespace Bt
open PySem L2 Rc77 Ar
def rowV (r : Row) : List V := [nV r.1, nV r.2.1, nV r.2.2]
abbrev Z := Addr × Row
abbrev zV (z : Z) : V := .ref z.1
/-- the list at a holds the rows zs, each its own tuple -/
structure ZAt (H : Hp) (a : Addr) (zs : List Z) : Prop where
  lst : H a = some (.lst (zs.map zV))
  tup : ∀ z ∈ zs, H z.1 = some (.tup (rowV z.2))
def RowsAt (H : Hp) (a : Addr) (rows : List Row) : Prop := ∃ zs : List Z, ZAt H a zs ∧ zs.map (·.2) = rows
theorem ZAt.same {H H' : Hp} {a : Addr} {zs : List Z} (h : ZAt H a zs) (s : Same H H') : ZAt H' a zs := ⟨s _ _ h.lst, fun z hz => s _ _ (h.tup z hz)⟩
theorem RowsAt.same {H H' : Hp} {a : Addr} {rows : List Row} (h : RowsAt H a rows) (s : Same H H') : RowsAt H' a rows := let ⟨zs, h1, h2⟩ := h; ⟨zs, h1.same s, h2⟩
/-- a comprehension over rows that makes new rows -/
theorem lc_newRows {K : PySem.W.Frag} {a : Addr} {zs : List Z} {g : TG} {te : TE} {vs : List Nat} {σ : St} {H1 : Hp} {D : Addr} {Qd : Hp → Prop} (hD : H1 D = none) (ha : ZAt H1 a zs) (f : Row → Row)
    (turn : ∀ (i : Nat) (z : Z) (H : Hp), zs[i]? = some z → Same H1 H → ∀ (N : VK) (N2 : Hp → Prop), (∀ (p : Addr) (H' : Hp), H p = none → Same H H' → H' p = some (.tup (rowV (f z.2))) → N (.ref p) H') → g (zV z) (wipe σ vs) H fun σ2 H2 => wipe σ2 vs = wipe σ vs ∧ tYes σ2 H2 fun b H3 => if b = true then te σ2 H3 N else N2 H3)
    (hz : zs.length ≤ sizeLine) (hd : ∀ H, Same H1 H → RowsAt H D (zs.map fun z => f z.2) → Qd H) :
    ∃ W : Nat → Nat → Hp → Prop, (∃ m, W 0 m (upd H1 D (.lst []))) ∧ ∀ i m H, W i m H →
      ((Itl K a).stop i H ∧ Qd H) ∨ ((Itl K a).go i H ∧ ∃ Nx : Hp → Prop, (∀ H', Nx H' → ∃ m', m' < m ∧ W (i + 1) m' H') ∧ ∀ x H', (Itl K a).yld i H x H' → g x (wipe σ vs) H' fun σ2 H2 => wipe σ2 vs = wipe σ vs ∧ tYes σ2 H2 fun b H3 =>
        if b = true then te σ2 H3 fun y H4 => ∃ acc, H4 D = some (.lst acc) ∧ acc.length < sizeLine ∧ Nx (upd H4 D (.lst (acc ++ [y]))) else Nx H3) := by
  refine lc_list (K := K) (a := a) (xs := zs.map zV) (fun i H => Same H1 H ∧ RowsAt H D ((zs.take i).map fun z => f z.2)) ⟨Same.add hD, [], ⟨upd_same, fun z hz => nomatch hz⟩, by simp⟩ (fun i H _ ⟨hs, _⟩ => SqL.of (hs _ _ ha.lst)) (fun i v H hi ⟨hs, us, hu, hm⟩ => ?_) fun H ⟨hs, hl⟩ => hd H hs (by rw [List.length_map, List.take_length] at hl; exact hl)
  rw [List.getElem?_map] at hi
  obtain ⟨z, hx, rfl⟩ := Option.map_eq_some_iff.mp hi
  have hlt : i < zs.length := (List.getElem?_eq_some_iff.mp hx).1
  have e : zs.take (i + 1) = zs.take i ++ [z] := by rw [List.take_succ, hx]; rfl
  have hul : us.length ≤ i := by
    have := congrArg List.length hm
    rw [List.length_map, List.length_map, List.length_take] at this
    omega
  refine turn i z H hx hs _ _ fun p H' hp hs' ht => ?_
  have hD' : H' D = some (.lst (us.map zV)) := hs' _ _ hu.lst
  refine ⟨_, hD', by rw [List.length_map]; omega, (hs.trans hs').new hD, us ++ [(p, f z.2)], ⟨?_, fun y hy => ?_⟩, ?_⟩
  · rw [upd_same, List.map_append]
    rfl
  · have hyD : y.1 ≠ D := by
      intro e
      rcases List.mem_append.mp hy with hy | hy
      · have := hs' _ _ (hu.tup y hy)
        rw [e, hD'] at this
        cases this
      · rw [List.mem_singleton.mp hy] at e
        have e : p = D := e
        rw [e, hD'] at ht
        cases ht
    rw [upd_ne hyD]
    rcases List.mem_append.mp hy with hy | hy
    · exact hs' _ _ (hu.tup y hy)
    · rw [List.mem_singleton.mp hy]
      exact ht
  · rw [e, List.map_append, List.map_append, hm]
    rfl
theorem and_pow (m a : Nat) : (Builtin.bitAnd (m : Int) ((2 ^ a : Nat) : Int) != 0) = m.testBit a := by
  rw [and_nat]
  apply Bool.eq_iff_iff.mpr
  rw [bne_iff_ne]
  constructor
  · intro h
    cases c : m.testBit a with
    | true => rfl
    | false =>
      exfalso
      apply h
      have : m &&& 2 ^ a = 0 := by
        apply Nat.eq_of_testBit_eq
        intro i
        rw [Nat.testBit_and, Nat.testBit_two_pow, Nat.zero_testBit]
        by_cases e : a = i
        · subst e; rw [c]; rfl
        · simp [e]
      rw [this]
      rfl
  · intro h e
    have e : m &&& 2 ^ a = 0 := by omega
    have := congrArg (fun x => Nat.testBit x a) e
    simp [Nat.testBit_and, h] at this
theorem peace_len {F : Rc77.Frame} {i : Nat} (hi : i ≤ F.length) (hn : F.length ≤ 16) : (peaceRows F i).length ≤ 65536 := by
  rw [peaceRows_eq F i hi, List.length_map]
  have h := List.length_filter_le (free F) (List.range (2 ^ i))
  rw [List.length_range] at h
  have : 2 ^ i ≤ 2 ^ 16 := Nat.pow_le_pow_right (by decide) (by omega)
  omega
section
variable {P : Program} {w : World} {K : PySem.W.Frag} {mg : Str → Option Value} {base : Heap}
abbrev sPeaceRows : Stmt := top 12
def spRows (rows : Rc77.Frame → List Row) (K : PySem.W.Frag) : Sp := fun vs H Q _ => ∃ (p : Addr) (F : Rc77.Frame), vs = [.ref p] ∧ FrAt K H p F ∧ F.length ≤ 16 ∧ ∀ D H', H D = none → Same H H' → RowsAt H' D (rows F) → Q (.ref D) H'
theorem scPeaceRows : FnScope ["beats", "beaters", "rows", "a", "bit", "free", "row"] ["beats"] (defScope sPeaceRows) := ⟨rfl, rfl, rfl, by decide +kernel, rfl, by decide +kernel, by decide +kernel⟩
theorem ok_peaceRows {f g1 g2 : Addr} {fd gd1 gd2 : FuncData} (F : Fun K "peaceful_rows" "peaceful_rows" sPeaceRows f fd) (T : Bl mg) (D1 : Def K mg "beaters_of" sBeatersOf g1 gd1 ["beats", "a"]) (D2 : Def K mg "beaters_of_each" sEach g2 gd2 ["beats"]) :
    FnOk P w K mg base CX0 3 f fd ["beats"] (spRows (fun F => peaceRows F F.length) K) := by
  have G2 : FnOk P w K mg base CX0 2 g2 gd2 ["beats"] (spEach K) := ok_each D2.fn T D1
  refine F.ok scPeaceRows (fun vs H Q E h => ?_) (fun cdv A outer s H vs Q E hr h => ?_)
  · obtain ⟨p, F, rfl, _⟩ := h
    rfl
  · obtain ⟨p, F, rfl, hF, hn, k⟩ := h
    refine ⟨_, pss_cons (ps_set (i := 1) scPeaceRows.nd rfl (Or.inr rfl) (pe_call G2 hr rfl D2.mg D2.fn.kp D2.b .nil pass0 (pa_cons (pv 0) pa_nil)))
      (pss_cons (ps_set (i := 2) scPeaceRows.nd rfl (Or.inl rfl) (pe_lst (pa_cons (pe_tup (pa_cons pe_int (pa_cons pe_int (pa_cons pe_int pa_nil)))) pa_nil)))
      (pss_cons (ps_for PassesOwn.never rfl (pi_range1 rfl T.range (pa_cons (pe_callB call_len_seq (by rfl) T.len PySem.boot_len (pa_cons (pv 0) pa_nil)) pa_nil)) (pg_name (i := 3) scPeaceRows.nd rfl (Or.inr rfl))
        (pss_cons (ps_set (i := 4) scPeaceRows.nd rfl (Or.inr rfl) (pe_op op_shl pe_int (pv 3)))
        (pss_one (ps_if (pt_not (pt_int (pe_op op_and (pe_ix (ix_listK K) (pv 0) (pv 3) (fun _ _ => rfl)) (pv 4))))
          (pss_cons (ps_setLc (i := 5) (own := [("row", 6)]) rfl scPeaceRows.nd rfl rfl (sw_true rfl rfl rfl (by decide +kernel)) (pi_list (pv 2)) (blkOk_by (by kernel_rfl))
              (fun _ _ _ _ _ => pg_name (i := 6) scPeaceRows.nd rfl (Or.inl rfl))
              (fun _ _ _ _ _ => pts_one (pt_not (pt_int (pe_op op_and (pe_op op_or (pe_ix (ix_tupK K) (pv 6) pe_int (fun _ _ => rfl)) (pe_ix (ix_tupK K) (pv 6) pe_int (fun _ _ => rfl))) (pv 4)))))
              (fun _ _ _ _ _ => pv 6))
          (pss_one (ps_set (i := 2) scPeaceRows.nd rfl (Or.inl rfl) (pe_op op_cat (pv 2) (pe_lc (own := [("row", 6)]) rfl scPeaceRows.nd (pi_list (pv 5)) (blkOk_by (by kernel_rfl))
              (fun _ _ _ _ _ => pg_name (i := 6) scPeaceRows.nd rfl (Or.inl rfl))
              (fun _ _ _ _ _ => pts_nil)
              (fun _ _ _ _ _ => pe_tup (pa_cons (pe_op op_or (pe_ix (ix_tupK K) (pv 6) pe_int (fun _ _ => rfl)) (pv 4)) (pa_cons (pe_op op_or (pe_ix (ix_tupK K) (pv 6) pe_int (fun _ _ => rfl)) (pe_ix (ix_listK K) (pv 0) (pv 3) (fun _ _ => rfl)))
                (pa_cons (pe_op op_or (pe_ix (ix_tupK K) (pv 6) pe_int (fun _ _ => rfl)) (pe_ix (ix_listK K) (pv 1) (pv 3) (fun _ _ => rfl))) pa_nil)))))))))
          pss_nil))))
      (pss_one (ps_ret (pv 2))))), ?_⟩
    refine ⟨_, rfl, p, F, rfl, hF, hn, fun Db H1 hDb hs1 hlb => ?_⟩
    refine ⟨(by show 3 ≤ sizeLine; decide), fun t0 ht0 => ⟨(by show 1 ≤ sizeLine; decide), fun r0 hr0 => ?_⟩⟩
    have hs12 : Same H1 (upd (upd H1 t0 (.tup [V.int 0, V.int 0, V.int 0])) r0 (.lst [V.ref t0])) := (Same.add ht0).trans (Same.add hr0)
    refine ⟨_, rfl, p, _, rfl, .inl ((hs1.trans hs12).seq hF), F.length, by rw [List.length_map], by omega, by omega, ?_⟩
    refine for_range (n := F.length) (fun i σ H3 => ∃ (r : Addr) (va vb vf vr : Option V), σ = [some (.ref p), some (.ref Db), some (.ref r), va, vb, vf, vr] ∧ Same H1 H3 ∧ RowsAt H3 r (peaceRows F i) ∧ H1 r = none) ?_ ?_ ?_
    · have hne : t0 ≠ r0 := fun e => by rw [← e, upd_same] at hr0; cases hr0
      refine ⟨r0, none, none, none, none, rfl, hs12, ⟨[(t0, (0, 0, 0))], ⟨upd_same, fun z hz => ?_⟩, rfl⟩, (Same.add ht0).free hr0⟩
      rw [List.mem_singleton.mp hz, upd_ne hne, upd_same]
      rfl
    · rintro i σ H3 hi ⟨r, va, vb, vf, vr, rfl, hs3, hrows, hr1⟩
      have hF3 : FrAt K H3 p F := (hs1.trans hs3).seq hF
      refine ⟨_, rfl, _, _, rfl, rfl, ⟨by omega, by omega, by decide⟩, ?_⟩
      refine ⟨_, rfl, _, rfl, p, _, _, _, rfl, rfl, hF3, at_of (j := i) (by omega) (frame_at hi), _, rfl, _, _, rfl, rfl, _, rfl, ?_⟩
      refine iteE2 (c := !beats F i i) (by rw [pow_one, and_pow]; rfl) (fun hb => ?_) (fun hb => ?_)
      · have hb' : ¬ beats F i i = true := by simpa using hb
        obtain ⟨zs, hz, hm⟩ := hrows
        have hzl : zs.length ≤ 65536 := by
          have := congrArg List.length hm
          rw [List.length_map] at this
          have := peace_len (F := F) (i := i) (by omega) hn
          omega
        refine ⟨_, rfl, r, rfl, ⟨_, SqL.of hz.lst⟩, fun Df hDf => ?_⟩
        refine lc_listV (h := zV) hDf (SqL.of hz.lst) (fun z => !(z.2.2.1 ||| z.2.2.2).testBit i) zV (fun j z H4 hj hs4 hl4 hlen N hN => ?_) (ST.small_line (by omega)) (fun H4 hs4 hl4 => ?_)
        · have ht : H4 z.1 = some (.tup (rowV z.2)) := hs4 _ _ (hz.tup z (List.mem_of_getElem? hj))
          refine ⟨rfl, _, rfl, z.1, _, _, _, rfl, rfl, SqT.of ht, rfl, _, rfl, z.1, _, _, _, rfl, rfl, SqT.of ht, rfl, _, _, rfl, rfl, _, rfl, _, _, rfl, rfl, _, rfl, ?_⟩
          have h := hN H4 (Same.refl _) hl4
          refine iteE2 (c := !(z.2.2.1 ||| z.2.2.2).testBit i) (by rw [pow_one, or_nat, and_pow]) (fun hc => ?_) (fun hc => ?_)
          · rw [hc, if_pos rfl] at h
            exact ⟨_, rfl, _, hl4, hlen, h⟩
          · rw [hc, if_neg Bool.false_ne_true] at h
            exact h
        · have hz4 : ZAt H4 Df (zs.filter fun z => !(z.2.2.1 ||| z.2.2.2).testBit i) := ⟨hl4, fun z hz' => hs4 _ _ (hz.tup z (List.mem_filter.mp hz').1)⟩
          have hfl := List.length_filter_le (fun z : Z => !(z.2.2.1 ||| z.2.2.2).testBit i) zs
          refine ⟨_, rfl, _, rfl, Df, rfl, ⟨_, SqL.of hl4⟩, fun Dn hDn => ?_⟩
          refine lc_newRows hDn hz4 (fun row => (row.1 ||| 2 ^ i, row.2.1 ||| F.getD i 0, row.2.2 ||| beatersOf F i)) (fun j z H5 hj hs5 N N2 hN => ?_) (ST.small_line (by omega)) (fun H5 hs5 hr5 => ?_)
          · have ht : H5 z.1 = some (.tup (rowV z.2)) := hs5 _ _ (hz4.tup z (List.mem_of_getElem? hj))
            have hF5 : FrAt K H5 p F := (hs4.trans hs5).seq hF3
            have hb5 : H5 Db = some (.lst (eachL F)) := hs5 _ _ (hs4 _ _ (hs3 _ _ hlb))
            refine ⟨rfl, yes_do ?_⟩
            refine ⟨_, rfl, z.1, _, _, _, rfl, rfl, SqT.of ht, rfl, _, rfl, _, _, rfl, rfl,
              _, rfl, z.1, _, _, _, rfl, rfl, SqT.of ht, rfl, _, rfl, _, rfl, p, _, _, _, rfl, rfl, hF5, at_of (j := i) (by omega) (frame_at hi), _, _, rfl, rfl,
              _, rfl, z.1, _, _, _, rfl, rfl, SqT.of ht, rfl, _, rfl, _, rfl, Db, _, _, _, rfl, rfl, SqL.of hb5, at_of (j := i) (by omega) (each_at hi), _, _, rfl, rfl,
              (by show 3 ≤ sizeLine; decide), fun q hq => hN q _ hq (Same.add hq) ?_⟩
            rw [upd_same]
            unfold rowV
            dsimp only
            rw [nV_or, nV_or, nV_or, pow_one]
          · obtain ⟨us, hu, hum⟩ := hr5
            have hz5 : ZAt H5 r zs := (hz.same hs4).same hs5
            have hlen : zs.length + us.length ≤ sizeLine := by
              have := congrArg List.length hum
              rw [List.length_map, List.length_map] at this
              rw [sizeLine_eq]
              omega
            refine ⟨r, Dn, _, _, rfl, rfl, hz5.lst, hu.lst, (by rw [List.length_map, List.length_map]; exact hlen), fun rn hrn => ?_⟩
            have hs6 := Same.add (o := .lst (zs.map zV ++ us.map zV)) hrn
            have hs05 : Same H1 H5 := (hs3.trans hs4).trans hs5
            refine ⟨rn, _, _, _, vr, rfl, hs05.trans hs6, ⟨zs ++ us, ⟨?_, fun z hz' => ?_⟩, ?_⟩, hs05.free hrn⟩
            · rw [upd_same, List.map_append]
            · rcases List.mem_append.mp hz' with h | h
              · exact hs6 _ _ (hz5.tup z h)
              · exact hs6 _ _ (hu.tup z h)
            · rw [List.map_append, hm, hum, peaceRows_succ]
              unfold rowsStep
              rw [if_neg hb', ← hm, List.filter_map, List.map_map]
              rfl
      · have hb' : beats F i i = true := by simpa using hb
        refine ⟨r, _, _, vf, vr, rfl, hs3, ?_, hr1⟩
        rw [peaceRows_succ]
        unfold rowsStep
        rw [if_pos hb']
        exact hrows
    · rintro σ H3 ⟨r, va, vb, vf, vr, rfl, hs3, hrows, hr1⟩
      exact ⟨_, rfl, k r H3 (hs1.free hr1) (hs1.trans hs3) hrows⟩
end
end Bt

set_option linter.all false
set_option maxRecDepth 100000
set_option Elab.async false
namespace Bt
open PySem L2 Rc77 Ar
section
variable {P : Program} {w : World} {K : PySem.W.Frag} {mg : Str → Option Value} {base : Heap}
abbrev sHoldRows : Stmt := top 13
theorem scHoldRows : FnScope ["beats", "row"] ["beats"] (defScope sHoldRows) := ⟨rfl, rfl, rfl, by decide +kernel, rfl, by decide +kernel, by decide +kernel⟩
theorem rows_len {F : Rc77.Frame} (hn : F.length ≤ 16) {zs : List Z} (hm : zs.map (·.2) = peaceRows F F.length) : zs.length ≤ 65536 := by
  have := congrArg List.length hm
  rw [List.length_map] at this
  have := peace_len (F := F) (Nat.le_refl F.length) hn
  omega
/-- the defs that peaceful_rows reaches -/
structure DP (K : PySem.W.Frag) (mg : Str → Option Value) (g1 g2 g3 : Addr) (gd1 gd2 gd3 : FuncData) : Prop where
  d1 : Def K mg "beaters_of" sBeatersOf g1 gd1 ["beats", "a"]
  d2 : Def K mg "beaters_of_each" sEach g2 gd2 ["beats"]
  d3 : Def K mg "peaceful_rows" sPeaceRows g3 gd3 ["beats"]
theorem ok_holdRows {f g1 g2 g3 : Addr} {fd gd1 gd2 gd3 : FuncData} (F : Fun K "holding_rows" "holding_rows" sHoldRows f fd) (T : Bl mg) (D : DP K mg g1 g2 g3 gd1 gd2 gd3) : FnOk P w K mg base CX0 4 f fd ["beats"] (spRows holdRows K) := by
  have G3 : FnOk P w K mg base CX0 3 g3 gd3 ["beats"] (spRows (fun F => peaceRows F F.length) K) := ok_peaceRows D.d3.fn T D.d1 D.d2
  refine F.ok scHoldRows (fun vs H Q E h => ?_) (fun cdv A outer s H vs Q E hr h => ?_)
  · obtain ⟨p, F, rfl, _⟩ := h
    rfl
  · obtain ⟨p, F, rfl, hF, hn, k⟩ := h
    refine ⟨_, pss_one (ps_ret (pe_lc (own := [("row", 1)]) rfl scHoldRows.nd (pi_list (pe_call G3 hr rfl D.d3.mg D.d3.fn.kp D.d3.b .nil pass0 (pa_cons (pv 0) pa_nil))) (blkOk_by (by kernel_rfl))
      (fun _ _ _ _ _ => pg_name (i := 1) scHoldRows.nd rfl (Or.inl rfl))
      (fun _ _ _ _ _ => pts_one (pt_not (pt_int (pe_op op_and (pe_ix (ix_tupK K) (pv 1) pe_int (fun _ _ => rfl)) (pe_un un_inv (pe_ix (ix_tupK K) (pv 1) pe_int (fun _ _ => rfl)))))))
      (fun _ _ _ _ _ => pv 1))), ?_⟩
    refine ⟨_, rfl, p, F, rfl, hF, hn, fun r H1 hr1 hs1 hrows => ?_⟩
    obtain ⟨zs, hz, hm⟩ := hrows
    have hm : zs.map (·.2) = peaceRows F F.length := hm
    refine ⟨r, rfl, ⟨_, SqL.of hz.lst⟩, fun Df hDf => ?_⟩
    refine lc_listV (h := zV) hDf (SqL.of hz.lst) (fun z => under z.2.2.2 z.2.2.1) zV (fun j z H4 hj hs4 hl4 hlen N hN => ?_) (ST.small_line (by have := rows_len hn hm; omega)) (fun H4 hs4 hl4 => ?_)
    · have ht : H4 z.1 = some (.tup (rowV z.2)) := hs4 _ _ (hz.tup z (List.mem_of_getElem? hj))
      refine ⟨rfl, _, rfl, z.1, _, _, _, rfl, rfl, SqT.of ht, rfl, _, rfl, z.1, _, _, _, rfl, rfl, SqT.of ht, rfl, _, rfl, _, _, rfl, rfl, _, rfl, ?_⟩
      have h := hN H4 (Same.refl _) hl4
      refine iteE2 (c := under z.2.2.2 z.2.2.1) (by rw [andNot_zero, Bool.not_not]) (fun hc => ?_) (fun hc => ?_)
      · rw [hc, if_pos rfl] at h
        exact ⟨_, rfl, _, hl4, hlen, h⟩
      · rw [hc, if_neg Bool.false_ne_true] at h
        exact h
    · refine k Df H4 (hs1.free hDf) (hs1.trans hs4) ⟨zs.filter fun z => under z.2.2.2 z.2.2.1, ⟨hl4, fun z hz' => hs4 _ _ (hz.tup z (List.mem_filter.mp hz').1)⟩, ?_⟩
      unfold holdRows
      rw [← hm, List.filter_map]
      rfl
abbrev sHasAll : Stmt := top 15
def spHasAll : Sp := fun vs H Q _ => ∃ (z b : Addr) (r : Row) (F : Rc77.Frame), vs = [.ref z, .ref b] ∧ H z = some (.tup (rowV r)) ∧ H b = some (.lst (eachL F)) ∧ F.length ≤ 16 ∧ Q (.bl (hasAll F r)) H
theorem scHasAll : FnScope ["row", "beaters", "a"] ["row", "beaters"] (defScope sHasAll) := ⟨rfl, rfl, rfl, by decide +kernel, rfl, by decide +kernel, by decide +kernel⟩
theorem hasAll_no {F : Rc77.Frame} {r : Row} {i : Nat} (hi : i < F.length) (h1 : r.1.testBit i = false) (h2 : under (beatersOf F i) r.2.1 = true) : hasAll F r = false := by
  unfold hasAll
  rw [List.all_eq_false]
  exact ⟨i, List.mem_range.mpr hi, by rw [h1, h2]; decide⟩
theorem ok_hasAll {f : Addr} {fd : FuncData} (F : Fun K "has_all_it_shields" "has_all_it_shields" sHasAll f fd) (T : Bl mg) : FnOk P w K mg base CX0 1 f fd ["row", "beaters"] spHasAll := by
  refine F.ok scHasAll (fun vs H Q E h => ?_) (fun cdv A outer s H vs Q E hr h => ?_)
  · obtain ⟨z, b, r, F, rfl, _⟩ := h
    rfl
  · obtain ⟨z, b, r, F, rfl, hz, hb, hn, k⟩ := h
    refine ⟨_, pss_cons (ps_for PassesOwn.never rfl (pi_range1 rfl T.range (pa_cons (pe_callB call_len_seq (by rfl) T.len PySem.boot_len (pa_cons (pv 1) pa_nil)) pa_nil)) (pg_name (i := 2) scHasAll.nd rfl (Or.inl rfl))
        (pss_one (ps_if (PW.pt (pw_and (pt_not (pt_int (pe_op op_and (pe_op op_shr (pe_ix (ix_tupK K) (pv 0) pe_int (fun _ _ => rfl)) (pv 2)) pe_int)))
            (pw_and1 (pt_not (pt_int (pe_op op_and (pe_ix (ix_listK K) (pv 1) (pv 2) (fun _ _ => rfl)) (pe_un un_inv (pe_ix (ix_tupK K) (pv 0) pe_int (fun _ _ => rfl)))))))))
          (pss_one (ps_ret pe_bl)) pss_nil)))
      (pss_one (ps_ret pe_bl)), ?_⟩
    refine ⟨_, rfl, b, _, rfl, .inl (SqL.of hb), F.length, by unfold eachL; rw [List.length_map, List.length_range], by omega, by omega, ?_⟩
    refine for_range (n := F.length) (fun i σ H1 => ∃ v, σ = [some (.ref z), some (.ref b), v] ∧ H1 = H ∧ ∀ j, j < i → (r.1.testBit j || !under (beatersOf F j) r.2.1) = true) ⟨none, rfl, rfl, fun j hj => absurd hj (Nat.not_lt_zero _)⟩ ?_ ?_
    · rintro i σ H1 hi ⟨v, rfl, rfl, hall⟩
      refine ⟨_, rfl, z, _, _, _, rfl, rfl, SqT.of hz, rfl, _, rfl, _, _, rfl, rfl, (by omega), _, _, rfl, rfl, _, rfl, ?_⟩
      have next : (r.1.testBit i || !under (beatersOf F i) r.2.1) = true → ∃ v, ([some (V.ref z), some (V.ref b), v].set 2 (some (V.int (0 + (i : Int)))) : St) = [some (.ref z), some (.ref b), v] ∧ H1 = H1 ∧ ∀ j, j < i + 1 → (r.1.testBit j || !under (beatersOf F j) r.2.1) = true := fun h =>
        ⟨some (V.int (0 + (i : Int))), rfl, rfl, fun j hj => by
          by_cases e : j = i
          · subst e; exact h
          · exact hall j (by omega)⟩
      refine iteE2 (c := !r.1.testBit i) ?_ (fun hc => ?_) (fun hc => ?_)
      · rw [show (0 + (i : Int)).toNat = i by omega]
        exact congrArg (fun b => !b) (shr_bit _ _)
      · refine ⟨_, rfl, _, rfl, b, _, _, _, rfl, rfl, SqL.of hb, at_of (j := i) (by omega) (each_at hi), _, rfl, z, _, _, _, rfl, rfl, SqT.of hz, rfl, _, rfl, _, _, rfl, rfl, _, rfl, ?_⟩
        refine iteE2 (c := under (beatersOf F i) r.2.1) (by rw [andNot_zero, Bool.not_not]) (fun hd => ?_) (fun hd => ?_)
        · rw [hasAll_no hi (by simpa using hc) hd] at k
          exact k
        · exact next (by rw [hd]; simp)
      · refine iteF ?_
        have hc' : r.1.testBit i = true := by simpa using hc
        exact next (by rw [hc']; rfl)
    · rintro σ H1 ⟨v, rfl, rfl, hall⟩
      have e : hasAll F r = true := by
        unfold hasAll
        rw [List.all_eq_true]
        exact fun a ha => hall a (List.mem_range.mp ha)
      rw [e] at k
      exact k
abbrev sCompleteRows : Stmt := top 14
theorem scCompleteRows : FnScope ["beats", "beaters", "row"] ["beats"] (defScope sCompleteRows) := ⟨rfl, rfl, rfl, by decide +kernel, rfl, by decide +kernel, by decide +kernel⟩
theorem hold_len {F : Rc77.Frame} (hn : F.length ≤ 16) : (holdRows F).length ≤ 65536 := by
  have h : (holdRows F).length ≤ (peaceRows F F.length).length := List.length_filter_le _ _
  have := peace_len (F := F) (Nat.le_refl F.length) hn
  omega
theorem z_len {zs : List Z} {rows : List Row} {n : Nat} (hm : zs.map (·.2) = rows) (h : rows.length ≤ n) : zs.length ≤ n := by
  have := congrArg List.length hm
  rw [List.length_map] at this
  omega
structure DC (K : PySem.W.Frag) (mg : Str → Option Value) (g1 g2 g3 g4 g5 : Addr) (gd1 gd2 gd3 gd4 gd5 : FuncData) : Prop extends DP K mg g1 g2 g3 gd1 gd2 gd3 where
  d4 : Def K mg "holding_rows" sHoldRows g4 gd4 ["beats"]
  d5 : Def K mg "has_all_it_shields" sHasAll g5 gd5 ["row", "beaters"]
theorem ok_completeRows {f g1 g2 g3 g4 g5 : Addr} {fd gd1 gd2 gd3 gd4 gd5 : FuncData} (F : Fun K "complete_rows" "complete_rows" sCompleteRows f fd) (T : Bl mg) (D : DC K mg g1 g2 g3 g4 g5 gd1 gd2 gd3 gd4 gd5) : FnOk P w K mg base CX0 5 f fd ["beats"] (spRows completeRows K) := by
  have G2 : FnOk P w K mg base CX0 2 g2 gd2 ["beats"] (spEach K) := ok_each D.d2.fn T D.d1
  have G4 : FnOk P w K mg base CX0 4 g4 gd4 ["beats"] (spRows holdRows K) := ok_holdRows D.d4.fn T D.toDP
  have G5 : FnOk P w K mg base CX0 1 g5 gd5 ["row", "beaters"] spHasAll := ok_hasAll D.d5.fn T
  refine F.ok scCompleteRows (fun vs H Q E h => ?_) (fun cdv A outer s H vs Q E hr h => ?_)
  · obtain ⟨p, F, rfl, _⟩ := h
    rfl
  · obtain ⟨p, F, rfl, hF, hn, k⟩ := h
    have hr1 : Room 1 _ := hr.mono (by decide)
    have hr2 : Room 2 _ := hr.mono (by decide)
    refine ⟨_, pss_cons (ps_set (i := 1) scCompleteRows.nd rfl (Or.inr rfl) (pe_call G2 hr2 rfl D.d2.mg D.d2.fn.kp D.d2.b .nil pass0 (pa_cons (pv 0) pa_nil)))
      (pss_one (ps_ret (pe_lc (own := [("row", 2)]) rfl scCompleteRows.nd (pi_list (pe_call G4 hr rfl D.d4.mg D.d4.fn.kp D.d4.b .nil pass0 (pa_cons (pv 0) pa_nil))) (blkOk_by (by kernel_rfl))
      (fun _ _ _ _ _ => pg_name (i := 2) scCompleteRows.nd rfl (Or.inl rfl))
      (fun _ _ _ _ _ => pts_one (pt_val (pe_call G5 hr1 rfl D.d5.mg D.d5.fn.kp D.d5.b .nil pass0 (pa_cons (pv 2) (pa_cons (pv 1) pa_nil)))))
      (fun _ _ _ _ _ => pv 2)))), ?_⟩
    refine ⟨_, rfl, p, F, rfl, hF, hn, fun Db H1 hDb hs1 hlb => ?_⟩
    refine ⟨_, rfl, p, F, rfl, hs1.seq hF, hn, fun r H2 hr2' hs2 hrows => ?_⟩
    obtain ⟨zs, hz, hm⟩ := hrows
    refine ⟨r, rfl, ⟨_, SqL.of hz.lst⟩, fun Df hDf => ?_⟩
    refine lc_listV (h := zV) hDf (SqL.of hz.lst) (fun z => hasAll F z.2) zV (fun j z H4 hj hs4 hl4 hlen N hN => ?_) (ST.small_line (by have := z_len hm (hold_len hn); omega)) (fun H4 hs4 hl4 => ?_)
    · have ht : H4 z.1 = some (.tup (rowV z.2)) := hs4 _ _ (hz.tup z (List.mem_of_getElem? hj))
      refine ⟨rfl, _, rfl, _, rfl, z.1, Db, z.2, F, rfl, ht, hs4 _ _ (hs2 _ _ hlb), hn, _, rfl, ?_⟩
      have h := hN H4 (Same.refl _) hl4
      refine iteE2 (c := hasAll F z.2) rfl (fun hc => ?_) (fun hc => ?_)
      · rw [hc, if_pos rfl] at h
        exact ⟨_, rfl, _, hl4, hlen, h⟩
      · rw [hc, if_neg Bool.false_ne_true] at h
        exact h
    · refine k Df H4 ((hs1.trans hs2).free hDf) ((hs1.trans hs2).trans hs4) ⟨zs.filter fun z => hasAll F z.2, ⟨hl4, fun z hz' => hs4 _ _ (hz.tup z (List.mem_filter.mp hz').1)⟩, ?_⟩
      unfold completeRows
      rw [← hm, List.filter_map]
      rfl
abbrev sReach : Stmt := top 16
def spReach : Sp := fun vs H Q _ => ∃ (z : Addr) (r : Row), vs = [.ref z] ∧ H z = some (.tup (rowV r)) ∧ Q (nV (reachRow r)) H
theorem scReach : FnScope ["row"] ["row"] (defScope sReach) := ⟨rfl, rfl, rfl, by decide +kernel, rfl, by decide +kernel, by decide +kernel⟩
theorem ok_reach {f : Addr} {fd : FuncData} (F : Fun K "reach" "reach" sReach f fd) : FnOk P w K mg base CX0 1 f fd ["row"] spReach := by
  refine F.ok scReach (fun vs H Q E h => ?_) (fun cdv A outer s H vs Q E hr h => ?_)
  · obtain ⟨z, r, rfl, _⟩ := h
    rfl
  · obtain ⟨z, r, rfl, hz, k⟩ := h
    refine ⟨_, pss_one (ps_ret (pe_op op_or (pe_ix (ix_tupK K) (pv 0) pe_int (fun _ _ => rfl)) (pe_ix (ix_tupK K) (pv 0) pe_int (fun _ _ => rfl)))), ?_⟩
    refine ⟨_, rfl, z, _, _, _, rfl, rfl, SqT.of hz, rfl, _, rfl, z, _, _, _, rfl, rfl, SqT.of hz, rfl, _, _, rfl, rfl, ?_⟩
    unfold reachRow at k
    rw [nV_or] at k
    exact k
abbrev sEveryone : Stmt := top 1
def spEveryone (K : PySem.W.Frag) : Sp := fun vs H Q _ => ∃ (p : Addr) (F : Rc77.Frame), vs = [.ref p] ∧ FrAt K H p F ∧ F.length ≤ 16 ∧ Q (nV (everyone F)) H
theorem scEveryone : FnScope ["beats"] ["beats"] (defScope sEveryone) := ⟨rfl, rfl, rfl, by decide +kernel, rfl, by decide +kernel, by decide +kernel⟩
theorem ok_everyone {f : Addr} {fd : FuncData} (F : Fun K "everyone" "everyone" sEveryone f fd) (T : Bl mg) : FnOk P w K mg base CX0 1 f fd ["beats"] (spEveryone K) := by
  refine F.ok scEveryone (fun vs H Q E h => ?_) (fun cdv A outer s H vs Q E hr h => ?_)
  · obtain ⟨p, F, rfl, _⟩ := h
    rfl
  · obtain ⟨p, F, rfl, hF, hn, k⟩ := h
    refine ⟨_, pss_one (ps_ret (pe_op op_sub (pe_op op_shl pe_int (pe_callB call_len_seq (by rfl) T.len PySem.boot_len (pa_cons (pv 0) pa_nil))) pe_int)), ?_⟩
    refine ⟨_, rfl, p, _, rfl, .inl hF, _, _, rfl, rfl, ⟨by omega, by rw [List.length_map]; omega, by decide⟩, _, _, rfl, rfl, ?_⟩
    have e : (1 : Int) * 2 ^ (((F.map nV).length : Nat) : Int).toNat - 1 = ((everyone F : Nat) : Int) := by
      rw [List.length_map, Int.toNat_natCast, shl_one]
      unfold everyone
      have : 0 < 2 ^ F.length := Nat.pow_pos (by decide)
      omega
    dsimp only
    rw [e]
    exact k
abbrev sWithin : Stmt := top 18
def spWithin (K : PySem.W.Frag) : Sp := fun vs H Q _ => ∃ (m : Nat) (b : Addr) (l : List Nat), vs = [nV m, .ref b] ∧ SqL K H b (l.map nV) ∧ Q (.bl (withinSome m l)) H
theorem scWithin : FnScope ["members", "others", "other"] ["members", "others"] (defScope sWithin) := ⟨rfl, rfl, rfl, by decide +kernel, rfl, by decide +kernel, by decide +kernel⟩
theorem ok_within {f : Addr} {fd : FuncData} (F : Fun K "is_within_some" "is_within_some" sWithin f fd) : FnOk P w K mg base CX0 1 f fd ["members", "others"] (spWithin K) := by
  refine F.ok scWithin (fun vs H Q E h => ?_) (fun cdv A outer s H vs Q E hr h => ?_)
  · obtain ⟨m, b, l, rfl, _⟩ := h
    rfl
  · obtain ⟨m, b, l, rfl, hl, k⟩ := h
    refine ⟨_, pss_cons (ps_for PassesOwn.never rfl (pi_list (pv 1)) (pg_name (i := 2) scWithin.nd rfl (Or.inl rfl))
        (pss_one (ps_if (pt_not (pt_int (pe_op op_and (pv 0) (pe_un un_inv (pv 2))))) (pss_one (ps_ret pe_bl)) pss_nil)))
      (pss_one (ps_ret pe_bl)), ?_⟩
    refine ⟨_, rfl, b, rfl, ⟨_, hl⟩, ?_⟩
    refine for_list (K := K) (xs := l.map nV) (fun i σ H1 => ∃ v, σ = [some (nV m), some (.ref b), v] ∧ H1 = H ∧ ∀ o ∈ l.take i, under m o = false) ⟨none, rfl, rfl, fun o ho => by simp at ho⟩ (fun i σ H1 _ ⟨_, _, e, _⟩ => by rw [e]; exact hl) ?_ ?_
    · rintro i x σ H1 hi ⟨v, rfl, rfl, hall⟩
      rw [List.getElem?_map] at hi
      obtain ⟨o, ho, rfl⟩ := Option.map_eq_some_iff.mp hi
      refine ⟨_, rfl, _, rfl, _, rfl, _, _, rfl, rfl, _, rfl, ?_⟩
      refine iteE2 (c := under m o) (by rw [andNot_zero, Bool.not_not]) (fun hc => ?_) (fun hc => ?_)
      · have e : withinSome m l = true := List.any_eq_true.mpr ⟨o, List.mem_of_getElem? ho, hc⟩
        rw [e] at k
        exact k
      · refine ⟨some (nV o), rfl, rfl, fun y hy => ?_⟩
        rw [List.take_succ, ho] at hy
        rcases List.mem_append.mp hy with hy | hy
        · exact hall y hy
        · have : y = o := by simpa using hy
          rw [this]
          exact hc
    · rintro σ H1 ⟨v, rfl, rfl, hall⟩
      rw [List.length_map, List.take_length] at hall
      have e : withinSome m l = false := by
        unfold withinSome
        rw [List.any_eq_false]
        exact fun o ho => by rw [hall o ho]; exact Bool.false_ne_true
      rw [e] at k
      exact k
end
end Bt

set_option linter.all false
set_option maxRecDepth 100000
set_option Elab.async false
namespace Bt
open PySem L2 Rc77 Ar
/-- over a list from its end, which the body leaves as it is -/
theorem for_rev {K : PySem.W.Frag} {a : Addr} {xs : List V} {g : TG} {tb : TS} {D : Ends} {σ : St} {H : Hp} (Pv : Nat → St → Hp → Prop) (h0 : Pv 0 σ H) (hl : ∀ i σ H, i ≤ xs.length → Pv i σ H → SqL K H a xs)
    (hs : ∀ i x σ H, xs.reverse[i]? = some x → Pv i σ H → g x σ H fun σ2 H2 => tb { D with nx := Pv (i + 1), ct := Pv (i + 1), bk := D.nx } σ2 H2) (hd : ∀ σ H, Pv xs.length σ H → D.nx σ H) :
    ∃ W : Nat → Nat → St → Hp → Prop, (∃ m, W 0 m σ H) ∧ ∀ i m σ H, W i m σ H →
      ((Itv K a xs.length).stop i H ∧ D.nx σ H) ∨ ((Itv K a xs.length).go i H ∧ ∃ N : St → Hp → Prop, (∀ σ' H', N σ' H' → ∃ m', m' < m ∧ W (i + 1) m' σ' H') ∧ ∀ x H', (Itv K a xs.length).yld i H x H' → g x σ H' fun σ2 H2 => tb { D with nx := N, ct := N, bk := D.nx } σ2 H2) := by
  refine ⟨fun i m σ H => m = xs.length - i ∧ i ≤ xs.length ∧ Pv i σ H, ⟨xs.length, by simp, Nat.zero_le _, h0⟩, ?_⟩
  rintro i m σ H ⟨rfl, hi, p⟩
  have q := hl i σ H hi p
  by_cases hlt : i < xs.length
  · have hlt2 : xs.length - 1 - i < xs.length := by omega
    refine .inr ⟨⟨hlt, xs, xs[xs.length - 1 - i], q, List.getElem?_eq_getElem hlt2⟩, Pv (i + 1), fun σ' H' p' => ⟨xs.length - (i + 1), by omega, rfl, hlt, p'⟩, fun x H' y => ?_⟩
    obtain ⟨e, y⟩ := y
    subst e
    refine hs i x σ _ ?_ p
    rw [List.getElem?_reverse hlt]
    exact y xs q
  · have e : i = xs.length := by omega
    subst e
    exact .inl ⟨Nat.le_refl _, hd σ H p⟩
section
variable {P : Program} {w : World} {K : PySem.W.Frag} {mg : Str → Option Value} {base : Heap}
abbrev sUtmost : Stmt := top 17
def spUtmost (K : PySem.W.Frag) : Sp := fun vs H Q _ => ∃ (b : Addr) (l : List Nat), vs = [.ref b] ∧ SqL K H b (l.map nV) ∧ l.length ≤ 65536 ∧ ∀ D H', H D = none → Same H H' → H' D = some (.lst ((utmost l).map nV)) → Q (.ref D) H'
theorem scUtmost : FnScope ["rising", "kept", "members"] ["rising"] (defScope sUtmost) := ⟨rfl, rfl, rfl, by decide +kernel, rfl, by decide +kernel, by decide +kernel⟩
theorem kept_len : ∀ (l : List Nat) (kept : List Nat), (l.foldl utStep kept).length ≤ kept.length + l.length
  | [], kept => Nat.le_refl _
  | a :: l, kept => by
    rw [List.foldl_cons]
    have h := kept_len l (utStep kept a)
    have h2 : (utStep kept a).length ≤ kept.length + 1 := by
      unfold utStep
      split
      · omega
      · rw [List.length_append]; exact Nat.le_refl _
    rw [List.length_cons]
    omega
theorem ok_utmost {f g : Addr} {fd gd : FuncData} (F : Fun K "utmost" "utmost" sUtmost f fd) (T : Bl mg) (D1 : Def K mg "is_within_some" sWithin g gd ["members", "others"]) : FnOk P w K mg base CX0 2 f fd ["rising"] (spUtmost K) := by
  have G : FnOk P w K mg base CX0 1 g gd ["members", "others"] (spWithin K) := ok_within D1.fn
  refine F.ok scUtmost (fun vs H Q E h => ?_) (fun cdv A outer s H vs Q E hr h => ?_)
  · obtain ⟨b, l, rfl, _⟩ := h
    rfl
  · obtain ⟨b, l, rfl, hl, hz, k⟩ := h
    refine ⟨_, pss_cons (ps_set (i := 1) scUtmost.nd rfl (Or.inl rfl) (pe_lst pa_nil))
      (pss_cons (ps_for PassesOwn.never rfl (pi_reversed rfl T.reversed (pa_cons (pv 0) pa_nil)) (pg_name (i := 2) scUtmost.nd rfl (Or.inl rfl))
        (pss_one (ps_if (pt_not (pt_val (pe_call G hr rfl D1.mg D1.fn.kp D1.b .nil pass0 (pa_cons (pv 2) (pa_cons (pv 1) pa_nil)))))
          (pss_one (ps_expr (pe_bm PySem.F.plainAttrs_list PySem.F.slot_list_append PySem.F.type_list_append mt_append (pv 1) (pa_cons (pv 2) pa_nil)))) pss_nil)))
      (pss_one (ps_ret (pe_listRev rfl rfl T.list rfl T.reversed (pv 1))))), ?_⟩
    refine ⟨(by show 0 ≤ sizeLine; decide), fun D hD => ?_⟩
    have hs0 : Same H (upd H D (.lst [])) := Same.add hD
    refine ⟨_, rfl, b, _, rfl, hs0.seq hl, ?_⟩
    refine for_rev (K := K) (fun i σ H1 => ∃ v, σ = [some (.ref b), some (.ref D), v] ∧ Same H H1 ∧ H1 D = some (.lst (((l.reverse.take i).foldl utStep []).map nV))) ⟨none, rfl, hs0, by rw [upd_same]; rfl⟩ (fun i σ H1 _ ⟨_, _, hs, _⟩ => hs.seq hl) ?_ ?_
    · rintro i x σ H1 hi ⟨v, rfl, hs, hk⟩
      rw [← List.map_reverse, List.getElem?_map] at hi
      obtain ⟨o, ho, rfl⟩ := Option.map_eq_some_iff.mp hi
      have hstep : (l.reverse.take (i + 1)).foldl utStep [] = utStep ((l.reverse.take i).foldl utStep []) o := by
        rw [List.take_succ, ho, List.foldl_append]
        rfl
      refine ⟨_, rfl, _, rfl, o, D, _, rfl, SqL.of hk, _, rfl, ?_⟩
      refine iteE2 (c := !withinSome o ((l.reverse.take i).foldl utStep [])) rfl (fun hc => ?_) (fun hc => ?_)
      · have hlen := kept_len (l.reverse.take i) []
        have hlt : i < l.reverse.length := (List.getElem?_eq_some_iff.mp ho).1
        rw [List.length_reverse] at hlt
        rw [List.length_take, List.length_reverse, List.length_nil] at hlen
        refine ⟨_, rfl, .inl ⟨rfl, _, SqL.of hk⟩, _, rfl, D, _, _, rfl, rfl, hk, ?_, some (nV o), rfl, hs.new hD, ?_⟩
        · rw [List.length_map, sizeLine_eq]
          omega
        · rw [upd_same, hstep, utStep_out (by simpa using hc), List.map_append]
          rfl
      · refine ⟨some (nV o), rfl, hs, ?_⟩
        rw [hstep, utStep_in (by simpa using hc)]
        exact hk
    · rintro σ H1 ⟨v, rfl, hs, hk⟩
      rw [List.length_map, ← List.length_reverse (as := l), List.take_length] at hk
      refine ⟨_, rfl, D, _, rfl, SqL.of hk, fun r hr2 => ?_⟩
      refine k r _ (hs.free hr2) (hs.trans (Same.add hr2)) ?_
      rw [upd_same, ← List.map_reverse]
      rfl
end
end Bt

set_option linter.all false
set_option maxRecDepth 100000
set_option Elab.async false
namespace Bt
open PySem L2 Rc77 Ar
theorem bootSorted : bootBuiltins "sorted" = some (.builtin "sorted") := by decide +kernel
theorem bootSet : bootBuiltins "set" = some (.type "set") := by decide +kernel
theorem dec_nV (x y : Nat) : decide (nV x = nV y) = (x == y) := by
  by_cases e : x = y
  · subst e; simp
  · have h : ¬ nV x = nV y := fun z => e (by have z := V.int.inj z; omega)
    rw [decide_eq_false h]
    exact (beq_eq_false_iff_ne.mpr e).symm
section
variable {P : Program} {w : World} {K : PySem.W.Frag} {mg : Str → Option Value} {base : Heap}
/-- a list of sets is handed back, new -/
def spNats (l : Rc77.Frame → List Nat) (K : PySem.W.Frag) : Sp := fun vs H Q _ => ∃ (p : Addr) (F : Rc77.Frame), vs = [.ref p] ∧ FrAt K H p F ∧ F.length ≤ 16 ∧ Wf F ∧ ∀ D H', H D = none → Same H H' → H' D = some (.lst ((l F).map nV)) → Q (.ref D) H'
/-- the first parts of rows, by a comprehension without a test -/
theorem lc_firsts {a : Addr} {zs : List Z} {vs : List Nat} {g : TG} {te : TE} {σ : St} {H1 : Hp} {D : Addr} {Qd : Hp → Prop} (hD : H1 D = none) (ha : ZAt H1 a zs) (hz : zs.length ≤ 65536)
    (turn : ∀ (z : Z) (H : Hp) (N : VK) (N2 : Hp → Prop), H z.1 = some (.tup (rowV z.2)) → N (nV z.2.1) H → g (zV z) (wipe σ vs) H fun σ2 H2 => wipe σ2 vs = wipe σ vs ∧ tYes σ2 H2 fun b H3 => if b = true then te σ2 H3 N else N2 H3)
    (hd : ∀ H, Same H1 H → H D = some (.lst ((zs.map fun z => z.2.1).map nV)) → Qd H) :
    ∃ W : Nat → Nat → Hp → Prop, (∃ m, W 0 m (upd H1 D (.lst []))) ∧ ∀ i m H, W i m H →
      ((Itl K a).stop i H ∧ Qd H) ∨ ((Itl K a).go i H ∧ ∃ Nx : Hp → Prop, (∀ H', Nx H' → ∃ m', m' < m ∧ W (i + 1) m' H') ∧ ∀ x H', (Itl K a).yld i H x H' → g x (wipe σ vs) H' fun σ2 H2 => wipe σ2 vs = wipe σ vs ∧ tYes σ2 H2 fun b H3 =>
        if b = true then te σ2 H3 fun y H4 => ∃ acc, H4 D = some (.lst acc) ∧ acc.length < sizeLine ∧ Nx (upd H4 D (.lst (acc ++ [y]))) else Nx H3) := by
  refine lc_listV (h := zV) hD (SqL.of ha.lst) (fun _ => true) (fun z => nV z.2.1) (fun j z H4 hj hs4 hl4 hlen N hN => ?_) (ST.small_line (by omega)) (fun H4 hs4 hl4 => hd H4 hs4 ?_)
  · have h := hN H4 (Same.refl _) hl4
    rw [if_pos rfl] at h
    exact turn z H4 _ _ (hs4 _ _ (ha.tup z (List.mem_of_getElem? hj))) ⟨_, hl4, hlen, h⟩
  · rw [filter_all] at hl4
    rw [hl4, List.map_map]
    rfl
theorem firsts_eq {zs : List Z} {rows : List Row} {l : List Nat} (hm : zs.map (·.2) = rows) (h : rows.map (·.1) = l) : (zs.map fun z => z.2.1) = l := by
  rw [← h, ← hm, List.map_map]
  rfl
abbrev sPeaceful : Stmt := top 19
abbrev sHolding : Stmt := top 20
abbrev sComplete : Stmt := top 21
theorem scPeaceful : FnScope ["beats", "row"] ["beats"] (defScope sPeaceful) := ⟨rfl, rfl, rfl, by decide +kernel, rfl, by decide +kernel, by decide +kernel⟩
theorem scHolding : FnScope ["beats", "row"] ["beats"] (defScope sHolding) := ⟨rfl, rfl, rfl, by decide +kernel, rfl, by decide +kernel, by decide +kernel⟩
theorem scComplete : FnScope ["beats", "row"] ["beats"] (defScope sComplete) := ⟨rfl, rfl, rfl, by decide +kernel, rfl, by decide +kernel, by decide +kernel⟩
theorem complete_len {F : Rc77.Frame} (hn : F.length ≤ 16) : (completeRows F).length ≤ 65536 := by
  have h : (completeRows F).length ≤ (holdRows F).length := List.length_filter_le _ _
  have := hold_len hn
  omega
theorem ok_peaceful {f g1 g2 g3 : Addr} {fd gd1 gd2 gd3 : FuncData} (F : Fun K "peaceful" "peaceful" sPeaceful f fd) (T : Bl mg) (D : DP K mg g1 g2 g3 gd1 gd2 gd3) : FnOk P w K mg base CX0 4 f fd ["beats"] (spNats (fun F => ofKinds F 0) K) := by
  have G3 : FnOk P w K mg base CX0 3 g3 gd3 ["beats"] (spRows (fun F => peaceRows F F.length) K) := ok_peaceRows D.d3.fn T D.d1 D.d2
  refine F.ok scPeaceful (fun vs H Q E h => ?_) (fun cdv A outer s H vs Q E hr h => ?_)
  · obtain ⟨p, F, rfl, _⟩ := h
    rfl
  · obtain ⟨p, F, rfl, hF, hn, hw, k⟩ := h
    refine ⟨_, pss_one (ps_ret (pe_lc (own := [("row", 1)]) rfl scPeaceful.nd (pi_list (pe_call G3 hr rfl D.d3.mg D.d3.fn.kp D.d3.b .nil pass0 (pa_cons (pv 0) pa_nil))) (blkOk_by (by kernel_rfl))
      (fun _ _ _ _ _ => pg_name (i := 1) scPeaceful.nd rfl (Or.inl rfl)) (fun _ _ _ _ _ => pts_nil)
      (fun _ _ _ _ _ => pe_ix (ix_tupK K) (pv 1) pe_int (fun _ _ => rfl)))), ?_⟩
    refine ⟨_, rfl, p, F, rfl, hF, hn, fun r H1 hr1 hs1 hrows => ?_⟩
    obtain ⟨zs, hz, hm⟩ := hrows
    refine ⟨r, rfl, ⟨_, SqL.of hz.lst⟩, fun Df hDf => ?_⟩
    refine lc_firsts hDf hz (rows_len hn hm) (fun z H4 N N2 ht hN => ⟨rfl, yes_do ⟨_, rfl, z.1, _, _, _, rfl, rfl, SqT.of ht, rfl, hN⟩⟩) fun H4 hs4 hl4 => ?_
    rw [firsts_eq hm (peaceful_eq F)] at hl4
    exact k Df H4 (hs1.free hDf) (hs1.trans hs4) hl4
theorem ok_holding {f g1 g2 g3 g4 : Addr} {fd gd1 gd2 gd3 gd4 : FuncData} (F : Fun K "holding" "holding" sHolding f fd) (T : Bl mg) (D : DP K mg g1 g2 g3 gd1 gd2 gd3) (d4 : Def K mg "holding_rows" sHoldRows g4 gd4 ["beats"]) : FnOk P w K mg base CX0 5 f fd ["beats"] (spNats (fun F => ofKinds F 1) K) := by
  have G4 : FnOk P w K mg base CX0 4 g4 gd4 ["beats"] (spRows holdRows K) := ok_holdRows d4.fn T D
  refine F.ok scHolding (fun vs H Q E h => ?_) (fun cdv A outer s H vs Q E hr h => ?_)
  · obtain ⟨p, F, rfl, _⟩ := h
    rfl
  · obtain ⟨p, F, rfl, hF, hn, hw, k⟩ := h
    refine ⟨_, pss_one (ps_ret (pe_lc (own := [("row", 1)]) rfl scHolding.nd (pi_list (pe_call G4 hr rfl d4.mg d4.fn.kp d4.b .nil pass0 (pa_cons (pv 0) pa_nil))) (blkOk_by (by kernel_rfl))
      (fun _ _ _ _ _ => pg_name (i := 1) scHolding.nd rfl (Or.inl rfl)) (fun _ _ _ _ _ => pts_nil)
      (fun _ _ _ _ _ => pe_ix (ix_tupK K) (pv 1) pe_int (fun _ _ => rfl)))), ?_⟩
    refine ⟨_, rfl, p, F, rfl, hF, hn, fun r H1 hr1 hs1 hrows => ?_⟩
    obtain ⟨zs, hz, hm⟩ := hrows
    refine ⟨r, rfl, ⟨_, SqL.of hz.lst⟩, fun Df hDf => ?_⟩
    refine lc_firsts hDf hz (z_len hm (hold_len hn)) (fun z H4 N N2 ht hN => ⟨rfl, yes_do ⟨_, rfl, z.1, _, _, _, rfl, rfl, SqT.of ht, rfl, hN⟩⟩) fun H4 hs4 hl4 => ?_
    rw [firsts_eq hm (holding_eq F)] at hl4
    exact k Df H4 (hs1.free hDf) (hs1.trans hs4) hl4
theorem ok_complete {f g1 g2 g3 g4 g5 g6 : Addr} {fd gd1 gd2 gd3 gd4 gd5 gd6 : FuncData} (F : Fun K "complete" "complete" sComplete f fd) (T : Bl mg) (D : DC K mg g1 g2 g3 g4 g5 gd1 gd2 gd3 gd4 gd5) (d6 : Def K mg "complete_rows" sCompleteRows g6 gd6 ["beats"]) :
    FnOk P w K mg base CX0 6 f fd ["beats"] (spNats (fun F => ofKinds F 2) K) := by
  have G6 : FnOk P w K mg base CX0 5 g6 gd6 ["beats"] (spRows completeRows K) := ok_completeRows d6.fn T D
  refine F.ok scComplete (fun vs H Q E h => ?_) (fun cdv A outer s H vs Q E hr h => ?_)
  · obtain ⟨p, F, rfl, _⟩ := h
    rfl
  · obtain ⟨p, F, rfl, hF, hn, hw, k⟩ := h
    refine ⟨_, pss_one (ps_ret (pe_lc (own := [("row", 1)]) rfl scComplete.nd (pi_list (pe_call G6 hr rfl d6.mg d6.fn.kp d6.b .nil pass0 (pa_cons (pv 0) pa_nil))) (blkOk_by (by kernel_rfl))
      (fun _ _ _ _ _ => pg_name (i := 1) scComplete.nd rfl (Or.inl rfl)) (fun _ _ _ _ _ => pts_nil)
      (fun _ _ _ _ _ => pe_ix (ix_tupK K) (pv 1) pe_int (fun _ _ => rfl)))), ?_⟩
    refine ⟨_, rfl, p, F, rfl, hF, hn, fun r H1 hr1 hs1 hrows => ?_⟩
    obtain ⟨zs, hz, hm⟩ := hrows
    refine ⟨r, rfl, ⟨_, SqL.of hz.lst⟩, fun Df hDf => ?_⟩
    refine lc_firsts hDf hz (z_len hm (complete_len hn)) (fun z H4 N N2 ht hN => ⟨rfl, yes_do ⟨_, rfl, z.1, _, _, _, rfl, rfl, SqT.of ht, rfl, hN⟩⟩) fun H4 hs4 hl4 => ?_
    rw [firsts_eq hm (complete_eq F)] at hl4
    exact k Df H4 (hs1.free hDf) (hs1.trans hs4) hl4
abbrev sFull : Stmt := top 22
theorem scFull : FnScope ["beats"] ["beats"] (defScope sFull) := ⟨rfl, rfl, rfl, by decide +kernel, rfl, by decide +kernel, by decide +kernel⟩
theorem kinds_len {F : Rc77.Frame} (k : Nat) (hn : F.length ≤ 16) : (ofKinds F k).length ≤ 65536 := by
  unfold ofKinds subsets
  have h := List.length_filter_le (ofKind F k) (List.range (2 ^ F.length))
  rw [List.length_range] at h
  have : 2 ^ F.length ≤ 2 ^ 16 := Nat.pow_le_pow_right (by decide) hn
  omega
theorem ok_full {f g1 g2 g3 g4 g5 g6 g7 : Addr} {fd gd1 gd2 gd3 gd4 gd5 gd6 gd7 : FuncData} (F : Fun K "full" "full" sFull f fd) (T : Bl mg) (D : DP K mg g1 g2 g3 gd1 gd2 gd3) (d4 : Def K mg "holding_rows" sHoldRows g4 gd4 ["beats"])
    (d5 : Def K mg "holding" sHolding g5 gd5 ["beats"]) (d6 : Def K mg "utmost" sUtmost g6 gd6 ["rising"]) (d7 : Def K mg "is_within_some" sWithin g7 gd7 ["members", "others"]) : FnOk P w K mg base CX0 6 f fd ["beats"] (spNats (fun F => ofKinds F 3) K) := by
  have G5 : FnOk P w K mg base CX0 5 g5 gd5 ["beats"] (spNats (fun F => ofKinds F 1) K) := ok_holding d5.fn T D d4
  have G6 : FnOk P w K mg base CX0 2 g6 gd6 ["rising"] (spUtmost K) := ok_utmost d6.fn T d7
  refine F.ok scFull (fun vs H Q E h => ?_) (fun cdv A outer s H vs Q E hr h => ?_)
  · obtain ⟨p, F, rfl, _⟩ := h
    rfl
  · obtain ⟨p, F, rfl, hF, hn, hw, k⟩ := h
    have hr2 : Room 2 _ := hr.mono (by decide)
    refine ⟨_, pss_one (ps_ret (pe_call G6 hr2 rfl d6.mg d6.fn.kp d6.b .nil pass0 (pa_cons (pe_call G5 hr rfl d5.mg d5.fn.kp d5.b .nil pass0 (pa_cons (pv 0) pa_nil)) pa_nil))), ?_⟩
    refine ⟨_, rfl, p, F, rfl, hF, hn, hw, fun r H1 hr1 hs1 hl1 => ?_⟩
    refine ⟨r, _, rfl, SqL.of hl1, kinds_len 1 hn, fun r2 H2 hr2' hs2 hl2 => ?_⟩
    rw [full_all] at hl2
    exact k r2 H2 (hs1.free hr2') (hs1.trans hs2) hl2
abbrev sStable : Stmt := top 23
theorem scStable : FnScope ["beats", "whole", "row"] ["beats"] (defScope sStable) := ⟨rfl, rfl, rfl, by decide +kernel, rfl, by decide +kernel, by decide +kernel⟩
theorem ok_stable {f g1 g2 g3 g4 g5 : Addr} {fd gd1 gd2 gd3 gd4 gd5 : FuncData} (F : Fun K "stable" "stable" sStable f fd) (T : Bl mg) (D : DP K mg g1 g2 g3 gd1 gd2 gd3) (d4 : Def K mg "everyone" sEveryone g4 gd4 ["beats"])
    (d5 : Def K mg "reach" sReach g5 gd5 ["row"]) : FnOk P w K mg base CX0 4 f fd ["beats"] (spNats (fun F => ofKinds F 4) K) := by
  have G3 : FnOk P w K mg base CX0 3 g3 gd3 ["beats"] (spRows (fun F => peaceRows F F.length) K) := ok_peaceRows D.d3.fn T D.d1 D.d2
  have G4 : FnOk P w K mg base CX0 1 g4 gd4 ["beats"] (spEveryone K) := ok_everyone d4.fn T
  have G5 : FnOk P w K mg base CX0 1 g5 gd5 ["row"] spReach := ok_reach d5.fn
  refine F.ok scStable (fun vs H Q E h => ?_) (fun cdv A outer s H vs Q E hr h => ?_)
  · obtain ⟨p, F, rfl, _⟩ := h
    rfl
  · obtain ⟨p, F, rfl, hF, hn, hw, k⟩ := h
    have hr1 : Room 1 _ := hr.mono (by decide)
    refine ⟨_, pss_cons (ps_set (i := 1) scStable.nd rfl (Or.inr rfl) (pe_call G4 hr1 rfl d4.mg d4.fn.kp d4.b .nil pass0 (pa_cons (pv 0) pa_nil)))
      (pss_one (ps_ret (pe_lc (own := [("row", 2)]) rfl scStable.nd (pi_list (pe_call G3 hr rfl D.d3.mg D.d3.fn.kp D.d3.b .nil pass0 (pa_cons (pv 0) pa_nil))) (blkOk_by (by kernel_rfl))
      (fun _ _ _ _ _ => pg_name (i := 2) scStable.nd rfl (Or.inl rfl))
      (fun _ _ _ _ _ => pts_one (pt_cmpR op_eq (pe_call G5 hr1 rfl d5.mg d5.fn.kp d5.b .nil pass0 (pa_cons (pv 2) pa_nil)) (pv 1) (nomark _)))
      (fun _ _ _ _ _ => pe_ix (ix_tupK K) (pv 2) pe_int (fun _ _ => rfl))))), ?_⟩
    refine ⟨_, rfl, p, F, rfl, hF, hn, ?_⟩
    refine ⟨_, rfl, p, F, rfl, hF, hn, fun r H1 hr1' hs1 hrows => ?_⟩
    obtain ⟨zs, hz, hm⟩ := hrows
    have hm : zs.map (·.2) = peaceRows F F.length := hm
    refine ⟨r, rfl, ⟨_, SqL.of hz.lst⟩, fun Df hDf => ?_⟩
    refine lc_listV (h := zV) hDf (SqL.of hz.lst) (fun z => reachRow z.2 == everyone F) (fun z => nV z.2.1) (fun j z H4 hj hs4 hl4 hlen N hN => ?_) (ST.small_line (by have := rows_len hn hm; omega)) (fun H4 hs4 hl4 => ?_)
    · have ht : H4 z.1 = some (.tup (rowV z.2)) := hs4 _ _ (hz.tup z (List.mem_of_getElem? hj))
      refine ⟨rfl, _, rfl, z.1, z.2, rfl, ht, _, rfl, rfl, _, rfl, ?_⟩
      have h := hN H4 (Same.refl _) hl4
      refine iteE2 (c := reachRow z.2 == everyone F) (dec_nV _ _) (fun hc => ?_) (fun hc => ?_)
      · rw [hc, if_pos rfl] at h
        exact ⟨_, rfl, z.1, _, _, _, rfl, rfl, SqT.of ht, rfl, _, hl4, hlen, h⟩
      · rw [hc, if_neg Bool.false_ne_true] at h
        exact h
    · refine k Df H4 (hs1.free hDf) (hs1.trans hs4) ?_
      show H4 Df = some (.lst ((ofKinds F 4).map nV))
      rw [hl4, ← stable_all hw]
      unfold stableOf
      rw [← hm, List.filter_map, List.map_map, List.map_map]
      rfl
end
end Bt

set_option linter.all false
set_option maxRecDepth 100000
set_option Elab.async false
namespace Bt
open PySem L2 Rc77 Ar
section
variable {P : Program} {w : World} {K : PySem.W.Frag} {mg : Str → Option Value} {base : Heap}
abbrev sFar : Stmt := top 24
theorem scFar : FnScope ["beats", "rows", "farthest", "row"] ["beats"] (defScope sFar) := ⟨rfl, rfl, rfl, by decide +kernel, rfl, by decide +kernel, by decide +kernel⟩
theorem inV_nats (m : Nat) (l : List Nat) : inV (nV m) (l.map nV) = l.contains m := by
  unfold inV
  rw [List.any_map]
  induction l with
  | nil => rfl
  | cons a l ih =>
    rw [List.any_cons, List.contains_cons, ih]
    congr 1
    show ((a : Int) == (m : Int)) = (m == a)
    apply Bool.eq_iff_iff.mpr
    simp
    omega
theorem flat_nats (l : List Nat) : (l.map nV).all flatV = true := by
  rw [List.all_map, List.all_eq_true]
  exact fun _ _ => rfl
theorem reach_small {F : Rc77.Frame} (hw : Wf F) (hn : F.length ≤ 16) {r : Row} (h : r ∈ completeRows F) : reachRow r < 65536 := by
  rw [complete_all] at h
  obtain ⟨s, hs, rfl⟩ := List.mem_map.mp h
  have hs := mem_subsets.mp (List.mem_filter.mp hs).1
  have h2 : reachRow (rowOf F s) < 2 ^ F.length := or_lt hs (hw.beatenBy_lt s)
  have : 2 ^ F.length ≤ 2 ^ 16 := Nat.pow_le_pow_right (by decide) hn
  omega
theorem nats_of_ints : ∀ (ns : List Int), (∀ v ∈ ns, 0 ≤ v) → (ns.map Int.toNat).map nV = ns.map V.int
  | [], _ => rfl
  | v :: ns, h => by
    rw [List.map_cons, List.map_cons, List.map_cons, nats_of_ints ns fun x hx => h x (List.mem_cons_of_mem _ hx)]
    have := h v (List.mem_cons_self ..)
    show V.int ((v.toNat : Nat) : Int) :: _ = _
    rw [show ((v.toNat : Nat) : Int) = v by omega]
theorem ok_far {f g1 g2 g3 g4 g5 g6 g7 g8 g9 : Addr} {fd gd1 gd2 gd3 gd4 gd5 gd6 gd7 gd8 gd9 : FuncData} (F : Fun K "far" "far" sFar f fd) (T : Bl mg) (D : DC K mg g1 g2 g3 g4 g5 gd1 gd2 gd3 gd4 gd5) (d6 : Def K mg "complete_rows" sCompleteRows g6 gd6 ["beats"])
    (d7 : Def K mg "utmost" sUtmost g7 gd7 ["rising"]) (d8 : Def K mg "is_within_some" sWithin g8 gd8 ["members", "others"]) (d9 : Def K mg "reach" sReach g9 gd9 ["row"]) : FnOk P w K mg base CX0 6 f fd ["beats"] (spNats (fun F => ofKinds F 5) K) := by
  have G6 : FnOk P w K mg base CX0 5 g6 gd6 ["beats"] (spRows completeRows K) := ok_completeRows d6.fn T D
  have G7 : FnOk P w K mg base CX0 2 g7 gd7 ["rising"] (spUtmost K) := ok_utmost d7.fn T d8
  have G9 : FnOk P w K mg base CX0 1 g9 gd9 ["row"] spReach := ok_reach d9.fn
  refine F.ok scFar (fun vs H Q E h => ?_) (fun cdv A outer s H vs Q E hr h => ?_)
  · obtain ⟨p, F, rfl, _⟩ := h
    rfl
  · obtain ⟨p, F, rfl, hF, hn, hw, k⟩ := h
    have hr1 : Room 1 _ := hr.mono (by decide)
    have hr2 : Room 2 _ := hr.mono (by decide)
    refine ⟨_, pss_cons (ps_set (i := 1) scFar.nd rfl (Or.inl rfl) (pe_call G6 hr rfl d6.mg d6.fn.kp d6.b .nil pass0 (pa_cons (pv 0) pa_nil)))
      (pss_cons (ps_set (i := 2) scFar.nd rfl (Or.inr rfl) (pe_call G7 hr2 rfl d7.mg d7.fn.kp d7.b .nil pass0 (pa_cons (pe_callB (cr_sortedSet rfl) (by rfl) T.sorted bootSorted (pa_cons (pe_callTy (cr_set rfl) rfl T.set bootSet (pa_cons
        (pe_lc (own := [("row", 3)]) rfl scFar.nd (pi_list (pv 1)) (blkOk_by (by kernel_rfl)) (fun _ _ _ _ _ => pg_name (i := 3) scFar.nd rfl (Or.inl rfl)) (fun _ _ _ _ _ => pts_nil)
          (fun _ _ _ _ _ => pe_call G9 hr1 rfl d9.mg d9.fn.kp d9.b .nil pass0 (pa_cons (pv 3) pa_nil))) pa_nil)) pa_nil)) pa_nil)))
      (pss_one (ps_ret (pe_lc (own := [("row", 3)]) rfl scFar.nd (pi_list (pv 1)) (blkOk_by (by kernel_rfl)) (fun _ _ _ _ _ => pg_name (i := 3) scFar.nd rfl (Or.inl rfl))
        (fun _ _ _ _ _ => pts_one (pt_cmpR (op_inK K) (pe_call G9 hr1 rfl d9.mg d9.fn.kp d9.b .nil pass0 (pa_cons (pv 3) pa_nil)) (pv 2) (by with_unfolding_all rfl)))
        (fun _ _ _ _ _ => pe_ix (ix_tupK K) (pv 3) pe_int (fun _ _ => rfl)))))), ?_⟩
    refine ⟨_, rfl, p, F, rfl, hF, hn, fun r H1 hr1' hs1 hrows => ?_⟩
    obtain ⟨zs, hz, hm⟩ := hrows
    have hzl : zs.length ≤ 65536 := z_len hm (complete_len hn)
    refine ⟨_, rfl, r, rfl, ⟨_, SqL.of hz.lst⟩, fun D1 hD1 => ?_⟩
    refine lc_listV (h := zV) hD1 (SqL.of hz.lst) (fun _ => true) (fun z => nV (reachRow z.2)) (fun j z H4 hj hs4 hl4 hlen N hN => ?_) (ST.small_line (by omega)) (fun H4 hs4 hl4 => ?_)
    · have ht : H4 z.1 = some (.tup (rowV z.2)) := hs4 _ _ (hz.tup z (List.mem_of_getElem? hj))
      have h := hN H4 (Same.refl _) hl4
      rw [if_pos rfl] at h
      exact ⟨rfl, yes_do ⟨_, rfl, z.1, z.2, rfl, ht, _, hl4, hlen, h⟩⟩
    · rw [filter_all] at hl4
      have el : (zs.map fun z => nV (reachRow z.2)) = (zs.map fun z => ((reachRow z.2 : Nat) : Int)).map V.int := by
        rw [List.map_map]
        rfl
      rw [el] at hl4
      refine ⟨D1, _, rfl, SqL.of hl4, by rw [List.length_map]; exact hzl, fun v hv => ?_, fun q hq => ?_⟩
      · obtain ⟨z, hz', rfl⟩ := List.mem_map.mp hv
        have : z.2 ∈ completeRows F := by rw [← hm]; exact List.mem_map.mpr ⟨z, hz', rfl⟩
        have := reach_small hw hn this
        omega
      · refine ⟨q, _, rfl, upd_same, by rw [List.length_map]; exact hzl, fun l ns' hl hmem hsort hlen => ?_⟩
        have hs5 : Same H1 (upd (upd H4 q (setO w q (zs.map fun z => ((reachRow z.2 : Nat) : Int)))) l (.lst (ns'.map V.int))) := hs4.trans ((Same.add hq).trans (Same.add hl))
        have hnn : ∀ v ∈ ns', 0 ≤ v := fun v hv => by
          obtain ⟨z, _, rfl⟩ := List.mem_map.mp ((hmem v).mp hv)
          omega
        have eR := nats_of_ints ns' hnn
        refine ⟨l, ns'.map Int.toNat, rfl, SqL.of (by rw [upd_same, eR]), by rw [List.length_map]; rw [List.length_map] at hlen; omega, fun Dk H6 hDk hs6 hl6 => ?_⟩
        have hRm : ∀ m, m ∈ ns'.map Int.toNat ↔ m ∈ (completeRows F).map reachRow := fun m => by
          rw [← hm, List.map_map, List.mem_map, List.mem_map]
          constructor
          · rintro ⟨v, hv, rfl⟩
            obtain ⟨z, hz', e⟩ := List.mem_map.mp ((hmem v).mp hv)
            exact ⟨z, hz', by rw [← e]; rfl⟩
          · rintro ⟨z, hz', rfl⟩
            exact ⟨((reachRow z.2 : Nat) : Int), (hmem _).mpr (List.mem_map.mpr ⟨z, hz', rfl⟩), rfl⟩
        have hRs : (ns'.map Int.toNat).Pairwise (· ≤ ·) := by
          rw [List.pairwise_map]
          exact hsort.imp fun h => by omega
        have hz6 : ZAt H6 r zs := (hz.same hs5).same hs6
        refine ⟨_, rfl, r, rfl, ⟨_, SqL.of hz6.lst⟩, fun D2 hD2 => ?_⟩
        refine lc_listV (h := zV) hD2 (SqL.of hz6.lst) (fun z => (utmost (ns'.map Int.toNat)).contains (reachRow z.2)) (fun z => nV z.2.1) (fun j z H7 hj hs7 hl7 hlen7 N hN => ?_) (ST.small_line (by omega)) (fun H7 hs7 hl7 => ?_)
        · have ht : H7 z.1 = some (.tup (rowV z.2)) := hs7 _ _ (hz6.tup z (List.mem_of_getElem? hj))
          refine ⟨rfl, _, rfl, z.1, z.2, rfl, ht, _, rfl, Dk, _, rfl, .inl (SqL.of (hs7 _ _ hl6)), rfl, flat_nats _, _, rfl, ?_⟩
          have h := hN H7 (Same.refl _) hl7
          refine iteE2 (c := (utmost (ns'.map Int.toNat)).contains (reachRow z.2)) (inV_nats _ _) (fun hc => ?_) (fun hc => ?_)
          · rw [hc, if_pos rfl] at h
            exact ⟨_, rfl, z.1, _, _, _, rfl, rfl, SqT.of ht, rfl, _, hl7, hlen7, h⟩
          · rw [hc, if_neg Bool.false_ne_true] at h
            exact h
        · have hs07 := hs1.trans (hs5.trans hs6)
          refine k D2 H7 (hs07.free hD2) (hs07.trans hs7) ?_
          show H7 D2 = some (.lst ((ofKinds F 5).map nV))
          rw [hl7, ← far_all' hw _ hRs hRm]
          unfold farOf
          rw [← hm, List.filter_map, List.map_map, List.map_map]
          rfl
end
end Bt

set_option linter.all false
set_option maxRecDepth 100000
set_option Elab.async false
namespace Bt
open PySem L2 Rc77 Ar
section
variable {P : Program} {w : World} {K : PySem.W.Frag} {mg : Str → Option Value} {base : Heap}
abbrev sGreat : Stmt := top 25
theorem scGreat : FnScope ["beats", "barred", "whole", "row", "a"] ["beats"] (defScope sGreat) := ⟨rfl, rfl, rfl, by decide +kernel, rfl, by decide +kernel, by decide +kernel⟩
theorem ok_great {f g1 g2 g3 g4 g5 : Addr} {fd gd1 gd2 gd3 gd4 gd5 : FuncData} (F : Fun K "great" "great" sGreat f fd) (T : Bl mg) (D : DP K mg g1 g2 g3 gd1 gd2 gd3) (d4 : Def K mg "everyone" sEveryone g4 gd4 ["beats"])
    (d5 : Def K mg "reach" sReach g5 gd5 ["row"]) : FnOk P w K mg base CX0 4 f fd ["beats"] (spNats (fun F => ofKinds F 6) K) := by
  have G3 : FnOk P w K mg base CX0 3 g3 gd3 ["beats"] (spRows (fun F => peaceRows F F.length) K) := ok_peaceRows D.d3.fn T D.d1 D.d2
  have G4 : FnOk P w K mg base CX0 1 g4 gd4 ["beats"] (spEveryone K) := ok_everyone d4.fn T
  have G5 : FnOk P w K mg base CX0 1 g5 gd5 ["row"] spReach := ok_reach d5.fn
  refine F.ok scGreat (fun vs H Q E h => ?_) (fun cdv A outer s H vs Q E hr h => ?_)
  · obtain ⟨p, F, rfl, _⟩ := h
    rfl
  · obtain ⟨p, F, rfl, hF, hn, hw, k⟩ := h
    have hr1 : Room 1 _ := hr.mono (by decide)
    refine ⟨_, pss_cons (ps_set (i := 1) scGreat.nd rfl (Or.inr rfl) (pe_callB (cr_sum rfl) (by rfl) T.sum PyProof.Rows.boot_sum (pa_cons
      (pe_lc (own := [("a", 4)]) rfl scGreat.nd (pi_range1 rfl T.range (pa_cons (pe_callB call_len_seq (by rfl) T.len PySem.boot_len (pa_cons (pv 0) pa_nil)) pa_nil)) (blkOk_by (by kernel_rfl))
        (fun _ _ _ _ _ => pg_name (i := 4) scGreat.nd rfl (Or.inl rfl))
        (fun _ _ _ _ _ => pts_one (pt_int (pe_op op_and (pe_op op_shr (pe_ix (ix_listK K) (pv 0) (pv 4) (fun _ _ => rfl)) (pv 4)) pe_int)))
        (fun _ _ _ _ _ => pe_op op_shl pe_int (pv 4))) pa_nil)))
      (pss_cons (ps_set (i := 2) scGreat.nd rfl (Or.inr rfl) (pe_call G4 hr1 rfl d4.mg d4.fn.kp d4.b .nil pass0 (pa_cons (pv 0) pa_nil)))
      (pss_one (ps_ret (pe_lc (own := [("row", 3)]) rfl scGreat.nd (pi_list (pe_call G3 hr rfl D.d3.mg D.d3.fn.kp D.d3.b .nil pass0 (pa_cons (pv 0) pa_nil))) (blkOk_by (by kernel_rfl))
      (fun _ _ _ _ _ => pg_name (i := 3) scGreat.nd rfl (Or.inl rfl))
      (fun _ _ _ _ _ => pts_one (pt_cmpR op_eq (pe_op op_or (pe_op op_or (pe_call G5 hr1 rfl d5.mg d5.fn.kp d5.b .nil pass0 (pa_cons (pv 3) pa_nil)) (pe_ix (ix_tupK K) (pv 3) pe_int (fun _ _ => rfl))) (pv 1)) (pv 2) (nomark _)))
      (fun _ _ _ _ _ => pe_ix (ix_tupK K) (pv 3) pe_int (fun _ _ => rfl)))))), ?_⟩
    refine ⟨_, rfl, p, _, rfl, .inl hF, F.length, by rw [List.length_map], by omega, by omega, fun D0 hD0 => ?_⟩
    refine lc_rangeV (n := F.length) hD0 (by omega) (fun b => beats F b b) (fun b => nV (2 ^ b)) (fun i H1 hi hs hl N hN => ?_) fun H1 hs hl => ?_
    · refine ⟨rfl, _, rfl, _, rfl, p, _, _, _, rfl, rfl, hs.seq hF, at_of (j := i) (by omega) (frame_at hi), _, rfl, _, _, rfl, rfl, (by omega), _, _, rfl, rfl, _, rfl, ?_⟩
      have h := hN H1 (Same.refl _) hl
      refine iteE2 (c := beats F i i) ?_ (fun hb => ?_) (fun hb => ?_)
      · rw [show (0 + (i : Int)).toNat = i by omega]
        exact shr_bit _ _
      · rw [hb, if_pos rfl] at h
        refine ⟨_, rfl, _, _, rfl, rfl, ⟨by omega, by omega, by decide⟩, _, hl, small_len hi hn, ?_⟩
        dsimp only
        rw [pow_one]
        exact h
      · rw [hb, if_neg Bool.false_ne_true] at h
        exact h
    · refine ⟨D0, _, rfl, SqL.of (by rw [hl, map_nV]), ?_⟩
      rw [sum_bits]
      refine ⟨_, rfl, p, F, rfl, hs.seq hF, hn, ?_⟩
      refine ⟨_, rfl, p, F, rfl, hs.seq hF, hn, fun r H2 hr1' hs2 hrows => ?_⟩
      obtain ⟨zs, hz, hm⟩ := hrows
      have hm : zs.map (·.2) = peaceRows F F.length := hm
      refine ⟨r, rfl, ⟨_, SqL.of hz.lst⟩, fun Df hDf => ?_⟩
      refine lc_listV (h := zV) hDf (SqL.of hz.lst) (fun z => (reachRow z.2 ||| z.2.2.2) ||| barred F == everyone F) (fun z => nV z.2.1) (fun j z H4 hj hs4 hl4 hlen N hN => ?_) (ST.small_line (by have := rows_len hn hm; omega)) (fun H4 hs4 hl4 => ?_)
      · have ht : H4 z.1 = some (.tup (rowV z.2)) := hs4 _ _ (hz.tup z (List.mem_of_getElem? hj))
        refine ⟨rfl, _, rfl, z.1, z.2, rfl, ht, _, rfl, z.1, _, _, _, rfl, rfl, SqT.of ht, rfl, _, _, rfl, rfl, _, rfl, _, _, rfl, rfl, _, rfl, rfl, _, rfl, ?_⟩
        have h := hN H4 (Same.refl _) hl4
        refine iteE2 (c := (reachRow z.2 ||| z.2.2.2) ||| barred F == everyone F) ?_ (fun hc => ?_) (fun hc => ?_)
        · have e : V.int (Builtin.bitOr (Builtin.bitOr ((reachRow z.2 : Nat) : Int) ((z.2.2.2 : Nat) : Int)) ((barred F : Nat) : Int)) = nV ((reachRow z.2 ||| z.2.2.2) ||| barred F) := by
            rw [nV_or, or_nat]
          exact (congrArg (fun v => decide (v = nV (everyone F))) e).trans (dec_nV _ _)
        · rw [hc, if_pos rfl] at h
          exact ⟨_, rfl, z.1, _, _, _, rfl, rfl, SqT.of ht, rfl, _, hl4, hlen, h⟩
        · rw [hc, if_neg Bool.false_ne_true] at h
          exact h
      · have hs02 := hs.trans hs2
        refine k Df H4 (hs02.free hDf) (hs02.trans hs4) ?_
        show H4 Df = some (.lst ((ofKinds F 6).map nV))
        rw [hl4, ← great_all hw]
        unfold greatOf
        rw [← hm, List.filter_map, List.map_map, List.map_map]
        rfl
abbrev sIsKind : Stmt := top 29
abbrev sSetsOf : Stmt := top 30
/-- the module's tuple KINDS: seven defs -/
def KindsAt (K : PySem.W.Frag) (mg : Str → Option Value) (fs : List Addr) : Prop := ∃ a, mg "KINDS" = some (.ref a) ∧ (∀ H, SqT K H a (fs.map V.ref)) ∧ fs.length = 7
def spIsKind : Sp := fun vs H Q _ => ∃ k : Int, vs = [.int k] ∧ Q (.bl (decide (0 ≤ k) && decide (k < 7))) H
theorem scIsKind : FnScope ["kind"] ["kind"] (defScope sIsKind) := ⟨rfl, rfl, rfl, by decide +kernel, rfl, by decide +kernel, by decide +kernel⟩
theorem ok_isKind {f : Addr} {fd : FuncData} {fs : List Addr} (F : Fun K "is_kind" "is_kind" sIsKind f fd) (T : Bl mg) (KA : KindsAt K mg fs) : FnOk P w K mg base CX0 1 f fd ["kind"] spIsKind := by
  obtain ⟨a, ha, hK, h7⟩ := KA
  refine F.ok scIsKind (fun vs H Q E h => ?_) (fun cdv A outer s H vs Q E hr h => ?_)
  · obtain ⟨k, rfl, _⟩ := h
    rfl
  · obtain ⟨k, rfl, q⟩ := h
    refine ⟨_, pss_one (ps_ret (pe_chain op_le op_lt pe_int (pv 0) (pe_callB call_len_seq (by rfl) T.len PySem.boot_len (pa_cons (pe_glob (v := .ref a) rfl ha rfl) pa_nil)))), ?_⟩
    refine ⟨_, rfl, _, _, rfl, rfl, _, rfl, ?_⟩
    refine iteE2 (c := decide (0 ≤ k)) rfl (fun hc => ?_) (fun hc => ?_)
    · refine ⟨a, _, rfl, .inr (hK H), _, _, rfl, rfl, ?_⟩
      rw [hc, Bool.true_and] at q
      rw [List.length_map, h7]
      exact q
    · rw [hc, Bool.false_and] at q
      exact q
/-- one function for each kind -/
def KindFn (P : Program) (w : World) (K : PySem.W.Frag) (mg : Str → Option Value) (base : Heap) (f : Addr) (k : Nat) : Prop :=
  ∃ fd, FnOk P w K mg base CX0 6 f fd ["beats"] (spNats (fun F => ofKinds F k) K) ∧ PySem.W.keepIn K (.ref f) = true ∧ Binds K fd ["beats"] []
def spSetsOf (K : PySem.W.Frag) : Sp := fun vs H Q _ => ∃ (p : Addr) (F : Rc77.Frame) (k : Nat), vs = [.ref p, .int (k : Int)] ∧ k < 7 ∧ FrAt K H p F ∧ F.length ≤ 16 ∧ Wf F ∧ ∀ D H', H D = none → Same H H' → H' D = some (.lst ((ofKinds F k).map nV)) → Q (.ref D) H'
theorem scSetsOf : FnScope ["beats", "kind"] ["beats", "kind"] (defScope sSetsOf) := ⟨rfl, rfl, rfl, by decide +kernel, rfl, by decide +kernel, by decide +kernel⟩
theorem ok_setsOf {f : Addr} {fd : FuncData} {fs : List Addr} (F : Fun K "sets_of_kind" "sets_of_kind" sSetsOf f fd) (KA : KindsAt K mg fs) (KF : ∀ k g, fs[k]? = some g → KindFn P w K mg base g k) : FnOk P w K mg base CX0 7 f fd ["beats", "kind"] (spSetsOf K) := by
  obtain ⟨a, ha, hK, h7⟩ := KA
  refine F.ok scSetsOf (fun vs H Q E h => ?_) (fun cdv A outer s H vs Q E hr h => ?_)
  · obtain ⟨p, F, k, rfl, _⟩ := h
    rfl
  · obtain ⟨p, F, k, rfl, hk, hF, hn, hw, q⟩ := h
    refine ⟨_, pss_one (ps_ret (pe_callV (k := 6) (pe_ix (ix_tupK K) (pe_glob (v := .ref a) rfl ha rfl) (pv 1) (fun _ _ => rfl)) hr (pa_cons (pv 0) pa_nil))), ?_⟩
    have hlt : k < fs.length := by omega
    have hg : fs[k]? = some fs[k] := List.getElem?_eq_getElem hlt
    obtain ⟨gd, G, kp, b⟩ := KF k _ hg
    refine ⟨_, rfl, a, _, _, _, rfl, rfl, hK H, at_of (j := k) rfl (by rw [List.getElem?_map, hg]; rfl), fs[k], gd, _, _, rfl, G, kp, b, _, rfl, p, F, rfl, hF, hn, hw, q⟩
end
end Bt

set_option linter.all false
set_option maxRecDepth 100000
set_option Elab.async false
namespace Bt
open PySem L2 Rc77 Ar
abbrev cArguments : Stmt := top 39
abbrev sInit : Stmt := inClass cArguments 0
abbrev sHas : Stmt := inClass cArguments 12
abbrev sBecome : Stmt := inClass cArguments 14
abbrev sOfKind : Stmt := inClass cArguments 15
theorem bf : ¬ (("beats" : Str) = "found") := by decide +kernel
def flds (b d : Addr) : List (Str × V) := putF "found" (.ref d) (putF "beats" (.ref b) [])
theorem flds_eq (b d : Addr) : flds b d = ([("beats", V.ref b), ("found", V.ref d)] : List (Str × V)) := by
  show (if ("beats" : Str) = "found" then [(("beats" : Str), V.ref d)] else (("beats" : Str), V.ref b) :: putF "found" (V.ref d) []) = ([("beats", V.ref b), ("found", V.ref d)] : List (Str × V))
  rw [if_neg bf]
  rfl
theorem flds_found (b d : Addr) : (flds b d).lookup ("found" : Str) = some (.ref d) := by
  unfold flds
  rw [lookup_putF, if_pos rfl]
theorem flds_beats (b d : Addr) : (flds b d).lookup ("beats" : Str) = some (.ref b) := by
  unfold flds
  rw [lookup_putF, if_neg bf, lookup_putF, if_pos rfl]
theorem flds_no (b d : Addr) {m : Str} (h1 : ¬ m = "found") (h2 : ¬ m = "beats") : (flds b d).lookup m = none := by
  unfold flds
  rw [lookup_putF, if_neg h1, lookup_putF, if_neg h2]
  rfl
theorem flds_put (b d b' d' : Addr) : putF "found" (.ref d') (putF "beats" (.ref b') (flds b d)) = flds b' d' := by
  rw [flds_eq, flds_eq]
  simp only [putF, if_true, if_neg bf]
/-- Arguments at p, its frame F at b, at d what is known of its kinds: at most c of them -/
structure ArgsAt (C : Addr) (Z : Addr → Prop) (H : Hp) (p b d : Addr) (F : Rc77.Frame) (kvs : List (Key × V)) (c : Nat) : Prop where
  ob : ∃ dx, H p = some (.ins C dx (flds b d))
  bt : H b = some (.lst (F.map nV))
  dc : H d = some (.dK kvs)
  ch : ∀ (k : Int) (v : V), valV kvs (Sum.inl k) = some v → ∃ (j : Nat) (l : Addr), k = j ∧ v = .ref l ∧ H l = some (.lst ((ofKinds F j).map nV)) ∧ ¬ Z l
  sz : kvs.length ≤ c
  len : F.length ≤ 16
  wf : Wf F
  zb : ¬ Z b
  zh : ∀ x, Z x → ∃ xs, H x = some (.lst xs)
structure Cl (K : PySem.W.Frag) (mg : Str → Option Value) (C : Addr) : Prop where
  cl : Cls K C
  nB : NoAttr K C "beats"
  nF : NoAttr K C "found"
section
variable {P : Program} {w : World} {K : PySem.W.Frag} {mg : Str → Option Value} {base : Heap} {Z : Addr → Prop}
def spInit (C : Addr) (Z : Addr → Prop) : Sp := fun vs H Q _ => ∃ (p dx : Addr), vs = [.ref p] ∧ H p = some (.ins C dx []) ∧ (∀ x, ¬ Z x) ∧ ∀ (b d : Addr) (H' : Hp), ArgsAt C Z H' p b d [] [] 0 → (∀ x o, H x = some o → x ≠ p → H' x = some o) → Q .non H'
theorem scInit : FnScope ["self"] ["self"] (defScope sInit) := ⟨rfl, rfl, rfl, by decide +kernel, rfl, by decide +kernel, by decide +kernel⟩
theorem ok_init {f C : Addr} {fd : FuncData} (F : Fun K "__init__" "Arguments.__init__" sInit f fd) (T : Cl K mg C) : FnOk P w K mg base CX0 1 f fd ["self"] (spInit C Z) := by
  refine F.ok scInit (fun vs H Q E h => ?_) (fun cdv A outer s H vs Q E hr h => ?_)
  · obtain ⟨p, dx, rfl, _⟩ := h
    rfl
  · obtain ⟨p, dx, rfl, hp, hZ, k⟩ := h
    refine ⟨_, pss_cons (ps_fld (pv 0) (pe_lst pa_nil) rfl) (pss_one (ps_fld (pv 0) pe_dnewK rfl)), ?_⟩
    refine ⟨(by show 0 ≤ sizeLine; decide), fun b hb => ?_⟩
    have npb : p ≠ b := ne_of_none hp hb
    refine ⟨_, rfl, p, C, dx, _, rfl, (by rw [upd_ne npb]; exact hp), T.cl, T.nB, (by show 0 < 1000; decide), fun d hd => ?_⟩
    have npd : p ≠ d := fun e => by rw [← e, upd_same] at hd; cases hd
    have nbd : b ≠ d := fun e => by rw [← e, upd_ne (Ne.symm npb), upd_same] at hd; cases hd
    have hd0 : H d = none := by rw [upd_ne (Ne.symm npd), upd_ne (Ne.symm nbd)] at hd; exact hd
    refine ⟨_, rfl, p, C, dx, _, rfl, (by rw [upd_ne npd, upd_same]), T.cl, T.nF, (by show 1 < 1000; decide), ?_⟩
    refine k b d _ ⟨⟨dx, upd_same⟩, ?_, ?_, (fun k v h => nomatch h), Nat.le_refl _, by decide, (fun m hm => nomatch hm), hZ _, fun x hx => absurd hx (hZ x)⟩ fun x o e hx => ?_
    · rw [upd_ne (Ne.symm npb), upd_ne nbd, upd_ne (Ne.symm npb), upd_same]
      rfl
    · rw [upd_ne (Ne.symm npd), upd_same]
    · rw [upd_ne hx, upd_ne (ne_of_none e hd0), upd_ne hx, upd_ne (ne_of_none e hb)]
      exact e
def spBecome (C : Addr) (Z : Addr → Prop) : Sp := fun vs H Q _ => ∃ (p dx b0 d0 nb : Addr) (F : Rc77.Frame), vs = [.ref p, .ref nb] ∧ H p = some (.ins C dx (flds b0 d0)) ∧ H nb = some (.lst (F.map nV)) ∧ F.length ≤ 16 ∧ Wf F ∧ ¬ Z nb ∧ (∀ x, Z x → ∃ xs, H x = some (.lst xs)) ∧
  ∀ (d : Addr) (H' : Hp), ArgsAt C Z H' p nb d F [] 0 → (∀ x o, H x = some o → x ≠ p → H' x = some o) → Q .non H'
theorem scBecome : FnScope ["self", "beats"] ["self", "beats"] (defScope sBecome) := ⟨rfl, rfl, rfl, by decide +kernel, rfl, by decide +kernel, by decide +kernel⟩
theorem putF_len (f : Str) (v : V) : ∀ fs : List (Str × V), (putF f v fs).length ≤ fs.length + 1
  | [] => Nat.le_refl _
  | (g, x) :: r => by
    show (if g = f then (g, v) :: r else (g, x) :: putF f v r).length ≤ _
    split
    · rw [List.length_cons, List.length_cons]; omega
    · rw [List.length_cons, List.length_cons]; have := putF_len f v r; omega
theorem flds_len (b d : Addr) : (flds b d).length = 2 := by rw [flds_eq]; rfl
theorem ok_become {f C : Addr} {fd : FuncData} (F : Fun K "become" "Arguments.become" sBecome f fd) (T : Cl K mg C) : FnOk P w K mg base CX0 1 f fd ["self", "beats"] (spBecome C Z) := by
  refine F.ok scBecome (fun vs H Q E h => ?_) (fun cdv A outer s H vs Q E hr h => ?_)
  · obtain ⟨p, dx, b0, d0, nb, F, rfl, _⟩ := h
    rfl
  · obtain ⟨p, dx, b0, d0, nb, F, rfl, hp, hb, hn, hw, hZ, zh, k⟩ := h
    have npb : p ≠ nb := ne_of hp hb (by intro z; cases z)
    refine ⟨_, pss_cons (ps_fld (pv 0) (pv 1) rfl) (pss_one (ps_fld (pv 0) pe_dnewK rfl)), ?_⟩
    refine ⟨_, rfl, _, rfl, p, C, dx, _, rfl, hp, T.cl, T.nB, (by rw [flds_len]; decide), fun d hd => ?_⟩
    have npd : p ≠ d := fun e => by rw [← e, upd_same] at hd; cases hd
    have hd0 : H d = none := by rw [upd_ne (Ne.symm npd)] at hd; exact hd
    have nbd : nb ≠ d := ne_of_none hb hd0
    refine ⟨_, rfl, p, C, dx, _, rfl, (by rw [upd_ne npd, upd_same]), T.cl, T.nF, ?_, ?_⟩
    · have := putF_len "beats" (.ref nb) (flds b0 d0)
      rw [flds_len] at this
      omega
    · refine k d _ ⟨⟨dx, by rw [upd_same, flds_put]⟩, ?_, ?_, (fun k v h => nomatch h), Nat.le_refl _, hn, hw, hZ, fun x hx => ?_⟩ fun x o e hx => ?_
      · rw [upd_ne (Ne.symm npb), upd_ne nbd, upd_ne (Ne.symm npb)]
        exact hb
      · rw [upd_ne (Ne.symm npd), upd_same]
      · obtain ⟨xs, e⟩ := zh x hx
        have nxp : x ≠ p := ne_of e hp (by intro z; cases z)
        exact ⟨xs, by rw [upd_ne nxp, upd_ne (ne_of_none e hd0), upd_ne nxp]; exact e⟩
      · rw [upd_ne hx, upd_ne (ne_of_none e hd0), upd_ne hx]
        exact e
def spHas (C : Addr) (Z : Addr → Prop) : Sp := fun vs H Q _ => ∃ (p b d : Addr) (F : Rc77.Frame) (kvs : List (Key × V)) (c : Nat) (a : Int), vs = [.ref p, .int a] ∧ ArgsAt C Z H p b d F kvs c ∧ Q (.bl (decide (0 ≤ a) && decide (a < F.length))) H
theorem scHas : FnScope ["self", "a"] ["self", "a"] (defScope sHas) := ⟨rfl, rfl, rfl, by decide +kernel, rfl, by decide +kernel, by decide +kernel⟩
theorem ok_has {f C : Addr} {fd : FuncData} (F : Fun K "has" "Arguments.has" sHas f fd) (B : Bl mg) (T : Cl K mg C) : FnOk P w K mg base CX0 1 f fd ["self", "a"] (spHas C Z) := by
  refine F.ok scHas (fun vs H Q E h => ?_) (fun cdv A outer s H vs Q E hr h => ?_)
  · obtain ⟨p, b, d, F, kvs, c, a, rfl, _⟩ := h
    rfl
  · obtain ⟨p, b, d, F, kvs, c, a, rfl, S, q⟩ := h
    obtain ⟨dx, hp⟩ := S.ob
    refine ⟨_, pss_one (ps_ret (pe_chain op_le op_lt pe_int (pv 1) (pe_callB call_len_seq (by rfl) B.len PySem.boot_len (pa_cons (pe_fld (pv 0) rfl) pa_nil)))), ?_⟩
    refine ⟨_, rfl, _, _, rfl, rfl, _, rfl, ?_⟩
    refine iteE2 (c := decide (0 ≤ a)) rfl (fun hc => ?_) (fun hc => ?_)
    · refine ⟨_, rfl, p, C, dx, _, _, rfl, hp, T.cl, T.nB, flds_beats _ _, b, _, rfl, .inl (SqL.of S.bt), _, _, rfl, rfl, ?_⟩
      rw [hc, Bool.true_and] at q
      rw [List.length_map]
      exact q
    · rw [hc, Bool.false_and] at q
      exact q
def spOfKind (C : Addr) (Z : Addr → Prop) : Sp := fun vs H Q _ => ∃ (p b d : Addr) (F : Rc77.Frame) (kvs : List (Key × V)) (c k : Nat), vs = [.ref p, .int (k : Int)] ∧ k < 7 ∧ ArgsAt C Z H p b d F kvs c ∧ c ≤ 1000 ∧
  ∀ (l : Addr) (kvs' : List (Key × V)) (H' : Hp), ArgsAt C Z H' p b d F kvs' (c + 1) → H' l = some (.lst ((ofKinds F k).map nV)) → (∀ x o, H x = some o → x ≠ d → H' x = some o) → Q (.ref l) H'
theorem scOfKind : FnScope ["self", "kind"] ["self", "kind"] (defScope sOfKind) := ⟨rfl, rfl, rfl, by decide +kernel, rfl, by decide +kernel, by decide +kernel⟩
theorem ArgsAt.mono {C : Addr} {Z : Addr → Prop} {H : Hp} {p b d : Addr} {F : Rc77.Frame} {kvs : List (Key × V)} {c c' : Nat} (S : ArgsAt C Z H p b d F kvs c) (h : c ≤ c') : ArgsAt C Z H p b d F kvs c' := ⟨S.ob, S.bt, S.dc, S.ch, Nat.le_trans S.sz h, S.len, S.wf, S.zb, S.zh⟩
theorem ok_ofKind {f C g : Addr} {fd gd : FuncData} (F : Fun K "of_kind" "Arguments.of_kind" sOfKind f fd) (T : Cl K mg C) (d1 : Def K mg "sets_of_kind" sSetsOf g gd ["beats", "kind"]) (G : FnOk P w K mg base CX0 7 g gd ["beats", "kind"] (spSetsOf K)) :
    FnOk P w K mg base CX0 8 f fd ["self", "kind"] (spOfKind C Z) := by
  refine F.ok scOfKind (fun vs H Q E h => ?_) (fun cdv A outer s H vs Q E hr h => ?_)
  · obtain ⟨p, b, d, F, kvs, c, k, rfl, _⟩ := h
    rfl
  · obtain ⟨p, b, d, F, kvs, c, k, rfl, hk, S, hc, q⟩ := h
    have hu := hu_of hr
    obtain ⟨dx, hp⟩ := S.ob
    have npd : p ≠ d := ne_of hp S.dc (by intro z; cases z)
    have nbd : b ≠ d := ne_of S.bt S.dc (by intro z; cases z)
    refine ⟨_, pss_cons (ps_if (pt_cmp (pc_dnotin hu (pv 1) (pe_fld (pv 0) rfl))) (pss_one (ps_dput hu (pe_fld (pv 0) rfl) (pv 1) (pe_call G hr rfl d1.mg d1.fn.kp d1.b .nil pass0 (pa_cons (pe_fld (pv 0) rfl) (pa_cons (pv 1) pa_nil))) rfl)) pss_nil)
      (pss_one (ps_ret (pe_dget hu (pe_fld (pv 0) rfl) (pv 1) (fun _ _ => rfl)))), ?_⟩
    refine ⟨_, rfl, _, rfl, p, C, dx, _, _, rfl, hp, T.cl, T.nF, flds_found _ _, d, _, rfl, DGet.k (k := Sum.inl (k : Int)) S.dc, _, rfl, ?_⟩
    cases e : valV kvs (Sum.inl (k : Int) : Key) with
    | some v =>
      obtain ⟨j, l, ej, rfl, hl, hlz⟩ := S.ch _ _ e
      obtain rfl : k = j := by omega
      refine iteF ?_
      refine ⟨_, rfl, p, C, dx, _, _, rfl, hp, T.cl, T.nF, flds_found _ _, _, rfl, d, _, rfl, (by have := DGet.k (k := Sum.inl (k : Int)) S.dc; rw [e] at this; exact this), ?_⟩
      exact q l kvs H (S.mono (Nat.le_succ _)) hl fun x o z _ => z
    | none =>
      refine iteT ?_
      refine ⟨_, rfl, p, C, dx, _, _, rfl, hp, T.cl, T.nB, flds_beats _ _, _, rfl, b, F, k, rfl, hk, SqL.of S.bt, S.len, S.wf, fun l H1 hl0 hs1 hl1 => ?_⟩
      have hp1 := hs1 _ _ hp
      have hd1 := hs1 _ _ S.dc
      refine ⟨_, rfl, p, C, dx, _, _, rfl, hp1, T.cl, T.nF, flds_found _ _, _, rfl, d, _, rfl, DPut.k (k := Sum.inl (k : Int)) hd1 (small1000 (by have := S.sz; omega)), ?_⟩
      have nld : l ≠ d := (ne_of_none S.dc hl0).symm
      have hp2 : (upd H1 d (.dK (putK kvs (Sum.inl (k : Int)) (.ref l)))) p = some (.ins C dx (flds b d)) := by rw [upd_ne npd]; exact hp1
      have hg : valV (putK kvs (Sum.inl (k : Int)) (V.ref l)) (Sum.inl (k : Int) : Key) = some (.ref l) := by rw [valV_put, if_pos rfl]
      refine ⟨_, rfl, p, C, dx, _, _, rfl, hp2, T.cl, T.nF, flds_found _ _, _, rfl, d, _, rfl, (by have := DGet.k (k := Sum.inl (k : Int)) (upd_same (H := H1) (a := d) (o := .dK (putK kvs (Sum.inl (k : Int)) (.ref l)))); rw [hg] at this; exact this), ?_⟩
      have hl2 : (upd H1 d (.dK (putK kvs (Sum.inl (k : Int)) (.ref l)))) l = some (.lst ((ofKinds F k).map nV)) := by rw [upd_ne nld]; exact hl1
      refine q l (putK kvs (Sum.inl (k : Int)) (.ref l)) _ ⟨⟨dx, hp2⟩, ?_, upd_same, fun k' v h => ?_, ?_, S.len, S.wf, S.zb, fun x hx => ?_⟩ hl2 fun x o z hx => ?_
      · rw [upd_ne nbd]; exact hs1 _ _ S.bt
      · rw [valV_put] at h
        by_cases ek : (Sum.inl k' : Key) = Sum.inl (k : Int)
        · rw [if_pos ek] at h
          exact ⟨k, l, Sum.inl.inj ek, (Option.some.inj h).symm, hl2, fun z => by obtain ⟨xs, e'⟩ := S.zh l z; rw [hl0] at e'; cases e'⟩
        · rw [if_neg ek] at h
          obtain ⟨j, l', h1, h2, h3, h4⟩ := S.ch _ _ h
          refine ⟨j, l', h1, h2, ?_, h4⟩
          rw [upd_ne (ne_of h3 S.dc (by intro z; cases z))]
          exact hs1 _ _ h3
      · have := length_putK kvs (Sum.inl (k : Int) : Key) (V.ref l)
        have := S.sz
        omega
      · obtain ⟨xs, e'⟩ := S.zh x hx
        exact ⟨xs, by rw [upd_ne (ne_of e' S.dc (by intro z; cases z))]; exact hs1 _ _ e'⟩
      · rw [upd_ne hx]; exact hs1 _ _ z
end
end Bt

set_option linter.all false
set_option maxRecDepth 100000
set_option Elab.async false
namespace Bt
open PySem L2 Rc77 Ar
abbrev sBegin : Stmt := inClass cArguments 1
abbrev sPut : Stmt := inClass cArguments 2
abbrev sTurn : Stmt := inClass cArguments 3
abbrev sSets : Stmt := inClass cArguments 4
abbrev sIs : Stmt := inClass cArguments 5
abbrev sGround : Stmt := inClass cArguments 6
/-- how a method ends -/
def EndM (C : Addr) (Z : Addr → Prop) (H : Hp) (p d : Addr) (c : Nat) (F : Rc77.Frame) (call : Rc77.Call) (Q : VK) : Prop :=
  ∀ (r b' d' : Addr) (kvs' : List (Key × V)) (H' : Hp), ArgsAt C Z H' p b' d' (does ⟨F⟩ call).1.frame kvs' (c + 2) → H' r = some (.lst ((outL F call).map V.int)) → ¬ Z r → (∀ x o, H x = some o → x ≠ p → x ≠ d → H' x = some o) → Q (.ref r) H'
/-- the module's numbers -/
structure Nums (mg : Str → Option Value) : Prop where
  done : ∃ t, mg "DONE" = some (.int 0 t)
  refused : ∃ t, mg "REFUSED" = some (.int (-1) t)
  most : ∃ t, mg "MOST_ARGUMENTS" = some (.int 16 t)
  sets : ∃ t, mg "MOST_SETS" = some (.int 65536 t)
  none_such : ∃ t, mg "NONE_SUCH" = some (.int (-2) t)
  hold : ∃ t, mg "HOLDING" = some (.int 1 t)
  full : ∃ t, mg "FULL" = some (.int 3 t)
/-- a method of the text, as others call it -/
structure MDef (K : PySem.W.Frag) (C : Addr) (m q : Str) (st : Stmt) (f : Addr) (fd : FuncData) (ps : List Str) : Prop where
  fn : Fun K m q st f fd
  me : Meth K C m f
  b : Binds K fd ps []
section
variable {P : Program} {w : World} {K : PySem.W.Frag} {mg : Str → Option Value} {base : Heap} {Z : Addr → Prop}
/-- the same behind one more new object -/
theorem ArgsAt.same {C : Addr} {H H' : Hp} {p b d : Addr} {F : Rc77.Frame} {kvs : List (Key × V)} {c : Nat} (S : ArgsAt C Z H p b d F kvs c) (s : Same H H') : ArgsAt C Z H' p b d F kvs c :=
  ⟨let ⟨dx, h⟩ := S.ob; ⟨dx, s _ _ h⟩, s _ _ S.bt, s _ _ S.dc, fun k v h => let ⟨j, l, h1, h2, h3, h4⟩ := S.ch k v h; ⟨j, l, h1, h2, s _ _ h3, h4⟩, S.sz, S.len, S.wf, S.zb, fun x hx => let ⟨xs, e⟩ := S.zh x hx; ⟨xs, s _ _ e⟩⟩
/-- a new address is none of those that are kept apart -/
theorem ArgsAt.newZ {C : Addr} {H : Hp} {p b d : Addr} {F : Rc77.Frame} {kvs : List (Key × V)} {c : Nat} (S : ArgsAt C Z H p b d F kvs c) {x : Addr} (h : H x = none) : ¬ Z x := fun z => by
  obtain ⟨xs, e⟩ := S.zh x z
  rw [h] at e
  cases e
theorem ArgsAt.zs {C : Addr} {H H' : Hp} {p b d : Addr} {F : Rc77.Frame} {kvs : List (Key × V)} {c : Nat} (S : ArgsAt C Z H p b d F kvs c) (s : Same H H') : ∀ x, Z x → ∃ xs, H' x = some (.lst xs) := fun x hx => let ⟨xs, e⟩ := S.zh x hx; ⟨xs, s _ _ e⟩
def spBegin (C : Addr) (Z : Addr → Prop) : Sp := fun vs H Q _ => ∃ (p b d : Addr) (F : Rc77.Frame) (kvs : List (Key × V)) (c : Nat), vs = [.ref p] ∧ ArgsAt C Z H p b d F kvs c ∧ EndM C Z H p d c F .init Q
theorem scBegin : FnScope ["self"] ["self"] (defScope sBegin) := ⟨rfl, rfl, rfl, by decide +kernel, rfl, by decide +kernel, by decide +kernel⟩
theorem ok_begin {f C g : Addr} {fd gd : FuncData} (F : Fun K "begin" "Arguments.begin" sBegin f fd) (T : Cl K mg C) (N : Nums mg) (d1 : MDef K C "become" "Arguments.become" sBecome g gd ["self", "beats"]) : FnOk P w K mg base CX0 2 f fd ["self"] (spBegin C Z) := by
  have G : FnOk P w K mg base CX0 1 g gd ["self", "beats"] (spBecome C Z) := ok_become d1.fn T
  obtain ⟨t0, hdone⟩ := N.done
  refine F.ok scBegin (fun vs H Q E h => ?_) (fun cdv A outer s H vs Q E hr h => ?_)
  · obtain ⟨p, b, d, F, kvs, c, rfl, _⟩ := h
    rfl
  · obtain ⟨p, b, d, F, kvs, c, rfl, S, k⟩ := h
    obtain ⟨dx, hp⟩ := S.ob
    refine ⟨_, pss_cons (ps_expr (pe_meth (pv 0) T.cl d1.me G hr d1.b .nil pass0 (pa_cons (pe_lst pa_nil) pa_nil))) (pss_one (ps_ret (pe_lst (pa_cons (pe_glob (v := .int 0) rfl hdone ⟨_, rfl⟩) pa_nil)))), ?_⟩
    refine ⟨_, rfl, p, dx, _, rfl, hp, flds_no _ _ (by decide +kernel) (by decide +kernel), (by show 0 ≤ sizeLine; decide), fun nb hnb => ?_⟩
    have npb : p ≠ nb := ne_of_none hp hnb
    refine ⟨p, dx, b, d, nb, [], rfl, (by rw [upd_ne npb]; exact hp), upd_same, by decide, (fun m hm => nomatch hm), S.newZ hnb, S.zs (Same.add hnb), fun nd H1 S1 kp1 => ?_⟩
    refine ⟨(by show 1 ≤ sizeLine; decide), fun r hr' => ?_⟩
    refine k r nb nd [] _ ((S1.same (Same.add hr')).mono (Nat.zero_le _)) upd_same (S1.newZ hr') fun x o e hx _ => ?_
    have e1 : (upd H nb (.lst [])) x = some o := by rw [upd_ne (ne_of_none e hnb)]; exact e
    have e2 := kp1 x o e1 hx
    rw [upd_ne (ne_of_none e2 hr')]
    exact e2
def spGround (C : Addr) (Z : Addr → Prop) : Sp := fun vs H Q _ => ∃ (p b d : Addr) (F : Rc77.Frame) (kvs : List (Key × V)) (c : Nat), vs = [.ref p] ∧ ArgsAt C Z H p b d F kvs c ∧ EndM C Z H p d c F .ground Q
theorem scGround : FnScope ["self"] ["self"] (defScope sGround) := ⟨rfl, rfl, rfl, by decide +kernel, rfl, by decide +kernel, by decide +kernel⟩
theorem ok_ground {f C g : Addr} {fd gd : FuncData} (F : Fun K "ground" "Arguments.ground" sGround f fd) (T : Cl K mg C) (N : Nums mg) (d1 : Def K mg "rounds" sRounds g gd ["beats"]) (G : FnOk P w K mg base CX0 4 g gd ["beats"] (spRounds K)) : FnOk P w K mg base CX0 5 f fd ["self"] (spGround C Z) := by
  obtain ⟨t0, hdone⟩ := N.done
  refine F.ok scGround (fun vs H Q E h => ?_) (fun cdv A outer s H vs Q E hr h => ?_)
  · obtain ⟨p, b, d, F, kvs, c, rfl, _⟩ := h
    rfl
  · obtain ⟨p, b, d, F, kvs, c, rfl, S, k⟩ := h
    obtain ⟨dx, hp⟩ := S.ob
    refine ⟨_, pss_one (ps_ret (pe_lst (pa_cons (pe_glob (v := .int 0) rfl hdone ⟨_, rfl⟩) (pa_cons (pe_ix (ix_listK K) (pe_call G hr rfl d1.mg d1.fn.kp d1.b .nil pass0 (pa_cons (pe_fld (pv 0) rfl) pa_nil)) (pe_un un_neg pe_int) (fun _ _ => rfl)) pa_nil)))), ?_⟩
    refine ⟨_, rfl, p, C, dx, _, _, rfl, hp, T.cl, T.nB, flds_beats _ _, b, F, rfl, SqL.of S.bt, S.len, fun D H1 hD hs1 hl1 => ?_⟩
    have hlast : atI (roundsL F F.length) (-1) = some (nV (rounds F F.length)) := by
      unfold roundsL
      rw [List.range_succ, List.map_append]
      exact atI_last _ _
    refine ⟨_, rfl, D, _, _, _, rfl, rfl, SqL.of hl1, hlast, (by show 2 ≤ sizeLine; decide), fun r hr' => ?_⟩
    refine k r b d kvs _ ((S.same (hs1.trans (Same.add hr'))).mono (by omega)) upd_same (S.newZ (hs1.free hr')) fun x o e _ _ => ?_
    exact (hs1.trans (Same.add hr')) x o e
def spSets (C : Addr) (Z : Addr → Prop) : Sp := fun vs H Q _ => ∃ (p b d : Addr) (F : Rc77.Frame) (kvs : List (Key × V)) (c : Nat) (kind most : Int), vs = [.ref p, .int kind, .int most] ∧ ArgsAt C Z H p b d F kvs c ∧ c ≤ 1000 ∧ EndM C Z H p d c F (.sets kind most) Q
theorem scSets : FnScope ["self", "kind", "most", "found", "shown"] ["self", "kind", "most"] (defScope sSets) := ⟨rfl, rfl, rfl, by decide +kernel, rfl, by decide +kernel, by decide +kernel⟩
theorem between6 (k : Int) : between k 0 6 = (decide (0 ≤ k) && decide (k < 7)) := by
  unfold between
  congr 1
  apply Bool.eq_iff_iff.mpr
  simp
  omega
theorem sets_no {F : Rc77.Frame} {kind most : Int} (h : between kind 0 6 = false) : (does ⟨F⟩ (.sets kind most)).1.frame = F ∧ outL F (.sets kind most) = [-1] := by
  have e : does ⟨F⟩ (.sets kind most) = (⟨F⟩, refused) := if_pos h
  unfold outL
  rw [e]
  exact ⟨rfl, rfl⟩
theorem sets_yes {F : Rc77.Frame} {kind most : Int} (h : between kind 0 6 = true) : (does ⟨F⟩ (.sets kind most)).1.frame = F ∧ outL F (.sets kind most) = ((ofKinds F kind.toNat).length : Int) :: ((ofKinds F kind.toNat).take (room_ most)).map fun (n : Nat) => (n : Int) := by
  have e : does ⟨F⟩ (.sets kind most) = (⟨F⟩, { value := ((ofKinds F kind.toNat).length : Nat), numbers := (ofKinds F kind.toNat).take (room_ most) }) := if_neg (by rw [h]; decide)
  unfold outL
  rw [e]
  exact ⟨rfl, rfl⟩
theorem cut_take (l : List V) (n : Nat) : cutV l none (some (n : Int)) = l.take n := by
  unfold cutV
  rw [HT.sIx_none, HT.sIx_nat]
  rw [List.drop_zero, Nat.sub_zero]
  by_cases h : n ≤ l.length
  · rw [Nat.min_eq_left h]
  · rw [Nat.min_eq_right (by omega), List.take_length, List.take_of_length_le (by omega)]
theorem ok_sets {f C g1 g2 : Addr} {fd gd1 gd2 : FuncData} (F : Fun K "sets" "Arguments.sets" sSets f fd) (B : Bl mg) (T : Cl K mg C) (N : Nums mg) (d1 : Def K mg "is_kind" sIsKind g1 gd1 ["kind"]) (G1 : FnOk P w K mg base CX0 1 g1 gd1 ["kind"] spIsKind)
    (d2 : MDef K C "of_kind" "Arguments.of_kind" sOfKind g2 gd2 ["self", "kind"]) (G2 : FnOk P w K mg base CX0 8 g2 gd2 ["self", "kind"] (spOfKind C Z)) : FnOk P w K mg base CX0 9 f fd ["self", "kind", "most"] (spSets C Z) := by
  obtain ⟨t1, hrefd⟩ := N.refused
  obtain ⟨t2, hsets⟩ := N.sets
  refine F.ok scSets (fun vs H Q E h => ?_) (fun cdv A outer s H vs Q E hr h => ?_)
  · obtain ⟨p, b, d, F, kvs, c, kind, most, rfl, _⟩ := h
    rfl
  · obtain ⟨p, b, d, F, kvs, c, kind, most, rfl, S, hc, k⟩ := h
    obtain ⟨dx, hp⟩ := S.ob
    have hr1 : Room 1 _ := hr.mono (by decide)
    refine ⟨_, pss_cons (ps_if (pt_not (pt_val (pe_call G1 hr1 rfl d1.mg d1.fn.kp d1.b .nil pass0 (pa_cons (pv 1) pa_nil)))) (pss_one (ps_ret (pe_lst (pa_cons (pe_glob (v := .int (-1)) rfl hrefd ⟨_, rfl⟩) pa_nil)))) pss_nil)
      (pss_cons (ps_set (i := 3) scSets.nd rfl (Or.inl rfl) (pe_meth (pv 0) T.cl d2.me G2 hr d2.b .nil pass0 (pa_cons (pv 1) pa_nil)))
      (pss_cons (ps_set (i := 4) scSets.nd rfl (Or.inl rfl) (pe_ifExp (pt_chain op_le op_le pe_int (pv 2) (pe_glob (v := .int 65536) rfl hsets ⟨_, rfl⟩)) (pv 2) pe_int))
      (pss_one (ps_ret (pe_op op_cat (pe_lst (pa_cons (pe_callB call_len_seq (by rfl) B.len PySem.boot_len (pa_cons (pv 3) pa_nil)) pa_nil)) (pe_slice sl_list (pv 3) po_none (po_some (pv 4)))))))), ?_⟩
    refine ⟨_, rfl, kind, rfl, _, rfl, ?_⟩
    rw [← between6]
    refine iteE2 (c := !between kind 0 6) rfl (fun hb => ?_) (fun hb => ?_)
    · obtain ⟨e1, e2⟩ := sets_no (F := F) (most := most) (show between kind 0 6 = false by simpa using hb)
      refine ⟨(by show 1 ≤ sizeLine; decide), fun r hr' => ?_⟩
      refine k r b d kvs _ (by rw [e1]; exact (S.same (Same.add hr')).mono (by omega)) (by rw [e2]; exact upd_same) (S.newZ hr') fun x o e _ _ => Same.add hr' x o e
    · have hb' : between kind 0 6 = true := by simpa using hb
      obtain ⟨e1, e2⟩ := sets_yes (F := F) (most := most) hb'
      have hk : 0 ≤ kind ∧ kind < 7 := by
        rw [between6] at hb'
        simpa using hb'
      have ek : kind = (kind.toNat : Int) := by omega
      refine ⟨_, rfl, p, dx, _, rfl, hp, flds_no _ _ (by decide +kernel) (by decide +kernel), _, rfl, p, b, d, F, kvs, c, kind.toNat, (by rw [← ek]; rfl), by omega, S, hc, fun l kvs' H1 S1 hl1 kp1 => ?_⟩
      have hlen := kinds_len kind.toNat S.len
      -- shown
      have go : ∀ n : Nat, n = room_ most → ∀ σ : St, σ = [some (V.ref p), some (V.int kind), some (V.int most), some (V.ref l), some (V.int (n : Int))] →
          (tOp rCat (tLst (tCons (tCB (fun xs H Q => ∃ p ys, xs = [V.ref p] ∧ (SqL K H p ys ∨ SqT K H p ys) ∧ Q (.int ys.length) H) (tCons (tVar 3) tNil)) tNil)) (tSl (rSlL K) (tVar 3) tNoPart (tPart (tVar 4)))) σ H1 Q := by
        rintro n hn σ rfl
        refine ⟨_, rfl, l, _, rfl, .inl (SqL.of hl1), (by show 1 ≤ sizeLine; decide), fun r1 hr1' => ?_⟩
        have hs1 := Same.add (o := .lst [V.int ((((ofKinds F kind.toNat).map nV).length : Nat) : Int)]) hr1'
        refine ⟨_, rfl, _, rfl, _, rfl, l, _, rfl, SqL.of (hs1 _ _ hl1), fun r2 hr2' => ?_⟩
        have hs2 := Same.add (o := .lst (cutV ((ofKinds F kind.toNat).map nV) none (some (n : Int)))) hr2'
        have hr12 := hs2 _ _ (upd_same (H := H1) (a := r1) (o := .lst [V.int ((((ofKinds F kind.toNat).map nV).length : Nat) : Int)]))
        refine ⟨r1, r2, _, _, rfl, rfl, hr12, upd_same, ?_, fun r hr3 => ?_⟩
        · rw [cut_take, List.length_take, List.length_map, sizeLine_eq]
          show 1 + _ ≤ _
          omega
        · have hs3 := (hs1.trans hs2).trans (Same.add (o := .lst ([V.int ((((ofKinds F kind.toNat).map nV).length : Nat) : Int)] ++ cutV ((ofKinds F kind.toNat).map nV) none (some (n : Int)))) hr3)
          refine k r b d kvs' _ (by rw [e1]; exact (S1.same hs3).mono (by omega)) ?_ (S1.newZ ((hs1.trans hs2).free hr3)) fun x o e hx1 hx2 => hs3 x o (kp1 x o e hx2)
          rw [upd_same, e2, cut_take, List.map_cons, List.length_map, List.map_map, ← List.map_take, hn]
          rfl
      refine ⟨_, rfl, _, _, rfl, rfl, _, rfl, ?_⟩
      refine iteE2 (c := decide (1 ≤ most)) rfl (fun h1 => ?_) (fun h1 => ?_)
      · have h1' : 1 ≤ most := by simpa using h1
        refine ⟨_, _, rfl, rfl, _, rfl, ?_⟩
        by_cases h2 : most ≤ 65536
        · have : decide (most ≤ 65536) = true := by simpa using h2
          rw [this]
          refine iteT ?_
          refine ⟨_, rfl, ?_⟩
          refine go most.toNat (if_pos ⟨h1', h2⟩).symm _ ?_
          rw [Int.toNat_of_nonneg (by omega)]
          rfl
        · have : decide (most ≤ 65536) = false := by simpa using h2
          rw [this]
          exact go 0 (if_neg fun z => h2 z.2).symm _ rfl
      · have h1' : ¬ 1 ≤ most := by simpa using h1
        exact ⟨_, rfl, go 0 (if_neg fun z => h1' z.1).symm _ rfl⟩
end
end Bt

set_option linter.all false
set_option maxRecDepth 100000
set_option Elab.async false
namespace L2
open PySem PySem.Spec PyProof.Rows
section
variable {X : Cx}
theorem mt_bitlen : MtR X "int.bit_length" (fun x xs H Q => ∃ i, x = .int i ∧ xs = [] ∧ Q (.int ((Builtin.Int.intBits i : Nat) : Int)) H) := by
  intro pins s σ H x xs v us Q I rx rs h
  obtain ⟨i, rfl, rfl, h⟩ := h
  obtain ⟨t, rfl⟩ := rx
  cases rs
  exact PyProof.Rows.call_int_bit_length ⟨.int _, H, I.tok _, ⟨_, rfl⟩, h⟩
def tNotI (ta : TE) : TE := fun σ H Q => ta σ H fun x H1 => ∃ i, x = .int i ∧ Q (.bl (!(i != 0))) H1
theorem pe_notI {a : Expr} {ta : TE} {pos : Pos} (ha : PE X a ta) : PE X (.UnaryOp .Not a pos) (tNotI ta) := by
  intro pins s σ H Q I h
  refine UnaryOp_ (thn (ha pins s σ H _ I h) fun v s1 ⟨x, H1, I1, r1, q1⟩ => ?_)
  obtain ⟨i, rfl, q1⟩ := q1
  obtain ⟨t, rfl⟩ := r1
  exact not_of (truthy_int ⟨.bl _, H1, I1, rfl, q1⟩)
def rLenK (K : PySem.W.Frag) : List V → Hp → VK → Prop := fun xs H Q => ∃ p ys, xs = [V.ref p] ∧ (SqL K H p ys ∨ SqT K H p ys) ∧ Q (.int ys.length) H
theorem call_lenK (K : PySem.W.Frag) (hK : X.K = K := by rfl) : CallR X (.builtin "len") (rLenK K) := by subst hK; exact call_len_seq
theorem pe_fldK (K : PySem.W.Frag) {e : Expr} {ta : TE} {f : Str} {pos : Pos} (he : PE X e ta) (hb : attributeBase e f X.env (eval e X.env) = eval e X.env) (hK : X.K = K := by rfl) : PE X (.Attribute e f pos) (tFld K ta f) := by subst hK; exact pe_fld he hb
end
/-- over a list with its places, which the body leaves as it is -/
theorem for_enum {K : PySem.W.Frag} {a : Addr} {xs : List V} {g : TG} {tb : TS} {D : Ends} {σ : St} {H : Hp} (Pv : Nat → St → Hp → Prop) (h0 : Pv 0 σ H) (hl : ∀ i σ H, i ≤ xs.length → Pv i σ H → SqL K H a xs)
    (hs : ∀ i x σ H T, xs[i]? = some x → Pv i σ H → H T = none → g (.ref T) σ (upd H T (.tup [.int (i : Nat), x])) fun σ2 H2 => tb { D with nx := Pv (i + 1), ct := Pv (i + 1), bk := D.nx } σ2 H2) (hd : ∀ σ H, Pv xs.length σ H → D.nx σ H) :
    ∃ W : Nat → Nat → St → Hp → Prop, (∃ m, W 0 m σ H) ∧ ∀ i m σ H, W i m σ H →
      ((Ite K a).stop i H ∧ D.nx σ H) ∨ ((Ite K a).go i H ∧ ∃ N : St → Hp → Prop, (∀ σ' H', N σ' H' → ∃ m', m' < m ∧ W (i + 1) m' σ' H') ∧ ∀ x H', (Ite K a).yld i H x H' → g x σ H' fun σ2 H2 => tb { D with nx := N, ct := N, bk := D.nx } σ2 H2) := by
  refine ⟨fun i m σ H => m = xs.length - i ∧ i ≤ xs.length ∧ Pv i σ H, ⟨xs.length, by simp, Nat.zero_le _, h0⟩, ?_⟩
  rintro i m σ H ⟨rfl, hi, p⟩
  have q := hl i σ H hi p
  by_cases hlt : i < xs.length
  · refine .inr ⟨⟨xs, xs[i], q, by simp [hlt]⟩, Pv (i + 1), fun σ' H' p' => ⟨xs.length - (i + 1), by omega, rfl, hlt, p'⟩, fun x H' y => ?_⟩
    obtain ⟨T, z, ev, hT, eH, hy⟩ := y
    subst ev eH
    exact hs i z σ _ T (hy xs q) p hT
  · have e : i = xs.length := by omega
    subst e
    exact .inl ⟨⟨xs, q, Nat.le_refl _⟩, hd σ H p⟩
end L2
namespace Bt
open PySem L2 Rc77 Ar
theorem bootMax : bootBuiltins "max" = some (.builtin "max") := by decide +kernel
section
variable {P : Program} {w : World} {K : PySem.W.Frag} {mg : Str → Option Value} {base : Heap}
abbrev sFirst : Stmt := top 7
def optV : Option Nat → V
  | none => .non
  | some k => nV k
def spFirst (K : PySem.W.Frag) : Sp := fun vs H Q _ => ∃ (b : Addr) (l : List Nat) (a : Nat), vs = [.ref b, nV a] ∧ SqL K H b (l.map nV) ∧ ∀ H', Same H H' → Q (optV (l.findIdx? fun m => m.testBit a)) H'
theorem scFirst : FnScope ["several", "a", "place", "members"] ["several", "a"] (defScope sFirst) := ⟨rfl, rfl, rfl, by decide +kernel, rfl, by decide +kernel, by decide +kernel⟩
theorem ok_first {f : Addr} {fd : FuncData} (F : Fun K "first_with" "first_with" sFirst f fd) (T : Bl mg) : FnOk P w K mg base CX0 1 f fd ["several", "a"] (spFirst K) := by
  refine F.ok scFirst (fun vs H Q E h => ?_) (fun cdv A outer s H vs Q E hr h => ?_)
  · obtain ⟨b, l, a, rfl, _⟩ := h
    rfl
  · obtain ⟨b, l, a, rfl, hl, k⟩ := h
    refine ⟨_, pss_cons (ps_for PassesOwn.never rfl (pi_enum rfl T.enumerate (pa_cons (pv 0) pa_nil)) (pg_tup rfl (pgs_cons (pg_name (i := 2) scFirst.nd rfl (Or.inl rfl)) (pgs_cons (pg_name (i := 3) scFirst.nd rfl (Or.inl rfl)) pgs_nil)))
        (pss_one (ps_if (pt_int (pe_op op_and (pe_op op_shr (pv 3) (pv 1)) pe_int)) (pss_one (ps_ret (pv 2))) pss_nil)))
      (pss_one (ps_ret pe_non)), ?_⟩
    refine ⟨_, rfl, b, _, rfl, hl, ?_⟩
    refine for_enum (K := K) (xs := l.map nV) (fun i σ H1 => ∃ u v, σ = [some (.ref b), some (nV a), u, v] ∧ Same H H1 ∧ ∀ m ∈ l.take i, m.testBit a = false) ⟨none, none, rfl, Same.refl _, fun o ho => by simp at ho⟩ (fun i σ H1 _ ⟨_, _, _, e, _⟩ => e.seq hl) ?_ ?_
    · rintro i x σ H1 T hi ⟨u, v, rfl, hs, hall⟩ hT
      rw [List.getElem?_map] at hi
      obtain ⟨o, ho, rfl⟩ := Option.map_eq_some_iff.mp hi
      have hs' := hs.new (o := .tup [.int (i : Nat), nV o]) (hs.free hT)
      refine ⟨T, _, rfl, SqT.of upd_same, rfl, _, _, rfl, _, _, rfl, rfl, ?_⟩
      refine ⟨_, rfl, _, rfl, _, _, rfl, rfl, (by show (0 : Int) ≤ (a : Int); omega), _, _, rfl, rfl, _, rfl, ?_⟩
      refine iteE2 (c := o.testBit a) (shr_bit o a) (fun hb => ?_) (fun hb => ?_)
      · refine ⟨_, rfl, ?_⟩
        have hlt : i < l.length := (List.getElem?_eq_some_iff.mp ho).1
        have e : l.findIdx? (fun m => m.testBit a) = some i := by
          rw [List.findIdx?_eq_some_iff_getElem]
          refine ⟨hlt, ?_, fun j hj => ?_⟩
          · have := (List.getElem?_eq_some_iff.mp ho).2
            rw [this]
            exact hb
          · have := hall (l[j]'(by omega)) (by
              rw [List.mem_take_iff_getElem]
              exact ⟨j, by omega, rfl⟩)
            rw [this]
            exact Bool.false_ne_true
        have k' := k _ hs'
        rw [e] at k'
        exact k'
      · refine ⟨some (.int (i : Nat)), some (nV o), rfl, hs', fun y hy => ?_⟩
        rw [List.take_succ, ho] at hy
        rcases List.mem_append.mp hy with hy | hy
        · exact hall y hy
        · have : y = o := by simpa using hy
          rw [this]
          exact hb
    · rintro σ H1 ⟨u, v, rfl, hs, hall⟩
      rw [List.length_map, List.take_length] at hall
      have e : l.findIdx? (fun m => m.testBit a) = none := by
        rw [List.findIdx?_eq_none_iff]
        exact fun o ho => hall o ho
      have k' := k _ hs
      rw [e] at k'
      exact k'
abbrev sLeast : Stmt := top 8
def spLeast : Sp := fun vs H Q _ => ∃ m : Nat, vs = [nV m] ∧ 0 < m ∧ ∀ l, m.testBit l = true → (∀ j, j < l → m.testBit j = false) → Q (nV l) H
theorem scLeast : FnScope ["members"] ["members"] (defScope sLeast) := ⟨rfl, rfl, rfl, by decide +kernel, rfl, by decide +kernel, by decide +kernel⟩
theorem neg_not {m : Nat} (h : 0 < m) : -(m : Int) = Builtin.bitNot ((m - 1 : Nat) : Int) := by
  unfold Builtin.bitNot
  omega
theorem bits_pow (l : Nat) : Builtin.Int.intBits ((2 ^ l : Nat) : Int) = l + 1 := by
  unfold Builtin.Int.intBits
  have h : 0 < 2 ^ l := Nat.pow_pos (by decide)
  have e : ((((2 ^ l : Nat) : Int)) == 0) = false := by
    apply beq_eq_false_iff_ne.mpr
    omega
  rw [e]
  simp only [Bool.false_eq_true, if_false]
  rw [Int.natAbs_natCast, Nat.log2_two_pow]
theorem ok_least {f : Addr} {fd : FuncData} (F : Fun K "least_of" "least_of" sLeast f fd) : FnOk P w K mg base CX0 1 f fd ["members"] spLeast := by
  refine F.ok scLeast (fun vs H Q E h => ?_) (fun cdv A outer s H vs Q E hr h => ?_)
  · obtain ⟨m, rfl, _⟩ := h
    rfl
  · obtain ⟨m, rfl, hm, k⟩ := h
    refine ⟨_, pss_one (ps_ret (pe_op op_sub (pe_bm0 PySem.F.plainAttrs_int PySem.F.slot_int_bit_length PySem.F.type_int_bit_length mt_bitlen (pe_op op_and (pv 0) (pe_un un_neg (pv 0)))) pe_int)), ?_⟩
    refine ⟨_, rfl, _, rfl, _, rfl, _, _, rfl, rfl, rfl, _, rfl, rfl, _, _, rfl, rfl, ?_⟩
    obtain ⟨l, h1, h2, h3⟩ := lowest (m + 1) m (by omega) hm
    have e : V.int (((Builtin.Int.intBits (Builtin.bitAnd (m : Int) (-(m : Int))) : Nat) : Int) - 1) = nV l := by
      rw [neg_not hm, andNot_nat, h3, bits_pow]
      have : ((l + 1 : Nat) : Int) - 1 = (l : Int) := by omega
      rw [this]
    have k' := k l h1 h2
    rw [← e] at k'
    exact k'
abbrev sLeftBy : Stmt := top 9
def spLeftBy (K : PySem.W.Frag) : Sp := fun vs H Q _ => ∃ (p : Addr) (F : Rc77.Frame) (m : Nat), vs = [.ref p, nV m] ∧ FrAt K H p F ∧ F.length ≤ 16 ∧ ∀ H', Same H H' → Q (nV (mask (left F m))) H'
theorem scLeftBy : FnScope ["beats", "members"] ["beats", "members"] (defScope sLeftBy) := ⟨rfl, rfl, rfl, by decide +kernel, rfl, by decide +kernel, by decide +kernel⟩
theorem ok_leftBy {f g1 g2 : Addr} {fd gd1 gd2 : FuncData} (F : Fun K "left_by" "left_by" sLeftBy f fd) (T : Bl mg) (D1 : Def K mg "everyone" sEveryone g1 gd1 ["beats"]) (D2 : Def K mg "beaten_by" sBeatenBy g2 gd2 ["beats", "members"]) :
    FnOk P w K mg base CX0 2 f fd ["beats", "members"] (spLeftBy K) := by
  have G1 : FnOk P w K mg base CX0 1 g1 gd1 ["beats"] (spEveryone K) := ok_everyone D1.fn T
  have G2 : FnOk P w K mg base CX0 1 g2 gd2 ["beats", "members"] (spBeatenBy K) := ok_beatenBy D2.fn T
  refine F.ok scLeftBy (fun vs H Q E h => ?_) (fun cdv A outer s H vs Q E hr h => ?_)
  · obtain ⟨p, F, m, rfl, _⟩ := h
    rfl
  · obtain ⟨p, F, m, rfl, hF, hn, k⟩ := h
    refine ⟨_, pss_one (ps_ret (pe_op op_and (pe_call G1 hr rfl D1.mg D1.fn.kp D1.b .nil pass0 (pa_cons (pv 0) pa_nil)) (pe_un un_inv (pe_op op_or (pv 1) (pe_call G2 hr rfl D2.mg D2.fn.kp D2.b .nil pass0 (pa_cons (pv 0) (pa_cons (pv 1) pa_nil))))))), ?_⟩
    refine ⟨_, rfl, p, F, rfl, hF, hn, _, rfl, _, rfl, _, rfl, p, F, m, rfl, hF, hn, fun H1 hs1 => ?_⟩
    refine ⟨_, _, rfl, rfl, _, rfl, _, _, rfl, rfl, ?_⟩
    have e : V.int (Builtin.bitAnd ((everyone F : Nat) : Int) (Builtin.bitNot (Builtin.bitOr (m : Int) ((beatenBy F m : Nat) : Int)))) = nV (mask (left F m)) := by
      rw [or_nat, andNot_nat, left_mask]
    have k' := k H1 hs1
    rw [← e] at k'
    exact k'
abbrev sCutTo : Stmt := top 10
def spCutTo (K : PySem.W.Frag) : Sp := fun vs H Q _ => ∃ (p : Addr) (F : Rc77.Frame) (m : Nat), vs = [.ref p, nV (mask (left F m))] ∧ FrAt K H p F ∧ F.length ≤ 16 ∧ ∀ D H', H D = none → Same H H' → H' D = some (.lst ((cut F m).map nV)) → Q (.ref D) H'
theorem scCutTo : FnScope ["beats", "left", "a"] ["beats", "left"] (defScope sCutTo) := ⟨rfl, rfl, rfl, by decide +kernel, rfl, by decide +kernel, by decide +kernel⟩
theorem ok_cutTo {f : Addr} {fd : FuncData} (F : Fun K "cut_to" "cut_to" sCutTo f fd) (T : Bl mg) : FnOk P w K mg base CX0 1 f fd ["beats", "left"] (spCutTo K) := by
  refine F.ok scCutTo (fun vs H Q E h => ?_) (fun cdv A outer s H vs Q E hr h => ?_)
  · obtain ⟨p, F, m, rfl, _⟩ := h
    rfl
  · obtain ⟨p, F, m, rfl, hF, hn, k⟩ := h
    refine ⟨_, pss_one (ps_ret
      (pe_lc (own := [("a", 2)]) rfl scCutTo.nd (pi_range1 rfl T.range (pa_cons (pe_callB call_len_seq (by rfl) T.len PySem.boot_len (pa_cons (pv 0) pa_nil)) pa_nil)) (blkOk_by (by kernel_rfl))
        (fun _ _ _ _ _ => pg_name (i := 2) scCutTo.nd rfl (Or.inl rfl))
        (fun _ _ _ _ _ => pts_nil)
        (fun _ _ _ _ _ => pe_ifExp (pt_int (pe_op op_and (pe_op op_shr (pv 1) (pv 2)) pe_int)) (pe_op op_and (pe_ix (ix_listK K) (pv 0) (pv 2) (fun _ _ => rfl)) (pv 1)) (pe_op op_shl pe_int (pv 2))))), ?_⟩
    refine ⟨_, rfl, p, _, rfl, .inl hF, F.length, by rw [List.length_map], by omega, by omega, fun D hD => ?_⟩
    refine lc_rangeV (n := F.length) hD (by omega) (fun _ => true) (fun a => nV (if (mask (left F m)).testBit a = true then F.getD a 0 &&& mask (left F m) else 2 ^ a)) (fun i H1 hi hs hl N hN => ?_) fun H1 hs hl => ?_
    · refine ⟨rfl, ?_⟩
      refine yes_do ?_
      have h := hN H1 (Same.refl _) hl
      rw [if_pos rfl] at h
      refine ⟨_, rfl, _, rfl, _, _, rfl, rfl, (by omega), _, _, rfl, rfl, _, rfl, ?_⟩
      have e : (Builtin.bitAnd (((mask (left F m) : Nat) : Int) / 2 ^ (0 + (i : Int)).toNat) 1 != 0) = (mask (left F m)).testBit i := by
        rw [show (0 + (i : Int)).toNat = i by omega]
        exact shr_bit _ i
      refine iteE2 e (fun hb => ?_) (fun hb => ?_)
      · rw [if_pos hb] at h
        refine ⟨_, rfl, _, rfl, p, _, _, _, rfl, rfl, hs.seq hF, at_of (j := i) (by omega) (frame_at hi), _, rfl, _, _, rfl, rfl, _, hl, small_len hi hn, ?_⟩
        have e2 : V.int (Builtin.bitAnd ((F.getD i 0 : Nat) : Int) ((mask (left F m) : Nat) : Int)) = nV (F.getD i 0 &&& mask (left F m)) := by rw [and_nat]
        rw [← e2] at h
        exact h
      · rw [if_neg (by rw [hb]; exact Bool.false_ne_true)] at h
        refine ⟨_, rfl, _, _, rfl, rfl, ⟨by omega, by omega, by decide⟩, _, hl, small_len hi hn, ?_⟩
        dsimp only
        rw [pow_one]
        exact h
    · rw [filter_all] at hl
      refine k D H1 hD hs ?_
      rw [hl, cut_eq, List.map_map]
      rfl
abbrev sHadAll : Stmt := top 32
def spHadAll (K : PySem.W.Frag) : Sp := fun vs H Q _ => ∃ (b : Addr) (l : List Nat) (t : Nat), vs = [.ref b] ∧ SqL K H b (l.map nV) ∧ l[0]? = some t ∧ Q (nV (landAll t l)) H
theorem scHadAll : FnScope ["several", "shared", "members"] ["several"] (defScope sHadAll) := ⟨rfl, rfl, rfl, by decide +kernel, rfl, by decide +kernel, by decide +kernel⟩
theorem ok_hadAll {f : Addr} {fd : FuncData} (F : Fun K "had_by_all" "had_by_all" sHadAll f fd) : FnOk P w K mg base CX0 1 f fd ["several"] (spHadAll K) := by
  refine F.ok scHadAll (fun vs H Q E h => ?_) (fun cdv A outer s H vs Q E hr h => ?_)
  · obtain ⟨b, l, t, rfl, _⟩ := h
    rfl
  · obtain ⟨b, l, t, rfl, hl, ht, k⟩ := h
    refine ⟨_, pss_cons (ps_set (i := 1) scHadAll.nd rfl (Or.inl rfl) (pe_ix (ix_listK K) (pv 0) pe_int (fun _ _ => rfl)))
      (pss_cons (ps_for PassesOwn.never rfl (pi_list (pv 0)) (pg_name (i := 2) scHadAll.nd rfl (Or.inl rfl))
        (pss_one (ps_set (i := 1) scHadAll.nd rfl (Or.inl rfl) (pe_op op_and (pv 1) (pv 2)))))
      (pss_one (ps_ret (pv 1)))), ?_⟩
    refine ⟨_, rfl, b, _, _, _, rfl, rfl, hl, at_of (j := 0) rfl (by rw [List.getElem?_map, ht]; rfl), ?_⟩
    refine ⟨_, rfl, b, rfl, ⟨_, hl⟩, ?_⟩
    refine for_list (K := K) (xs := l.map nV) (fun i σ H1 => ∃ v, σ = [some (.ref b), some (nV (landAll t (l.take i))), v] ∧ H1 = H) ⟨none, rfl, rfl⟩ (fun i σ H1 _ ⟨_, _, e⟩ => by rw [e]; exact hl) ?_ ?_
    · rintro i x σ H1 hi ⟨v, rfl, rfl⟩
      rw [List.getElem?_map] at hi
      obtain ⟨o, ho, rfl⟩ := Option.map_eq_some_iff.mp hi
      refine ⟨_, rfl, _, rfl, _, _, rfl, rfl, some (nV o), ?_, rfl⟩
      have e : l.take (i + 1) = l.take i ++ [o] := by rw [List.take_succ, ho]; rfl
      rw [e, landAll_snoc]
      have e2 : V.int (Builtin.bitAnd ((landAll t (l.take i) : Nat) : Int) ((o : Nat) : Int)) = nV (landAll t (l.take i) &&& o) := by rw [and_nat]
      exact congrArg (fun z => [some (V.ref b), some z, some (nV o)]) e2
    · rintro σ H1 ⟨v, rfl, rfl⟩
      rw [List.length_map, List.take_length]
      exact ⟨_, rfl, k⟩
abbrev sGreatest : Stmt := top 31
def idealOf (F : Rc77.Frame) : Nat := ((subsets F).find? (ideal F)).getD 0
def spGreatest (K : PySem.W.Frag) : Sp := fun vs H Q _ => ∃ (a b : Addr) (F : Rc77.Frame), vs = [.ref a, .ref b] ∧ SqL K H a ((ofKinds F 1).map nV) ∧ SqL K H b ((ofKinds F 3).map nV) ∧ F.length ≤ 16 ∧ ∀ H', Same H H' → Q (nV (idealOf F)) H'
theorem scGreatest : FnScope ["holding_sets", "full_sets", "shared", "members"] ["holding_sets", "full_sets"] (defScope sGreatest) := ⟨rfl, rfl, rfl, by decide +kernel, rfl, by decide +kernel, by decide +kernel⟩
theorem within_mem {F : Rc77.Frame} {t m : Nat} (ht : t ∈ ofKinds F 3) : m ∈ (ofKinds F 1).filter (fun s => under s (landAll t (ofKinds F 3))) ↔ m < 2 ^ F.length ∧ within F m = true := by
  rw [List.mem_filter, under_landAll ht, mem_kinds, within_iff, List.all_eq_true]
  constructor
  · exact fun ⟨⟨a, b⟩, c⟩ => ⟨a, b, c⟩
  · exact fun ⟨a, b, c⟩ => ⟨⟨a, b⟩, c⟩
theorem ok_greatest {f g : Addr} {fd gd : FuncData} (F : Fun K "greatest_within" "greatest_within" sGreatest f fd) (T : Bl mg) (D1 : Def K mg "had_by_all" sHadAll g gd ["several"]) : FnOk P w K mg base CX0 2 f fd ["holding_sets", "full_sets"] (spGreatest K) := by
  have G : FnOk P w K mg base CX0 1 g gd ["several"] (spHadAll K) := ok_hadAll D1.fn
  refine F.ok scGreatest (fun vs H Q E h => ?_) (fun cdv A outer s H vs Q E hr h => ?_)
  · obtain ⟨a, b, F, rfl, _⟩ := h
    rfl
  · obtain ⟨a, b, F, rfl, ha, hb, hn, k⟩ := h
    refine ⟨_, pss_cons (ps_set (i := 2) scGreatest.nd rfl (Or.inr rfl) (pe_call G hr rfl D1.mg D1.fn.kp D1.b .nil pass0 (pa_cons (pv 1) pa_nil)))
      (pss_one (ps_ret (pe_callB (cr_max rfl) (by rfl) T.max bootMax (pa_cons
        (pe_lc (own := [("members", 3)]) rfl scGreatest.nd (pi_list (pv 0)) (blkOk_by (by kernel_rfl))
          (fun _ _ _ _ _ => pg_name (i := 3) scGreatest.nd rfl (Or.inl rfl))
          (fun _ _ _ _ _ => pts_one (pt_not (pt_int (pe_op op_and (pv 3) (pe_un un_inv (pv 2))))))
          (fun _ _ _ _ _ => pv 3)) pa_nil)))), ?_⟩
    obtain ⟨u, hu⟩ := full_some F
    obtain ⟨t, ht0⟩ : ∃ t, (ofKinds F 3)[0]? = some t := by
      cases e : ofKinds F 3 with
      | nil => rw [e] at hu; cases hu
      | cons t l => exact ⟨t, rfl⟩
    have ht : t ∈ ofKinds F 3 := List.mem_of_getElem? ht0
    refine ⟨_, rfl, b, _, t, rfl, hb, ht0, ?_⟩
    refine ⟨_, rfl, a, rfl, ⟨_, ha⟩, fun D hD => ?_⟩
    have hz : (ofKinds F 1).length ≤ sizeLine := ST.small_line (by have := kinds_len 1 hn; omega)
    refine lc_listV (h := nV) hD ha (fun s => under s (landAll t (ofKinds F 3))) nV (fun j z H4 hj hs4 hl4 hlen N hN => ?_) hz (fun H4 hs4 hl4 => ?_)
    · refine ⟨rfl, _, rfl, _, rfl, _, rfl, _, _, rfl, rfl, _, rfl, ?_⟩
      have h := hN H4 (Same.refl _) hl4
      refine iteE2 (c := under z (landAll t (ofKinds F 3))) (by rw [andNot_zero, Bool.not_not]) (fun hc => ?_) (fun hc => ?_)
      · rw [hc, if_pos rfl] at h
        exact ⟨_, rfl, _, hl4, hlen, h⟩
      · rw [hc, if_neg Bool.false_ne_true] at h
        exact h
    · have h0 : (0 : Nat) ∈ (ofKinds F 1).filter (fun s => under s (landAll t (ofKinds F 3))) := (within_mem ht).mpr ⟨Nat.pow_pos (by decide), within_iff.mpr ⟨holds_zero F, fun t _ => under_iff.mpr fun i h => by simp at h⟩⟩
      refine ⟨D, ((ofKinds F 1).filter fun s => under s (landAll t (ofKinds F 3))).map fun (n : Nat) => (n : Int), rfl, SqL.of (by rw [hl4, List.map_map]; rfl), ?_, fun M hM hMx => ?_⟩
      · rw [List.length_map]
        exact List.length_pos_of_mem h0
      · obtain ⟨m, hm, rfl⟩ := List.mem_map.mp hM
        obtain ⟨h1, h2⟩ := (within_mem ht).mp hm
        have e : idealOf F = m := ideal_max h1 h2 fun s hs hw => by
          have := hMx ((s : Nat) : Int) (List.mem_map.mpr ⟨s, (within_mem ht).mpr ⟨hs, hw⟩, rfl⟩)
          omega
        have k' := k H4 hs4
        rw [e] at k'
        exact k'
end
end Bt

set_option linter.all false
set_option maxRecDepth 100000
set_option Elab.async false
namespace Bt
open PySem L2 Rc77 Ar
abbrev sIdeal : Stmt := inClass cArguments 7
abbrev sRound : Stmt := inClass cArguments 8
abbrev sAnswer : Stmt := inClass cArguments 9
abbrev sStatus : Stmt := inClass cArguments 10
abbrev sCut : Stmt := inClass cArguments 11
abbrev sHasAllM : Stmt := inClass cArguments 13
theorem out_refused {F : Rc77.Frame} {call : Rc77.Call} (e : does ⟨F⟩ call = (⟨F⟩, refused)) : (does ⟨F⟩ call).1.frame = F ∧ outL F call = [-1] := by
  unfold outL
  rw [e]
  exact ⟨rfl, rfl⟩
theorem out_of {F G : Rc77.Frame} {call : Rc77.Call} {v : Int} {ns : List Nat} (e : does ⟨F⟩ call = (⟨G⟩, { value := v, numbers := ns })) : (does ⟨F⟩ call).1.frame = G ∧ outL F call = v :: ns.map fun (n : Nat) => (n : Int) := by
  unfold outL
  rw [e]
  exact ⟨rfl, rfl⟩
section
variable {P : Program} {w : World} {K : PySem.W.Frag} {mg : Str → Option Value} {base : Heap} {Z : Addr → Prop}
/-- a method's end: the answer is a new list, who beats whom is as it was -/
theorem end_kept {C : Addr} {H H1 H2 : Hp} {p b d : Addr} {F : Rc77.Frame} {kvs' : List (Key × V)} {c c' : Nat} {call : Rc77.Call} {Q : VK} (k : EndM C Z H p d c F call Q) (e1 : (does ⟨F⟩ call).1.frame = F) (S1 : ArgsAt C Z H1 p b d F kvs' c') (hc : c' ≤ c + 2)
    (kp : ∀ x o, H x = some o → x ≠ d → H1 x = some o) (hs : Same H1 H2) {r : Addr} (hr : H2 r = none) {vs : List V} (e2 : (outL F call).map V.int = vs) : Q (.ref r) (upd H2 r (.lst vs)) := by
  refine k r b d kvs' _ (by rw [e1]; exact (S1.same (hs.trans (Same.add hr))).mono hc) (by rw [e2]; exact upd_same) (S1.newZ (hs.free hr)) fun x o e _ hd => (hs.trans (Same.add hr)) x o (kp x o e hd)
theorem is_eq (F : Rc77.Frame) (a : Int) : (⟨F⟩ : Abs).is a = (decide (0 ≤ a) && decide (a < F.length)) := by
  unfold Abs.is
  rw [Bool.eq_iff_iff]
  simp only [Bool.and_eq_true, decide_eq_true_eq]
  constructor
  · rintro ⟨h1, h2⟩
    exact ⟨h1, by omega⟩
  · rintro ⟨h1, h2⟩
    exact ⟨h1, by omega⟩
def spHasAllM (C : Addr) (Z : Addr → Prop) : Sp := fun vs H Q _ => ∃ (p b d : Addr) (F : Rc77.Frame) (kvs : List (Key × V)) (c m : Nat), vs = [.ref p, nV m] ∧ ArgsAt C Z H p b d F kvs c ∧ Q (.bl (decide (m < 2 ^ F.length))) H
theorem scHasAllM : FnScope ["self", "members"] ["self", "members"] (defScope sHasAllM) := ⟨rfl, rfl, rfl, by decide +kernel, rfl, by decide +kernel, by decide +kernel⟩
theorem shr_ne (m n : Nat) : ((m : Int) / 2 ^ n != 0) = decide (2 ^ n ≤ m) := by
  rw [nat_pow, ← Int.natCast_ediv]
  have h : 0 < 2 ^ n := Nat.pow_pos (by decide)
  rw [Bool.eq_iff_iff, bne_iff_ne, decide_eq_true_eq]
  constructor
  · intro h1
    rcases Nat.lt_or_ge m (2 ^ n) with z | z
    · exact absurd (by rw [Nat.div_eq_of_lt z]; rfl) h1
    · exact z
  · intro h1 h2
    have := Nat.div_pos h1 h
    omega
theorem ok_hasAllM {f C : Addr} {fd : FuncData} (F : Fun K "has_all" "Arguments.has_all" sHasAllM f fd) (B : Bl mg) (T : Cl K mg C) : FnOk P w K mg base CX0 1 f fd ["self", "members"] (spHasAllM C Z) := by
  refine F.ok scHasAllM (fun vs H Q E h => ?_) (fun cdv A outer s H vs Q E hr h => ?_)
  · obtain ⟨p, b, d, F, kvs, c, m, rfl, _⟩ := h
    rfl
  · obtain ⟨p, b, d, F, kvs, c, m, rfl, S, q⟩ := h
    obtain ⟨dx, hp⟩ := S.ob
    refine ⟨_, pss_one (ps_ret (pe_notI (pe_op op_shr (pv 1) (pe_callB call_len_seq (by rfl) B.len PySem.boot_len (pa_cons (pe_fld (pv 0) rfl) pa_nil))))), ?_⟩
    refine ⟨_, rfl, _, rfl, p, C, dx, _, _, rfl, hp, T.cl, T.nB, flds_beats _ _, b, _, rfl, .inl (SqL.of S.bt), _, _, rfl, rfl, (by omega), _, rfl, ?_⟩
    have e : V.bl (!(((m : Int) / 2 ^ ((((F.map nV).length : Nat) : Int)).toNat) != 0)) = V.bl (decide (m < 2 ^ F.length)) := by
      rw [List.length_map, Int.toNat_natCast, shr_ne, ← decide_not]
      simp only [Nat.not_le]
    rw [← e] at q
    exact q
def spIs (C : Addr) (Z : Addr → Prop) : Sp := fun vs H Q _ => ∃ (p b d : Addr) (F : Rc77.Frame) (kvs : List (Key × V)) (c : Nat) (kind : Int) (m : Nat), vs = [.ref p, .int kind, nV m] ∧ ArgsAt C Z H p b d F kvs c ∧ c ≤ 900 ∧ EndM C Z H p d c F (.is kind m) Q
theorem scIs : FnScope ["self", "kind", "members"] ["self", "kind", "members"] (defScope sIs) := ⟨rfl, rfl, rfl, by decide +kernel, rfl, by decide +kernel, by decide +kernel⟩
theorem ok_is {f C g1 g2 g3 : Addr} {fd gd1 gd2 gd3 : FuncData} (F : Fun K "is_of_kind" "Arguments.is_of_kind" sIs f fd) (B : Bl mg) (T : Cl K mg C) (N : Nums mg) (d1 : Def K mg "is_kind" sIsKind g1 gd1 ["kind"]) (G1 : FnOk P w K mg base CX0 1 g1 gd1 ["kind"] spIsKind)
    (d2 : MDef K C "of_kind" "Arguments.of_kind" sOfKind g2 gd2 ["self", "kind"]) (G2 : FnOk P w K mg base CX0 8 g2 gd2 ["self", "kind"] (spOfKind C Z)) (d3 : MDef K C "has_all" "Arguments.has_all" sHasAllM g3 gd3 ["self", "members"]) : FnOk P w K mg base CX0 9 f fd ["self", "kind", "members"] (spIs C Z) := by
  have G3 : FnOk P w K mg base CX0 1 g3 gd3 ["self", "members"] (spHasAllM C Z) := ok_hasAllM d3.fn B T
  obtain ⟨t1, hrefd⟩ := N.refused
  refine F.ok scIs (fun vs H Q E h => ?_) (fun cdv A outer s H vs Q E hr h => ?_)
  · obtain ⟨p, b, d, F, kvs, c, kind, m, rfl, _⟩ := h
    rfl
  · obtain ⟨p, b, d, F, kvs, c, kind, m, rfl, S, hc, k⟩ := h
    obtain ⟨dx, hp⟩ := S.ob
    have hr1 : Room 1 _ := hr.mono (by decide)
    refine ⟨_, pss_cons (ps_if (PW.pt (pw_or (pt_not (pt_val (pe_call G1 hr1 rfl d1.mg d1.fn.kp d1.b .nil pass0 (pa_cons (pv 1) pa_nil))))
        (pw_or1 (pt_not (pt_val (pe_meth (pv 0) T.cl d3.me G3 hr1 d3.b .nil pass0 (pa_cons (pv 2) pa_nil)))))))
        (pss_one (ps_ret (pe_lst (pa_cons (pe_glob (v := .int (-1)) rfl hrefd ⟨_, rfl⟩) pa_nil)))) pss_nil)
      (pss_one (ps_ret (pe_lst (pa_cons (pe_ifExp (pt_cmpR (op_inK K) (pv 2) (pe_meth (pv 0) T.cl d2.me G2 hr d2.b .nil pass0 (pa_cons (pv 1) pa_nil)) (by rfl)) pe_int pe_int) pa_nil)))), ?_⟩
    have no : does ⟨F⟩ (.is kind m) = (⟨F⟩, refused) → (1 : Nat) ≤ sizeLine ∧ ∀ r, H r = none → Q (.ref r) (upd H r (.lst [V.int (-1)])) := fun e => by
      obtain ⟨e1, e2⟩ := out_refused e
      exact ⟨by decide, fun r hr' => end_kept k e1 S (by omega) (fun x o z _ => z) (Same.refl _) hr' (by rw [e2]; rfl)⟩
    refine ⟨_, rfl, kind, rfl, _, rfl, ?_⟩
    rw [← between6]
    refine iteE2 (c := !between kind 0 6) rfl (fun hb => iteT ?_) (fun hb => ?_)
    · exact no (if_pos (.inl (by simpa using hb)))
    · have hb' : between kind 0 6 = true := by simpa using hb
      refine ⟨_, rfl, p, dx, _, rfl, hp, flds_no _ _ (by decide +kernel) (by decide +kernel), _, rfl, p, b, d, F, kvs, c, m, rfl, S, _, rfl, ?_⟩
      refine iteE2 (c := !decide (m < 2 ^ F.length)) rfl (fun hm => ?_) (fun hm => ?_)
      · exact no (if_pos (.inr (by simpa using hm)))
      · have hm' : m < 2 ^ F.length := by simpa using hm
        have hk : 0 ≤ kind ∧ kind < 7 := by
          rw [between6] at hb'
          simpa using hb'
        have ek : kind = (kind.toNat : Int) := by omega
        have e : does ⟨F⟩ (.is kind m) = (⟨F⟩, { value := (bit (ofKind F kind.toNat m) : Nat) }) := if_neg (fun z => z.elim (fun z => by rw [hb'] at z; cases z) (fun z => by have z' : 2 ^ F.length ≤ m := z; omega))
        obtain ⟨e1, e2⟩ := out_of e
        refine ⟨_, rfl, _, rfl, p, dx, _, rfl, hp, flds_no _ _ (by decide +kernel) (by decide +kernel), _, rfl, p, b, d, F, kvs, c, kind.toNat, (by rw [← ek]; rfl), by omega, S, by omega, fun l kvs' H1 S1 hl1 kp1 => ?_⟩
        refine ⟨l, _, rfl, .inl (SqL.of hl1), rfl, flat_nats _, _, rfl, ?_⟩
        have ec : (ofKinds F kind.toNat).contains m = ofKind F kind.toNat m := by
          rw [Bool.eq_iff_iff, List.contains_iff_mem, mem_kinds]
          exact ⟨fun z => z.2, fun z => ⟨hm', z⟩⟩
        refine iteE2 (c := ofKind F kind.toNat m) ((inV_nats _ _).trans ec) (fun hi => ?_) (fun hi => ?_)
        · refine ⟨(by show 1 ≤ sizeLine; decide), fun r hr' => end_kept k e1 S1 (by omega) kp1 (Same.refl _) hr' ?_⟩
          rw [e2, hi]
          rfl
        · refine ⟨(by show 1 ≤ sizeLine; decide), fun r hr' => end_kept k e1 S1 (by omega) kp1 (Same.refl _) hr' ?_⟩
          rw [e2, hi]
          rfl
def spPut (K : PySem.W.Frag) (C : Addr) (Z : Addr → Prop) : Sp := fun vs H Q _ => ∃ (p b d q : Addr) (F : Rc77.Frame) (kvs : List (Key × V)) (c : Nat) (l : List Nat), vs = [.ref p, .ref q] ∧ ArgsAt C Z H p b d F kvs c ∧ SqL K H q (l.map nV) ∧ l.length ≤ 16 ∧ EndM C Z H p d c F (.set l (l.length : Int)) Q
theorem scPut : FnScope ["self", "beats", "number"] ["self", "beats"] (defScope sPut) := ⟨rfl, rfl, rfl, by decide +kernel, rfl, by decide +kernel, by decide +kernel⟩
theorem set_cond {l : List Nat} (h : l.length ≤ 16) : (between (l.length : Int) 0 MOST && l.length == ((l.length : Int)).toNat) = true := by
  unfold between MOST
  rw [Bool.and_eq_true, Bool.and_eq_true, decide_eq_true_eq, decide_eq_true_eq]
  refine ⟨⟨by omega, by omega⟩, ?_⟩
  rw [Int.toNat_natCast]
  exact beq_self_eq_true _
/-- behind become with a list at nb, the answer [0] -/
theorem end_become {C : Addr} {H H1 H2 : Hp} {p b d : Addr} {nb nd : Addr} {F G : Rc77.Frame} {c : Nat} {call : Rc77.Call} {Q : VK} (k : EndM C Z H p d c F call Q) (e1 : (does ⟨F⟩ call).1.frame = G) (hs : Same H H1)
    (S1 : ArgsAt C Z H2 p nb nd G [] 0) (kp : ∀ x o, H1 x = some o → x ≠ p → H2 x = some o) {H3 : Hp} (hs3 : Same H2 H3) {r : Addr} (hr : H3 r = none) {vs : List V} (e2 : (outL F call).map V.int = vs) : Q (.ref r) (upd H3 r (.lst vs)) := by
  refine k r nb nd [] _ (by rw [e1]; exact (S1.same (hs3.trans (Same.add hr))).mono (Nat.zero_le _)) (by rw [e2]; exact upd_same) (S1.newZ (hs3.free hr)) fun x o e hx _ => (hs3.trans (Same.add hr)) x o (kp x o (hs x o e) hx)
theorem ok_put {f C g : Addr} {fd gd : FuncData} (F : Fun K "put" "Arguments.put" sPut f fd) (B : Bl mg) (T : Cl K mg C) (N : Nums mg) (d1 : MDef K C "become" "Arguments.become" sBecome g gd ["self", "beats"]) : FnOk P w K mg base CX0 2 f fd ["self", "beats"] (spPut K C Z) := by
  have G : FnOk P w K mg base CX0 1 g gd ["self", "beats"] (spBecome C Z) := ok_become d1.fn T
  obtain ⟨t0, hdone⟩ := N.done
  obtain ⟨t1, hrefd⟩ := N.refused
  obtain ⟨t2, hmost⟩ := N.most
  refine F.ok scPut (fun vs H Q E h => ?_) (fun cdv A outer s H vs Q E hr h => ?_)
  · obtain ⟨p, b, d, q, F, kvs, c, l, rfl, _⟩ := h
    rfl
  · obtain ⟨p, b, d, q, F, kvs, c, l, rfl, S, hq, hn, k⟩ := h
    obtain ⟨dx, hp⟩ := S.ob
    refine ⟨_, pss_cons (ps_if (PW.pt (pw_or (pt_cmpR op_gt (pe_callB call_len_seq (by rfl) B.len PySem.boot_len (pa_cons (pv 1) pa_nil)) (pe_glob (v := .int 16) rfl hmost ⟨_, rfl⟩) (nomark _))
        (pw_or1 (pt_val (pe_callB (cr_anyI rfl) (by rfl) B.any PyProof.Rows.boot_any (pa_cons
          (pe_lc (own := [("number", 2)]) rfl scPut.nd (pi_list (pv 1)) (blkOk_by (by kernel_rfl))
            (fun _ _ _ _ _ => pg_name (i := 2) scPut.nd rfl (Or.inl rfl))
            (fun _ _ _ _ _ => pts_nil)
            (fun _ _ _ _ _ => pe_op op_shr (pv 2) (pe_callB (call_lenK K) (by rfl) B.len PySem.boot_len (pa_cons (pv 1) pa_nil)))) pa_nil))))))
        (pss_one (ps_ret (pe_lst (pa_cons (pe_glob (v := .int (-1)) rfl hrefd ⟨_, rfl⟩) pa_nil)))) pss_nil)
      (pss_cons (ps_expr (pe_meth (pv 0) T.cl d1.me G hr d1.b .nil pass0 (pa_cons (pe_callTy call_list_of (by rfl) B.list PyProof.Rows.boot_list (pa_cons (pv 1) pa_nil)) pa_nil)))
      (pss_one (ps_ret (pe_lst (pa_cons (pe_glob (v := .int 0) rfl hdone ⟨_, rfl⟩) pa_nil))))), ?_⟩
    refine ⟨_, rfl, q, _, rfl, .inl hq, _, _, rfl, rfl, _, rfl, ?_⟩
    have e16 : decide ((16 : Int) < (((l.map nV).length : Nat) : Int)) = false := by
      rw [List.length_map]
      simp
      omega
    rw [e16]
    refine iteF ?_
    refine ⟨_, rfl, q, rfl, ⟨_, hq⟩, fun D hD => ?_⟩
    refine lc_listV (h := nV) hD hq (fun _ => true) (fun m => V.int ((m : Int) / 2 ^ l.length)) (fun j z H4 hj hs4 hl4 hlen N hN => ?_) (ST.small_line (by omega)) (fun H4 hs4 hl4 => ?_)
    · refine ⟨rfl, yes_do ?_⟩
      have h := hN H4 (Same.refl _) hl4
      rw [if_pos rfl] at h
      refine ⟨_, rfl, _, rfl, q, _, rfl, .inl (hs4.seq hq), _, _, rfl, rfl, (by omega), _, hl4, hlen, ?_⟩
      have e : V.int (((z : Nat) : Int) / 2 ^ ((((l.map nV).length : Nat) : Int)).toNat) = V.int ((z : Int) / 2 ^ l.length) := by rw [List.length_map, Int.toNat_natCast]
      rw [← e] at h
      exact h
    · rw [filter_all] at hl4
      refine ⟨D, l.map fun (m : Nat) => ((m : Int) / 2 ^ l.length), rfl, SqL.of (by rw [hl4, List.map_map]; rfl), _, rfl, ?_⟩
      have ea : (l.map fun (m : Nat) => ((m : Int) / 2 ^ l.length)).any (· != 0) = l.any fun m => decide (2 ^ l.length ≤ m) := by
        rw [List.any_map]
        congr 1
        funext m
        exact shr_ne m l.length
      refine iteE2 ea (fun ha => ?_) (fun ha => ?_)
      · have e : does ⟨F⟩ (.set l (l.length : Int)) = (⟨F⟩, refused) := if_pos (.inr (by rw [Int.toNat_natCast]; exact ha))
        obtain ⟨e1, e2⟩ := out_refused e
        exact ⟨by show 1 ≤ sizeLine; decide, fun r hr' => end_kept k e1 S (by omega) (fun x o z _ => z) hs4 hr' (by rw [e2]; rfl)⟩
      · have e : does ⟨F⟩ (.set l (l.length : Int)) = (⟨l⟩, { value := 0 }) := if_neg (by
          rintro (z | z)
          · rw [set_cond hn] at z; cases z
          · rw [Int.toNat_natCast, ha] at z; cases z)
        obtain ⟨e1, e2⟩ := out_of e
        have hw : Wf l := fun m hm => by
          have := List.any_eq_false.mp ha m hm
          simpa using this
        have hp4 := hs4 _ _ hp
        refine ⟨_, rfl, p, dx, _, rfl, hp4, flds_no _ _ (by decide +kernel) (by decide +kernel), _, rfl, q, _, rfl, .inl (hs4.seq hq), fun nb hnb => ?_⟩
        have npb : p ≠ nb := ne_of_none hp4 hnb
        refine ⟨p, dx, b, d, nb, l, rfl, (by rw [upd_ne npb]; exact hp4), upd_same, hn, hw, S.newZ (hs4.free hnb), S.zs (hs4.trans (Same.add hnb)), fun nd H5 S5 kp5 => ?_⟩
        exact ⟨by show 1 ≤ sizeLine; decide, fun r hr' => end_become (b := b) k e1 (hs4.trans (Same.add hnb)) S5 kp5 (Same.refl _) hr' (by rw [e2]; rfl)⟩
def spTurn (C : Addr) (Z : Addr → Prop) : Sp := fun vs H Q _ => ∃ (p b d : Addr) (F : Rc77.Frame) (kvs : List (Key × V)) (c : Nat) (x y on : Int), vs = [.ref p, .int x, .int y, .int on] ∧ ArgsAt C Z H p b d F kvs c ∧ EndM C Z H p d c F (.turn x y on) Q
theorem scTurn : FnScope ["self", "a", "b", "on", "beats"] ["self", "a", "b", "on"] (defScope sTurn) := ⟨rfl, rfl, rfl, by decide +kernel, rfl, by decide +kernel, by decide +kernel⟩
theorem set_map (F : Rc77.Frame) (a v : Nat) : (F.map nV).set a (nV v) = (F.set a v).map nV := by rw [List.map_set]
theorem getD_set {F : Rc77.Frame} {a v : Nat} (h : a < F.length) : (F.set a v).getD a 0 = v := by
  rw [List.getD_eq_getElem?_getD, List.getElem?_set_self h]
  rfl
theorem ok_turn {f C g1 g2 : Addr} {fd gd1 gd2 : FuncData} (F : Fun K "turn" "Arguments.turn" sTurn f fd) (B : Bl mg) (T : Cl K mg C) (N : Nums mg) (d1 : MDef K C "become" "Arguments.become" sBecome g1 gd1 ["self", "beats"])
    (d2 : MDef K C "has" "Arguments.has" sHas g2 gd2 ["self", "a"]) : FnOk P w K mg base CX0 2 f fd ["self", "a", "b", "on"] (spTurn C Z) := by
  have G : FnOk P w K mg base CX0 1 g1 gd1 ["self", "beats"] (spBecome C Z) := ok_become d1.fn T
  have G2 : FnOk P w K mg base CX0 1 g2 gd2 ["self", "a"] (spHas C Z) := ok_has d2.fn B T
  obtain ⟨t0, hdone⟩ := N.done
  obtain ⟨t1, hrefd⟩ := N.refused
  refine F.ok scTurn (fun vs H Q E h => ?_) (fun cdv A outer s H vs Q E hr h => ?_)
  · obtain ⟨p, b, d, F, kvs, c, x, y, on, rfl, _⟩ := h
    rfl
  · obtain ⟨p, b, d, F, kvs, c, x, y, on, rfl, S, k⟩ := h
    obtain ⟨dx, hp⟩ := S.ob
    refine ⟨_, pss_cons (ps_if (PW.pt (pw_or (pt_not (pt_val (pe_meth (pv 0) T.cl d2.me G2 hr d2.b .nil pass0 (pa_cons (pv 1) pa_nil))))
        (pw_or1 (pt_not (pt_val (pe_meth (pv 0) T.cl d2.me G2 hr d2.b .nil pass0 (pa_cons (pv 2) pa_nil)))))))
        (pss_one (ps_ret (pe_lst (pa_cons (pe_glob (v := .int (-1)) rfl hrefd ⟨_, rfl⟩) pa_nil)))) pss_nil)
      (pss_cons (ps_set (i := 4) scTurn.nd rfl (Or.inl rfl) (pe_callTy call_list_of (by rfl) B.list PyProof.Rows.boot_list (pa_cons (pe_fld (pv 0) rfl) pa_nil)))
      (pss_cons (ps_asg (pe_op op_and (pe_ix (ix_listK K) (pv 4) (pv 1) (fun _ _ => rfl)) (pe_un un_inv (pe_op op_shl pe_int (pv 2)))) (pg_sub (pv 4) (pv 1) set_list))
      (pss_cons (ps_if (pt_cmpR op_ne (pv 3) pe_int (nomark _)) (pss_one (ps_asg (pe_op op_or (pe_ix (ix_listK K) (pv 4) (pv 1) (fun _ _ => rfl)) (pe_op op_shl pe_int (pv 2))) (pg_sub (pv 4) (pv 1) set_list))) pss_nil)
      (pss_cons (ps_expr (pe_meth (pv 0) T.cl d1.me G hr d1.b .nil pass0 (pa_cons (pv 4) pa_nil)))
      (pss_one (ps_ret (pe_lst (pa_cons (pe_glob (v := .int 0) rfl hdone ⟨_, rfl⟩) pa_nil)))))))), ?_⟩
    have no : ((⟨F⟩ : Abs).is x && (⟨F⟩ : Abs).is y) = false → (1 : Nat) ≤ sizeLine ∧ ∀ r, H r = none → Q (.ref r) (upd H r (.lst [V.int (-1)])) := fun e => by
      obtain ⟨e1, e2⟩ := out_refused (F := F) (call := .turn x y on) (if_pos e)
      exact ⟨by decide, fun r hr' => end_kept k e1 S (by omega) (fun x o z _ => z) (Same.refl _) hr' (by rw [e2]; rfl)⟩
    refine ⟨_, rfl, p, dx, _, rfl, hp, flds_no _ _ (by decide +kernel) (by decide +kernel), _, rfl, p, b, d, F, kvs, c, x, rfl, S, _, rfl, ?_⟩
    rw [← is_eq]
    refine iteE2 (c := !(⟨F⟩ : Abs).is x) rfl (fun hx => iteT ?_) (fun hx => ?_)
    · exact no (by have : (⟨F⟩ : Abs).is x = false := by simpa using hx
                   rw [this, Bool.false_and])
    · have hx' : (⟨F⟩ : Abs).is x = true := by simpa using hx
      refine ⟨_, rfl, p, dx, _, rfl, hp, flds_no _ _ (by decide +kernel) (by decide +kernel), _, rfl, p, b, d, F, kvs, c, y, rfl, S, _, rfl, ?_⟩
      rw [← is_eq]
      refine iteE2 (c := !(⟨F⟩ : Abs).is y) rfl (fun hy => ?_) (fun hy => ?_)
      · exact no (by have : (⟨F⟩ : Abs).is y = false := by simpa using hy
                     rw [this, Bool.and_false])
      · have hy' : (⟨F⟩ : Abs).is y = true := by simpa using hy
        have ex : 0 ≤ x ∧ x < F.length := by rw [is_eq] at hx'; simpa using hx'
        have ey : 0 ≤ y ∧ y < F.length := by rw [is_eq] at hy'; simpa using hy'
        have hxa : x = (x.toNat : Int) := by omega
        have hya : y = (y.toNat : Int) := by omega
        have ha : x.toNat < F.length := by omega
        have hb : y.toNat < F.length := by omega
        generalize x.toNat = a at hxa ha
        generalize y.toNat = bb at hya hb
        subst hxa hya
        have hlen := S.len
        have e : does ⟨F⟩ (.turn (a : Int) (bb : Int) on) = (⟨F.set a (Rc77.put (F.getD a 0) bb (decide (on ≠ 0)))⟩, { value := 0 }) := if_neg (by rw [hx', hy']; decide)
        obtain ⟨e1, e2⟩ := out_of e
        refine ⟨_, rfl, p, C, dx, _, _, rfl, hp, T.cl, T.nB, flds_beats _ _, b, _, rfl, .inl (SqL.of S.bt), fun nb hnb => ?_⟩
        have npb : p ≠ nb := ne_of_none hp hnb
        have hl0 : (upd H nb (.lst (F.map nV))) nb = some (.lst (F.map nV)) := upd_same
        refine ⟨_, rfl, _, rfl, nb, _, _, _, rfl, rfl, SqL.of hl0, at_of (j := a) rfl (frame_at ha), _, rfl, _, _, rfl, rfl, ⟨by omega, by omega, by decide⟩, _, rfl, _, _, rfl, rfl, ?_⟩
        have hix : ixN (F.map nV).length (a : Int) = some a := by
          unfold ixN
          rw [if_pos (by omega), if_pos (by rw [List.length_map]; omega), Int.toNat_natCast]
        refine ⟨_, rfl, _, rfl, nb, _, _, a, rfl, rfl, hl0, hix, ?_⟩
        rw [upd_upd]
        have ev : V.int (Builtin.bitAnd ((F.getD a 0 : Nat) : Int) (Builtin.bitNot ((1 : Int) * 2 ^ ((bb : Int)).toNat))) = nV (Rc77.put (F.getD a 0) bb false) := by
          rw [Int.toNat_natCast, shl_one, andNot_nat, put_off]
        have go : ∀ (G0 : Rc77.Frame) (H5 : Hp), G0 = F.set a (Rc77.put (F.getD a 0) bb (decide (on ≠ 0))) → H5 = upd H nb (.lst (G0.map nV)) → ∀ σ : St, σ = [some (V.ref p), some (V.int (a : Int)), some (V.int (bb : Int)), some (V.int on), some (V.ref nb)] →
            (tDrop (tMeth C "become" (spBecome C Z) [] E0 (tVar 0) (tCons (tVar 4) tNil))) { nx := fun σ H => (tRet (tLst (tCons (tC (V.int 0)) tNil))) { nx := fun _ H => Q .non H, rt := Q, bk := fun _ _ => False, ct := fun _ _ => False } σ H, rt := Q, bk := fun _ _ => False, ct := fun _ _ => False } σ H5 := by
          rintro G0 H5 eG rfl σ rfl
          have hG : G0.length = F.length := by rw [eG, List.length_set]
          refine ⟨_, rfl, p, dx, _, rfl, (by rw [upd_ne npb]; exact hp), flds_no _ _ (by decide +kernel) (by decide +kernel), _, rfl, p, dx, b, d, nb, G0, rfl, (by rw [upd_ne npb]; exact hp), upd_same, by omega, (by rw [eG]; exact turn_wf S.wf ha hb _), S.newZ hnb, S.zs (Same.add hnb), fun nd H6 S6 kp6 => ?_⟩
          exact ⟨by show 1 ≤ sizeLine; decide, fun r hr' => end_become (b := b) k (e1.trans eG.symm) (Same.add hnb) S6 kp6 (Same.refl _) hr' (by rw [e2]; rfl)⟩
        refine ⟨_, rfl, rfl, _, rfl, ?_⟩
        have eo : (!decide (V.int on = V.int 0)) = decide (on ≠ 0) := by
          rw [dec_int]
          by_cases z : on = 0
          · subst z; rfl
          · rw [decide_eq_true z]
            have : (on == 0) = false := beq_eq_false_iff_ne.mpr z
            rw [this]
            rfl
        refine iteE2 eo (fun ho => ?_) (fun ho => ?_)
        · have hl1 : (upd H nb (.lst ((F.map nV).set a (V.int (Builtin.bitAnd ((F.getD a 0 : Nat) : Int) (Builtin.bitNot ((1 : Int) * 2 ^ ((bb : Int)).toNat))))))) nb = some (.lst ((F.set a (Rc77.put (F.getD a 0) bb false)).map nV)) := by
            rw [upd_same, ev, set_map]
          have hat : ((F.set a (Rc77.put (F.getD a 0) bb false)).map nV)[a]? = some (nV (Rc77.put (F.getD a 0) bb false)) := by
            rw [frame_at (by rw [List.length_set]; exact ha), getD_set ha]
          refine ⟨_, rfl, _, rfl, nb, _, _, _, rfl, rfl, SqL.of hl1, at_of (j := a) rfl hat, _, rfl, _, _, rfl, rfl, ⟨by omega, by omega, by decide⟩, _, _, rfl, rfl, ?_⟩
          have hix2 : ixN ((F.set a (Rc77.put (F.getD a 0) bb false)).map nV).length (a : Int) = some a := by
            rw [List.length_map, List.length_set]
            rw [List.length_map] at hix
            exact hix
          refine ⟨_, rfl, _, rfl, nb, _, _, a, rfl, rfl, hl1, hix2, ?_⟩
          rw [upd_upd]
          have ev2 : V.int (Builtin.bitOr ((Rc77.put (F.getD a 0) bb false : Nat) : Int) ((1 : Int) * 2 ^ ((bb : Int)).toNat)) = nV (Rc77.put (F.getD a 0) bb true) := by
            rw [Int.toNat_natCast, shl_one, or_nat, ← put_off, put_on]
          refine go (F.set a (Rc77.put (F.getD a 0) bb true)) _ (by rw [ho]) ?_ _ rfl
          refine congrArg (fun z => upd H nb (.lst z)) ?_
          refine (congrArg (fun z => ((F.set a (Rc77.put (F.getD a 0) bb false)).map nV).set a z) ev2).trans ?_
          rw [set_map, List.set_set]
        · refine go (F.set a (Rc77.put (F.getD a 0) bb false)) _ (by rw [ho]) ?_ _ rfl
          refine congrArg (fun z => upd H nb (.lst z)) ?_
          exact (congrArg (fun z => (F.map nV).set a z) ev).trans (set_map _ _ _)
end
end Bt

set_option linter.all false
set_option maxRecDepth 100000
set_option Elab.async false
namespace Bt
open PySem L2 Rc77 Ar
section
variable {P : Program} {w : World} {K : PySem.W.Frag} {mg : Str → Option Value} {base : Heap} {Z : Addr → Prop}
def spIdeal (C : Addr) (Z : Addr → Prop) : Sp := fun vs H Q _ => ∃ (p b d : Addr) (F : Rc77.Frame) (kvs : List (Key × V)) (c : Nat), vs = [.ref p] ∧ ArgsAt C Z H p b d F kvs c ∧ c ≤ 900 ∧ EndM C Z H p d c F .ideal Q
theorem scIdeal : FnScope ["self"] ["self"] (defScope sIdeal) := ⟨rfl, rfl, rfl, by decide +kernel, rfl, by decide +kernel, by decide +kernel⟩
theorem ok_ideal {f C g1 g2 g3 : Addr} {fd gd1 gd2 gd3 : FuncData} (F : Fun K "ideal" "Arguments.ideal" sIdeal f fd) (B : Bl mg) (T : Cl K mg C) (N : Nums mg) (d1 : Def K mg "greatest_within" sGreatest g1 gd1 ["holding_sets", "full_sets"])
    (d2 : MDef K C "of_kind" "Arguments.of_kind" sOfKind g2 gd2 ["self", "kind"]) (G2 : FnOk P w K mg base CX0 8 g2 gd2 ["self", "kind"] (spOfKind C Z)) (d3 : Def K mg "had_by_all" sHadAll g3 gd3 ["several"]) : FnOk P w K mg base CX0 9 f fd ["self"] (spIdeal C Z) := by
  have G1 : FnOk P w K mg base CX0 2 g1 gd1 ["holding_sets", "full_sets"] (spGreatest K) := ok_greatest d1.fn B d3
  obtain ⟨t0, hdone⟩ := N.done
  obtain ⟨t1, hhold⟩ := N.hold
  obtain ⟨t2, hfull⟩ := N.full
  refine F.ok scIdeal (fun vs H Q E h => ?_) (fun cdv A outer s H vs Q E hr h => ?_)
  · obtain ⟨p, b, d, F, kvs, c, rfl, _⟩ := h
    rfl
  · obtain ⟨p, b, d, F, kvs, c, rfl, S, hc, k⟩ := h
    obtain ⟨dx, hp⟩ := S.ob
    have hr2 : Room 2 _ := hr.mono (by decide)
    refine ⟨_, pss_one (ps_ret (pe_lst (pa_cons (pe_glob (v := .int 0) rfl hdone ⟨_, rfl⟩) (pa_cons (pe_call G1 hr2 rfl d1.mg d1.fn.kp d1.b .nil pass0
      (pa_cons (pe_meth (pv 0) T.cl d2.me G2 hr d2.b .nil pass0 (pa_cons (pe_glob (v := .int 1) rfl hhold ⟨_, rfl⟩) pa_nil))
      (pa_cons (pe_meth (pv 0) T.cl d2.me G2 hr d2.b .nil pass0 (pa_cons (pe_glob (v := .int 3) rfl hfull ⟨_, rfl⟩) pa_nil)) pa_nil))) pa_nil)))), ?_⟩
    refine ⟨_, rfl, p, dx, _, rfl, hp, flds_no _ _ (by decide +kernel) (by decide +kernel), p, b, d, F, kvs, c, 1, rfl, by decide, S, by omega, fun l1 kvs1 H1 S1 hl1 kp1 => ?_⟩
    obtain ⟨dx1, hp1⟩ := S1.ob
    refine ⟨_, rfl, p, dx1, _, rfl, hp1, flds_no _ _ (by decide +kernel) (by decide +kernel), p, b, d, F, kvs1, c + 1, 3, rfl, by decide, S1, by omega, fun l2 kvs2 H2 S2 hl2 kp2 => ?_⟩
    have hl1' := kp2 _ _ hl1 (ne_of hl1 S1.dc (by intro z; cases z))
    refine ⟨l1, l2, F, rfl, SqL.of hl1', SqL.of hl2, S.len, fun H3 hs3 => ?_⟩
    refine ⟨(by show 2 ≤ sizeLine; decide), fun r hr' => ?_⟩
    have e : does ⟨F⟩ .ideal = (⟨F⟩, { value := 0, numbers := [idealOf F] }) := rfl
    obtain ⟨e1, e2⟩ := out_of e
    exact end_kept k e1 S2 (by omega) (fun x o z hx => kp2 x o (kp1 x o z hx) hx) hs3 hr' (by rw [e2]; rfl)
def spRound (C : Addr) (Z : Addr → Prop) : Sp := fun vs H Q _ => ∃ (p b d : Addr) (F : Rc77.Frame) (kvs : List (Key × V)) (c : Nat) (a : Int), vs = [.ref p, .int a] ∧ ArgsAt C Z H p b d F kvs c ∧ EndM C Z H p d c F (.round a) Q
theorem scRound : FnScope ["self", "a", "found", "entered", "beaten", "members"] ["self", "a"] (defScope sRound) := ⟨rfl, rfl, rfl, by decide +kernel, rfl, by decide +kernel, by decide +kernel⟩
theorem roundsL_eq (F : Rc77.Frame) (n : Nat) : roundsL F n = ((List.range (n + 1)).map (rounds F)).map nV := by
  unfold roundsL
  rw [List.map_map]
  rfl
theorem find_in (F : Rc77.Frame) (a : Nat) : ((List.range (F.length + 1)).map (rounds F)).findIdx? (fun m => m.testBit a) = firstIn F a := findIdx_map (p := fun m => m.testBit a) (rounds F) (F.length + 1)
theorem find_out (F : Rc77.Frame) (a : Nat) : (((List.range (F.length + 1)).map (rounds F)).map (beatenBy F)).findIdx? (fun m => m.testBit a) = firstOut F a := by
  rw [List.map_map, findIdx_map (p := fun m => m.testBit a) (beatenBy F ∘ rounds F) (F.length + 1)]
  unfold firstOut
  congr 1
  funext k
  exact testBit_beatenBy F (rounds F k) a
theorem first_le {F : Rc77.Frame} {a k : Nat} (h : firstIn F a = some k) : 1 ≤ k ∧ k ≤ F.length := by
  obtain ⟨h1, h2, _⟩ := first_iff.mp h
  refine ⟨?_, by omega⟩
  cases k with
  | zero =>
    have h0 : rounds F 0 = 0 := rfl
    rw [h0, Nat.zero_testBit] at h1
    cases h1
  | succ k => omega
theorem ok_round {f C g1 g2 g3 g4 : Addr} {fd gd1 gd2 gd3 gd4 : FuncData} (F : Fun K "round_of" "Arguments.round_of" sRound f fd) (B : Bl mg) (T : Cl K mg C) (N : Nums mg) (d1 : Def K mg "rounds" sRounds g1 gd1 ["beats"]) (G1 : FnOk P w K mg base CX0 4 g1 gd1 ["beats"] (spRounds K))
    (d2 : MDef K C "has" "Arguments.has" sHas g2 gd2 ["self", "a"]) (d3 : Def K mg "first_with" sFirst g3 gd3 ["several", "a"]) (d4 : Def K mg "beaten_by" sBeatenBy g4 gd4 ["beats", "members"]) : FnOk P w K mg base CX0 5 f fd ["self", "a"] (spRound C Z) := by
  have G2 : FnOk P w K mg base CX0 1 g2 gd2 ["self", "a"] (spHas C Z) := ok_has d2.fn B T
  have G3 : FnOk P w K mg base CX0 1 g3 gd3 ["several", "a"] (spFirst K) := ok_first d3.fn B
  have G4 : FnOk P w K mg base CX0 1 g4 gd4 ["beats", "members"] (spBeatenBy K) := ok_beatenBy d4.fn B
  obtain ⟨t1, hrefd⟩ := N.refused
  refine F.ok scRound (fun vs H Q E h => ?_) (fun cdv A outer s H vs Q E hr h => ?_)
  · obtain ⟨p, b, d, F, kvs, c, a, rfl, _⟩ := h
    rfl
  · obtain ⟨p, b, d, F, kvs, c, a, rfl, S, k⟩ := h
    obtain ⟨dx, hp⟩ := S.ob
    have hr1 : Room 1 _ := hr.mono (by decide)
    refine ⟨_, pss_cons (ps_if (pt_not (pt_val (pe_meth (pv 0) T.cl d2.me G2 hr1 d2.b .nil pass0 (pa_cons (pv 1) pa_nil))))
        (pss_one (ps_ret (pe_lst (pa_cons (pe_glob (v := .int (-1)) rfl hrefd ⟨_, rfl⟩) pa_nil)))) pss_nil)
      (pss_cons (ps_set (i := 2) scRound.nd rfl (Or.inl rfl) (pe_call G1 hr rfl d1.mg d1.fn.kp d1.b .nil pass0 (pa_cons (pe_fld (pv 0) rfl) pa_nil)))
      (pss_cons (ps_set (i := 3) scRound.nd rfl (Or.inl rfl) (pe_call G3 hr1 rfl d3.mg d3.fn.kp d3.b .nil pass0 (pa_cons (pv 2) (pa_cons (pv 1) pa_nil))))
      (pss_cons (ps_if (pt_cmp (pc_notN (pv 3))) (pss_one (ps_ret (pe_lst (pa_cons (pe_op op_sub (pe_op op_mul pe_int (pv 3)) pe_int) pa_nil)))) pss_nil)
      (pss_cons (ps_set (i := 4) scRound.nd rfl (Or.inl rfl) (pe_call G3 hr1 rfl d3.mg d3.fn.kp d3.b .nil pass0 (pa_cons
        (pe_lc (own := [("members", 5)]) rfl scRound.nd (pi_list (pv 2)) (blkOk_by (by kernel_rfl))
          (fun _ _ _ _ _ => pg_name (i := 5) scRound.nd rfl (Or.inl rfl))
          (fun _ _ _ _ _ => pts_nil)
          (fun _ _ _ _ _ => pe_call G4 hr1 rfl d4.mg d4.fn.kp d4.b .nil pass0 (pa_cons (pe_fldK K (pv 0) rfl) (pa_cons (pv 5) pa_nil)))) (pa_cons (pv 1) pa_nil))))
      (pss_one (ps_ret (pe_lst (pa_cons (pe_ifExp (pt_cmp (pc_isN (pv 4))) pe_int (pe_op op_mul pe_int (pv 4))) pa_nil)))))))), ?_⟩
    refine ⟨_, rfl, p, dx, _, rfl, hp, flds_no _ _ (by decide +kernel) (by decide +kernel), _, rfl, p, b, d, F, kvs, c, a, rfl, S, _, rfl, ?_⟩
    rw [← is_eq]
    refine iteE2 (c := !(⟨F⟩ : Abs).is a) rfl (fun hx => ?_) (fun hx => ?_)
    · have e : (⟨F⟩ : Abs).is a = false := by simpa using hx
      obtain ⟨e1, e2⟩ := out_refused (F := F) (call := .round a) (if_pos e)
      exact ⟨by show 1 ≤ sizeLine; decide, fun r hr' => end_kept k e1 S (by omega) (fun x o z _ => z) (Same.refl _) hr' (by rw [e2]; rfl)⟩
    · have hx' : (⟨F⟩ : Abs).is a = true := by simpa using hx
      have ea : 0 ≤ a ∧ a < F.length := by rw [is_eq] at hx'; simpa using hx'
      have hxa : a = (a.toNat : Int) := by omega
      have e : does ⟨F⟩ (.round a) = (⟨F⟩, { value := (told F a.toNat : Nat) }) := if_neg (by rw [hx']; decide)
      obtain ⟨e1, e2⟩ := out_of e
      generalize a.toNat = x at hxa e2
      subst hxa
      have hlen := S.len
      refine ⟨_, rfl, p, C, dx, _, _, rfl, hp, T.cl, T.nB, flds_beats _ _, b, F, rfl, SqL.of S.bt, S.len, fun D H1 hD hs1 hl1 => ?_⟩
      rw [roundsL_eq] at hl1
      refine ⟨_, rfl, _, rfl, D, _, x, rfl, SqL.of hl1, fun H2 hs2 => ?_⟩
      rw [find_in]
      have hs02 := hs1.trans hs2
      cases ef : firstIn F x with
      | some n =>
        refine ⟨_, rfl, _, rfl, ?_⟩
        refine iteE2 (c := true) rfl (fun _ => ?_) (fun z => by cases z)
        obtain ⟨hn1, hn2⟩ := first_le ef
        refine ⟨_, rfl, _, _, rfl, rfl, .inl ⟨by decide, by decide⟩, _, _, rfl, rfl, (by show 1 ≤ sizeLine; decide), fun r hr' => ?_⟩
        refine end_kept k e1 S (by omega) (fun x o z _ => z) hs02 hr' ?_
        have et : told F x = 2 * n - 1 := by unfold told; rw [ef]
        rw [e2, et]
        have : ((2 * n - 1 : Nat) : Int) = 2 * (n : Int) - 1 := by omega
        rw [this]
        rfl
      | none =>
        refine ⟨_, rfl, _, rfl, ?_⟩
        refine iteE2 (c := false) rfl (fun z => by cases z) (fun _ => ?_)
        have hl2 := hs2 _ _ hl1
        refine ⟨_, rfl, D, rfl, ⟨_, SqL.of hl2⟩, fun D2 hD2 => ?_⟩
        refine lc_listV (h := nV) hD2 (SqL.of hl2) (fun _ => true) (fun m => nV (beatenBy F m)) (fun j z H4 hj hs4 hl4 hlen N hN => ?_) (by rw [List.length_map, List.length_range, sizeLine_eq]; omega) (fun H4 hs4 hl4 => ?_)
        · refine ⟨rfl, yes_do ?_⟩
          have hp4 := (hs02.trans hs4) _ _ hp
          refine ⟨_, rfl, p, C, dx, _, _, rfl, hp4, T.cl, T.nB, flds_beats _ _, _, rfl, b, F, z, rfl, SqL.of ((hs02.trans hs4) _ _ S.bt), S.len, fun H5 hs5 => ?_⟩
          have h := hN H5 hs5 (hs5 _ _ hl4)
          rw [if_pos rfl] at h
          exact ⟨_, hs5 _ _ hl4, hlen, h⟩
        · rw [filter_all] at hl4
          refine ⟨_, rfl, D2, ((List.range (F.length + 1)).map (rounds F)).map (beatenBy F), x, rfl, SqL.of (by rw [hl4, List.map_map (g := nV)]; rfl), fun H5 hs5 => ?_⟩
          rw [find_out]
          have hs05 := (hs02.trans hs4).trans hs5
          cases eo : firstOut F x with
          | some n =>
            refine ⟨_, rfl, _, rfl, ?_⟩
            refine iteE2 (c := false) rfl (fun z => by cases z) (fun _ => ?_)
            refine ⟨_, rfl, _, _, rfl, rfl, .inl ⟨by decide, by decide⟩, (by show 1 ≤ sizeLine; decide), fun r hr' => ?_⟩
            refine end_kept k e1 S (by omega) (fun x o z _ => z) hs05 hr' ?_
            have et : told F x = 2 * n := by unfold told; rw [ef, eo]
            rw [e2, et]
            have : ((2 * n : Nat) : Int) = 2 * (n : Int) := by omega
            rw [this]
            rfl
          | none =>
            refine ⟨_, rfl, _, rfl, ?_⟩
            refine iteE2 (c := true) rfl (fun _ => ?_) (fun z => by cases z)
            refine ⟨(by show 1 ≤ sizeLine; decide), fun r hr' => ?_⟩
            refine end_kept k e1 S (by omega) (fun x o z _ => z) hs05 hr' ?_
            have et : told F x = 0 := by unfold told; rw [ef, eo]
            rw [e2, et]
            rfl
def spAnswer (C : Addr) (Z : Addr → Prop) : Sp := fun vs H Q _ => ∃ (p b d : Addr) (F : Rc77.Frame) (kvs : List (Key × V)) (c : Nat) (a : Int), vs = [.ref p, .int a] ∧ ArgsAt C Z H p b d F kvs c ∧ EndM C Z H p d c F (.answer a) Q
theorem scAnswer : FnScope ["self", "b", "beaters", "members"] ["self", "b"] (defScope sAnswer) := ⟨rfl, rfl, rfl, by decide +kernel, rfl, by decide +kernel, by decide +kernel⟩
theorem ok_answer {f C g1 g2 g3 g4 : Addr} {fd gd1 gd2 gd3 gd4 : FuncData} (F : Fun K "answer_to" "Arguments.answer_to" sAnswer f fd) (B : Bl mg) (T : Cl K mg C) (N : Nums mg) (d1 : Def K mg "rounds" sRounds g1 gd1 ["beats"]) (G1 : FnOk P w K mg base CX0 4 g1 gd1 ["beats"] (spRounds K))
    (d2 : MDef K C "has" "Arguments.has" sHas g2 gd2 ["self", "a"]) (d3 : Def K mg "least_of" sLeast g3 gd3 ["members"]) (d4 : Def K mg "beaters_of" sBeatersOf g4 gd4 ["beats", "a"]) : FnOk P w K mg base CX0 5 f fd ["self", "b"] (spAnswer C Z) := by
  have G2 : FnOk P w K mg base CX0 1 g2 gd2 ["self", "a"] (spHas C Z) := ok_has d2.fn B T
  have G3 : FnOk P w K mg base CX0 1 g3 gd3 ["members"] spLeast := ok_least d3.fn
  have G4 : FnOk P w K mg base CX0 1 g4 gd4 ["beats", "a"] (spBeatersOf K) := ok_beatersOf d4.fn B
  obtain ⟨t1, hrefd⟩ := N.refused
  obtain ⟨t2, hnone⟩ := N.none_such
  refine F.ok scAnswer (fun vs H Q E h => ?_) (fun cdv A outer s H vs Q E hr h => ?_)
  · obtain ⟨p, b, d, F, kvs, c, a, rfl, _⟩ := h
    rfl
  · obtain ⟨p, b, d, F, kvs, c, a, rfl, S, k⟩ := h
    obtain ⟨dx, hp⟩ := S.ob
    have hr1 : Room 1 _ := hr.mono (by decide)
    refine ⟨_, pss_cons (ps_if (pt_not (pt_val (pe_meth (pv 0) T.cl d2.me G2 hr1 d2.b .nil pass0 (pa_cons (pv 1) pa_nil))))
        (pss_one (ps_ret (pe_lst (pa_cons (pe_glob (v := .int (-1)) rfl hrefd ⟨_, rfl⟩) pa_nil)))) pss_nil)
      (pss_cons (ps_set (i := 2) scAnswer.nd rfl (Or.inl rfl) (pe_call G4 hr1 rfl d4.mg d4.fn.kp d4.b .nil pass0 (pa_cons (pe_fld (pv 0) rfl) (pa_cons (pv 1) pa_nil))))
      (pss_cons (ps_for PassesOwn.never rfl (pi_list (pe_call G1 hr rfl d1.mg d1.fn.kp d1.b .nil pass0 (pa_cons (pe_fld (pv 0) rfl) pa_nil))) (pg_name (i := 3) scAnswer.nd rfl (Or.inl rfl))
        (pss_one (ps_if (pt_int (pe_op op_and (pv 3) (pv 2))) (pss_one (ps_ret (pe_lst (pa_cons (pe_call G3 hr1 rfl d3.mg d3.fn.kp d3.b .nil pass0 (pa_cons (pe_op op_and (pv 3) (pv 2)) pa_nil)) pa_nil)))) pss_nil)))
      (pss_one (ps_ret (pe_lst (pa_cons (pe_glob (v := .int (-2)) rfl hnone ⟨_, rfl⟩) pa_nil)))))), ?_⟩
    refine ⟨_, rfl, p, dx, _, rfl, hp, flds_no _ _ (by decide +kernel) (by decide +kernel), _, rfl, p, b, d, F, kvs, c, a, rfl, S, _, rfl, ?_⟩
    rw [← is_eq]
    refine iteE2 (c := !(⟨F⟩ : Abs).is a) rfl (fun hx => ?_) (fun hx => ?_)
    · have e : (⟨F⟩ : Abs).is a = false := by simpa using hx
      obtain ⟨e1, e2⟩ := out_refused (F := F) (call := .answer a) (if_pos e)
      exact ⟨by show 1 ≤ sizeLine; decide, fun r hr' => end_kept k e1 S (by omega) (fun x o z _ => z) (Same.refl _) hr' (by rw [e2]; rfl)⟩
    · have hx' : (⟨F⟩ : Abs).is a = true := by simpa using hx
      have ea : 0 ≤ a ∧ a < F.length := by rw [is_eq] at hx'; simpa using hx'
      have hxa : a = (a.toNat : Int) := by omega
      have e : does ⟨F⟩ (.answer a) = (⟨F⟩, { value := match answer F a.toNat with
        | some x => ((x : Nat) : Int)
        | none => -2 }) := if_neg (by rw [hx']; decide)
      obtain ⟨e1, e2⟩ := out_of e
      generalize a.toNat = x at hxa e2
      subst hxa
      have hlen := S.len
      refine ⟨_, rfl, p, C, dx, _, _, rfl, hp, T.cl, T.nB, flds_beats _ _, _, rfl, b, F, x, rfl, SqL.of S.bt, S.len, fun H1 hs1 => ?_⟩
      have hp1 := hs1 _ _ hp
      refine ⟨_, rfl, p, C, dx, _, _, rfl, hp1, T.cl, T.nB, flds_beats _ _, b, F, rfl, SqL.of (hs1 _ _ S.bt), S.len, fun D H2 hD hs2 hl2 => ?_⟩
      rw [roundsL_eq] at hl2
      refine ⟨D, rfl, ⟨_, SqL.of hl2⟩, ?_⟩
      have hs02 := hs1.trans hs2
      refine for_list (K := K) (xs := ((List.range (F.length + 1)).map (rounds F)).map nV) (fun i σ H3 => ∃ v, σ = [some (.ref p), some (nV x), some (nV (beatersOf F x)), v] ∧ H3 = H2 ∧ ∀ j, j < i → rounds F j &&& beatersOf F x = 0) ⟨none, rfl, rfl, fun o ho => absurd ho (Nat.not_lt_zero _)⟩ (fun i σ H3 _ ⟨_, _, ee, _⟩ => by rw [ee]; exact SqL.of hl2) ?_ ?_
      · rintro i z σ H3 hi ⟨v, rfl, rfl, hall⟩
        rw [List.getElem?_map, List.getElem?_map] at hi
        have hlt : i < F.length + 1 := by
          rcases Nat.lt_or_ge i (F.length + 1) with q | q
          · exact q
          · rw [List.getElem?_eq_none (by rw [List.length_range]; exact q)] at hi
            cases hi
        rw [List.getElem?_range hlt] at hi
        have hi' : z = nV (rounds F i) := (Option.some.inj hi).symm
        subst hi'
        refine ⟨_, rfl, _, rfl, _, _, rfl, rfl, _, rfl, ?_⟩
        have ez : (Builtin.bitAnd ((rounds F i : Nat) : Int) ((beatersOf F x : Nat) : Int) != 0) = (rounds F i &&& beatersOf F x != 0) := by
          rw [and_nat, Bool.eq_iff_iff, bne_iff_ne, bne_iff_ne]
          omega
        refine iteE2 ez (fun hb => ?_) (fun hb => ?_)
        · have hne : rounds F i &&& beatersOf F x ≠ 0 := bne_iff_ne.mp hb
          obtain ⟨l, h1, h2, _⟩ := lowest ((rounds F i &&& beatersOf F x) + 1) (rounds F i &&& beatersOf F x) (by omega) (by omega)
          refine ⟨_, rfl, _, rfl, _, _, rfl, rfl, rounds F i &&& beatersOf F x, ?_, by omega, fun l' h1' h2' => ?_⟩
          · show [V.int (Builtin.bitAnd ((rounds F i : Nat) : Int) ((beatersOf F x : Nat) : Int))] = _
            rw [and_nat]
          · refine ⟨(by show 1 ≤ sizeLine; decide), fun r hr' => ?_⟩
            refine end_kept k e1 S (by omega) (fun x o z _ => z) hs02 hr' ?_
            rw [e2, answer_some S.wf hlt hall h1' h2']
            rfl
        · refine ⟨some (nV (rounds F i)), rfl, rfl, fun j hj => ?_⟩
          by_cases ej : j = i
          · subst ej
            simpa using hb
          · exact hall j (by omega)
      · rintro σ H3 ⟨v, rfl, rfl, hall⟩
        rw [List.length_map, List.length_map, List.length_range] at hall
        refine ⟨(by show 1 ≤ sizeLine; decide), fun r hr' => ?_⟩
        refine end_kept k e1 S (by omega) (fun x o z _ => z) hs02 hr' ?_
        rw [e2, answer_none S.wf hall]
        rfl
def spStatus (C : Addr) (Z : Addr → Prop) : Sp := fun vs H Q _ => ∃ (p b d : Addr) (F : Rc77.Frame) (kvs : List (Key × V)) (c : Nat) (kind a : Int), vs = [.ref p, .int kind, .int a] ∧ ArgsAt C Z H p b d F kvs c ∧ c ≤ 900 ∧ EndM C Z H p d c F (.status kind a) Q
theorem scStatus : FnScope ["self", "kind", "a", "found", "having", "members"] ["self", "kind", "a"] (defScope sStatus) := ⟨rfl, rfl, rfl, by decide +kernel, rfl, by decide +kernel, by decide +kernel⟩
theorem bit_val (m a : Nat) : Builtin.bitAnd ((m : Int) / 2 ^ a) 1 = if m.testBit a = true then 1 else 0 := by
  rw [PyProof.Rows.bitAnd_m1, nat_pow, ← Int.natCast_ediv, Nat.testBit_eq_decide_div_mod_eq]
  have e : ((m / 2 ^ a : Nat) : Int) % 2 = ((m / 2 ^ a % 2 : Nat) : Int) := by omega
  rw [e]
  rcases Nat.mod_two_eq_zero_or_one (m / 2 ^ a) with h | h <;> rw [h] <;> rfl
theorem sum_count {α : Type} (p : α → Bool) : ∀ l : List α, (l.map fun t => if p t = true then (1 : Int) else 0).sum = ((l.countP p : Nat) : Int)
  | [] => rfl
  | a :: l => by
    rw [List.map_cons, List.sum_cons, sum_count p l, List.countP_cons]
    cases h : p a with
    | true => simp; omega
    | false => simp
theorem ok_status {f C g1 g2 g3 : Addr} {fd gd1 gd2 gd3 : FuncData} (F : Fun K "status" "Arguments.status" sStatus f fd) (B : Bl mg) (T : Cl K mg C) (N : Nums mg) (d1 : Def K mg "is_kind" sIsKind g1 gd1 ["kind"]) (G1 : FnOk P w K mg base CX0 1 g1 gd1 ["kind"] spIsKind)
    (d2 : MDef K C "of_kind" "Arguments.of_kind" sOfKind g2 gd2 ["self", "kind"]) (G2 : FnOk P w K mg base CX0 8 g2 gd2 ["self", "kind"] (spOfKind C Z)) (d3 : MDef K C "has" "Arguments.has" sHas g3 gd3 ["self", "a"]) : FnOk P w K mg base CX0 9 f fd ["self", "kind", "a"] (spStatus C Z) := by
  have G3 : FnOk P w K mg base CX0 1 g3 gd3 ["self", "a"] (spHas C Z) := ok_has d3.fn B T
  obtain ⟨t1, hrefd⟩ := N.refused
  refine F.ok scStatus (fun vs H Q E h => ?_) (fun cdv A outer s H vs Q E hr h => ?_)
  · obtain ⟨p, b, d, F, kvs, c, kind, a, rfl, _⟩ := h
    rfl
  · obtain ⟨p, b, d, F, kvs, c, kind, a, rfl, S, hc, k⟩ := h
    obtain ⟨dx, hp⟩ := S.ob
    have hr1 : Room 1 _ := hr.mono (by decide)
    refine ⟨_, pss_cons (ps_if (PW.pt (pw_or (pt_not (pt_val (pe_call G1 hr1 rfl d1.mg d1.fn.kp d1.b .nil pass0 (pa_cons (pv 1) pa_nil))))
        (pw_or1 (pt_not (pt_val (pe_meth (pv 0) T.cl d3.me G3 hr1 d3.b .nil pass0 (pa_cons (pv 2) pa_nil)))))))
        (pss_one (ps_ret (pe_lst (pa_cons (pe_glob (v := .int (-1)) rfl hrefd ⟨_, rfl⟩) pa_nil)))) pss_nil)
      (pss_cons (ps_set (i := 3) scStatus.nd rfl (Or.inl rfl) (pe_meth (pv 0) T.cl d2.me G2 hr d2.b .nil pass0 (pa_cons (pv 1) pa_nil)))
      (pss_cons (ps_set (i := 4) scStatus.nd rfl (Or.inl rfl) (pe_callB (cr_sum rfl) (by rfl) B.sum PyProof.Rows.boot_sum (pa_cons
        (pe_lc (own := [("members", 5)]) rfl scStatus.nd (pi_list (pv 3)) (blkOk_by (by kernel_rfl))
          (fun _ _ _ _ _ => pg_name (i := 5) scStatus.nd rfl (Or.inl rfl))
          (fun _ _ _ _ _ => pts_nil)
          (fun _ _ _ _ _ => pe_op op_and (pe_op op_shr (pv 5) (pv 2)) pe_int)) pa_nil)))
      (pss_one (ps_ret (pe_lst (pa_cons (pe_op op_add (pe_ifExp (pt_cmpR op_gt (pv 4) pe_int (nomark _)) pe_int pe_int)
        (pe_ifExp (pt_cmpR op_eq (pv 4) (pe_callB call_len_seq (by rfl) B.len PySem.boot_len (pa_cons (pv 3) pa_nil)) (nomark _)) pe_int pe_int)) pa_nil)))))), ?_⟩
    have no : (between kind 0 6 && (⟨F⟩ : Abs).is a) = false → (1 : Nat) ≤ sizeLine ∧ ∀ r, H r = none → Q (.ref r) (upd H r (.lst [V.int (-1)])) := fun e => by
      obtain ⟨e1, e2⟩ := out_refused (F := F) (call := .status kind a) (if_pos e)
      exact ⟨by decide, fun r hr' => end_kept k e1 S (by omega) (fun x o z _ => z) (Same.refl _) hr' (by rw [e2]; rfl)⟩
    refine ⟨_, rfl, kind, rfl, _, rfl, ?_⟩
    rw [← between6]
    refine iteE2 (c := !between kind 0 6) rfl (fun hb => iteT ?_) (fun hb => ?_)
    · exact no (by have : between kind 0 6 = false := by simpa using hb
                   rw [this, Bool.false_and])
    · have hb' : between kind 0 6 = true := by simpa using hb
      refine ⟨_, rfl, p, dx, _, rfl, hp, flds_no _ _ (by decide +kernel) (by decide +kernel), _, rfl, p, b, d, F, kvs, c, a, rfl, S, _, rfl, ?_⟩
      rw [← is_eq]
      refine iteE2 (c := !(⟨F⟩ : Abs).is a) rfl (fun hm => ?_) (fun hm => ?_)
      · exact no (by have : (⟨F⟩ : Abs).is a = false := by simpa using hm
                     rw [this, Bool.and_false])
      · have hx' : (⟨F⟩ : Abs).is a = true := by simpa using hm
        have ea : 0 ≤ a ∧ a < F.length := by rw [is_eq] at hx'; simpa using hx'
        have hk : 0 ≤ kind ∧ kind < 7 := by
          rw [between6] at hb'
          simpa using hb'
        have ek : kind = (kind.toNat : Int) := by omega
        have hxa : a = (a.toNat : Int) := by omega
        have e : does ⟨F⟩ (.status kind a) = (⟨F⟩, { value := ((bit ((ofKinds F kind.toNat).any fun t => t.testBit a.toNat) + 2 * bit ((ofKinds F kind.toNat).all fun t => t.testBit a.toNat) : Nat) : Int) }) := if_neg (by rw [hb', hx']; decide)
        obtain ⟨e1, e2⟩ := out_of e
        generalize a.toNat = x at hxa e2
        subst hxa
        have hlen := kinds_len kind.toNat S.len
        refine ⟨_, rfl, p, dx, _, rfl, hp, flds_no _ _ (by decide +kernel) (by decide +kernel), _, rfl, p, b, d, F, kvs, c, kind.toNat, (by rw [← ek]; rfl), by omega, S, by omega, fun l kvs' H1 S1 hl1 kp1 => ?_⟩
        refine ⟨_, rfl, l, rfl, ⟨_, SqL.of hl1⟩, fun D hD => ?_⟩
        refine lc_listV (h := nV) hD (SqL.of hl1) (fun _ => true) (fun m => V.int (if m.testBit x = true then 1 else 0)) (fun j z H4 hj hs4 hl4 hln N hN => ?_) (ST.small_line (by omega)) (fun H4 hs4 hl4 => ?_)
        · refine ⟨rfl, yes_do ?_⟩
          have h := hN H4 (Same.refl _) hl4
          rw [if_pos rfl] at h
          refine ⟨_, rfl, _, rfl, _, _, rfl, rfl, (by omega), _, _, rfl, rfl, _, hl4, hln, ?_⟩
          have ev : V.int (Builtin.bitAnd ((z : Int) / 2 ^ ((x : Int)).toNat) 1) = V.int (if z.testBit x = true then 1 else 0) := by rw [Int.toNat_natCast, bit_val]
          rw [← ev] at h
          exact h
        · rw [filter_all] at hl4
          refine ⟨D, (ofKinds F kind.toNat).map fun t => if t.testBit x = true then (1 : Int) else 0, rfl, SqL.of (by rw [hl4, List.map_map]; rfl), ?_⟩
          rw [sum_count (fun t : Nat => t.testBit x)]
          have hl14 := hs4 _ _ hl1
          -- the ends
          have fin : ∀ (u v : Nat), u = bit ((ofKinds F kind.toNat).any fun t => t.testBit x) → v = 2 * bit ((ofKinds F kind.toNat).all fun t => t.testBit x) → (1 : Nat) ≤ sizeLine ∧ ∀ r, H4 r = none → Q (.ref r) (upd H4 r (.lst [V.int ((u : Int) + (v : Int))])) := fun u v eu ev => by
            refine ⟨by decide, fun r hr' => end_kept k e1 S1 (by omega) kp1 hs4 hr' ?_⟩
            rw [e2, ← eu, ← ev, Int.natCast_add]
            rfl
          have e3 : decide ((0 : Int) < (((ofKinds F kind.toNat).countP fun t => t.testBit x : Nat) : Int)) = (ofKinds F kind.toNat).any fun t => t.testBit x := by
            rw [← count_any]
            simp
          have e4 : decide (V.int (((ofKinds F kind.toNat).countP fun t => t.testBit x : Nat) : Int) = V.int ((((ofKinds F kind.toNat).map nV).length : Nat) : Int)) = (ofKinds F kind.toNat).all fun t => t.testBit x := by
            rw [← count_all, List.length_map]
            exact (dec_nV _ _).trans (by rw [Bool.eq_iff_iff, beq_iff_eq, decide_eq_true_eq])
          refine ⟨_, rfl, _, _, rfl, rfl, _, rfl, ?_⟩
          refine iteE2 e3 (fun h3 => ?_) (fun h3 => ?_)
          · refine ⟨_, rfl, _, rfl, l, _, rfl, .inl (SqL.of hl14), rfl, _, rfl, ?_⟩
            refine iteE2 e4 (fun h4 => ?_) (fun h4 => ?_)
            · exact ⟨_, _, rfl, rfl, fin 1 2 (by rw [h3]; rfl) (by rw [h4]; rfl)⟩
            · exact ⟨_, _, rfl, rfl, fin 1 0 (by rw [h3]; rfl) (by rw [h4]; rfl)⟩
          · refine ⟨_, rfl, _, rfl, l, _, rfl, .inl (SqL.of hl14), rfl, _, rfl, ?_⟩
            refine iteE2 e4 (fun h4 => ?_) (fun h4 => ?_)
            · exact ⟨_, _, rfl, rfl, fin 0 2 (by rw [h3]; rfl) (by rw [h4]; rfl)⟩
            · exact ⟨_, _, rfl, rfl, fin 0 0 (by rw [h3]; rfl) (by rw [h4]; rfl)⟩
def spCut (C : Addr) (Z : Addr → Prop) : Sp := fun vs H Q _ => ∃ (p b d : Addr) (F : Rc77.Frame) (kvs : List (Key × V)) (c m : Nat), vs = [.ref p, nV m] ∧ ArgsAt C Z H p b d F kvs c ∧ EndM C Z H p d c F (.cut m) Q
theorem scCut : FnScope ["self", "members", "left", "a"] ["self", "members"] (defScope sCut) := ⟨rfl, rfl, rfl, by decide +kernel, rfl, by decide +kernel, by decide +kernel⟩
theorem ok_cut {f C g1 g2 g3 g4 g5 g6 : Addr} {fd gd1 gd2 gd3 gd4 gd5 gd6 : FuncData} (F : Fun K "cut" "Arguments.cut" sCut f fd) (B : Bl mg) (T : Cl K mg C) (N : Nums mg) (d1 : MDef K C "become" "Arguments.become" sBecome g1 gd1 ["self", "beats"])
    (d2 : MDef K C "has_all" "Arguments.has_all" sHasAllM g2 gd2 ["self", "members"]) (d3 : Def K mg "left_by" sLeftBy g3 gd3 ["beats", "members"]) (d4 : Def K mg "cut_to" sCutTo g4 gd4 ["beats", "left"])
    (d5 : Def K mg "everyone" sEveryone g5 gd5 ["beats"]) (d6 : Def K mg "beaten_by" sBeatenBy g6 gd6 ["beats", "members"]) : FnOk P w K mg base CX0 3 f fd ["self", "members"] (spCut C Z) := by
  have G1 : FnOk P w K mg base CX0 1 g1 gd1 ["self", "beats"] (spBecome C Z) := ok_become d1.fn T
  have G2 : FnOk P w K mg base CX0 1 g2 gd2 ["self", "members"] (spHasAllM C Z) := ok_hasAllM d2.fn B T
  have G3 : FnOk P w K mg base CX0 2 g3 gd3 ["beats", "members"] (spLeftBy K) := ok_leftBy d3.fn B d5 d6
  have G4 : FnOk P w K mg base CX0 1 g4 gd4 ["beats", "left"] (spCutTo K) := ok_cutTo d4.fn B
  obtain ⟨t1, hrefd⟩ := N.refused
  refine F.ok scCut (fun vs H Q E h => ?_) (fun cdv A outer s H vs Q E hr h => ?_)
  · obtain ⟨p, b, d, F, kvs, c, m, rfl, _⟩ := h
    rfl
  · obtain ⟨p, b, d, F, kvs, c, m, rfl, S, k⟩ := h
    obtain ⟨dx, hp⟩ := S.ob
    have hr1 : Room 1 _ := hr.mono (by decide)
    refine ⟨_, pss_cons (ps_if (pt_not (pt_val (pe_meth (pv 0) T.cl d2.me G2 hr1 d2.b .nil pass0 (pa_cons (pv 1) pa_nil))))
        (pss_one (ps_ret (pe_lst (pa_cons (pe_glob (v := .int (-1)) rfl hrefd ⟨_, rfl⟩) pa_nil)))) pss_nil)
      (pss_cons (ps_set (i := 2) scCut.nd rfl (Or.inr rfl) (pe_call G3 hr rfl d3.mg d3.fn.kp d3.b .nil pass0 (pa_cons (pe_fld (pv 0) rfl) (pa_cons (pv 1) pa_nil))))
      (pss_cons (ps_expr (pe_meth (pv 0) T.cl d1.me G1 hr1 d1.b .nil pass0 (pa_cons (pe_call G4 hr1 rfl d4.mg d4.fn.kp d4.b .nil pass0 (pa_cons (pe_fld (pv 0) rfl) (pa_cons (pv 2) pa_nil))) pa_nil)))
      (pss_one (ps_ret (pe_lst (pa_cons (pe_callB (cr_sum rfl) (by rfl) B.sum PyProof.Rows.boot_sum (pa_cons
        (pe_lc (own := [("a", 3)]) rfl scCut.nd (pi_range1 rfl B.range (pa_cons (pe_callB call_len_seq (by rfl) B.len PySem.boot_len (pa_cons (pe_fld (pv 0) rfl) pa_nil)) pa_nil)) (blkOk_by (by kernel_rfl))
          (fun _ _ _ _ _ => pg_name (i := 3) scCut.nd rfl (Or.inl rfl))
          (fun _ _ _ _ _ => pts_nil)
          (fun _ _ _ _ _ => pe_op op_and (pe_op op_shr (pv 2) (pv 3)) pe_int)) pa_nil)) pa_nil)))))), ?_⟩
    refine ⟨_, rfl, p, dx, _, rfl, hp, flds_no _ _ (by decide +kernel) (by decide +kernel), _, rfl, p, b, d, F, kvs, c, m, rfl, S, _, rfl, ?_⟩
    refine iteE2 (c := !decide (m < 2 ^ F.length)) rfl (fun hm => ?_) (fun hm => ?_)
    · have hm' : 2 ^ F.length ≤ m := by simpa using hm
      obtain ⟨e1, e2⟩ := out_refused (F := F) (call := .cut m) (if_pos hm')
      exact ⟨by show 1 ≤ sizeLine; decide, fun r hr' => end_kept k e1 S (by omega) (fun x o z _ => z) (Same.refl _) hr' (by rw [e2]; rfl)⟩
    · have hm' : ¬ 2 ^ F.length ≤ m := by simpa using hm
      have e : does ⟨F⟩ (.cut m) = (⟨cut F m⟩, { value := ((left F m).length : Nat) }) := if_neg hm'
      obtain ⟨e1, e2⟩ := out_of e
      have hlen := S.len
      refine ⟨_, rfl, p, C, dx, _, _, rfl, hp, T.cl, T.nB, flds_beats _ _, _, rfl, b, F, m, rfl, SqL.of S.bt, S.len, fun H1 hs1 => ?_⟩
      have hp1 := hs1 _ _ hp
      refine ⟨_, rfl, p, dx, _, rfl, hp1, flds_no _ _ (by decide +kernel) (by decide +kernel), _, rfl, p, C, dx, _, _, rfl, hp1, T.cl, T.nB, flds_beats _ _, _, rfl, b, F, m, rfl, SqL.of (hs1 _ _ S.bt), S.len, fun nb H2 hnb hs2 hl2 => ?_⟩
      have hp2 := hs2 _ _ hp1
      refine ⟨p, dx, b, d, nb, cut F m, rfl, hp2, hl2, by rw [cut_length]; exact S.len, cut_wf F m, S.newZ (hs1.free hnb), S.zs (hs1.trans hs2), fun nd H3 S3 kp3 => ?_⟩
      obtain ⟨dx3, hp3⟩ := S3.ob
      refine ⟨_, rfl, p, C, dx3, _, _, rfl, hp3, T.cl, T.nB, flds_beats _ _, nb, _, rfl, .inl (SqL.of S3.bt), F.length, by rw [List.length_map, cut_length], by omega, by omega, fun D hD => ?_⟩
      refine lc_rangeV (n := F.length) hD (by omega) (fun _ => true) (fun a => V.int (if (mask (left F m)).testBit a = true then 1 else 0)) (fun i H4 hi hs hl N hN => ?_) fun H4 hs hl => ?_
      · refine ⟨rfl, yes_do ?_⟩
        have h := hN H4 (Same.refl _) hl
        rw [if_pos rfl] at h
        refine ⟨_, rfl, _, rfl, _, _, rfl, rfl, (by omega), _, _, rfl, rfl, _, hl, small_len hi S.len, ?_⟩
        have ev : V.int (Builtin.bitAnd (((mask (left F m) : Nat) : Int) / 2 ^ (0 + (i : Int)).toNat) 1) = V.int (if (mask (left F m)).testBit i = true then 1 else 0) := by
          rw [show (0 + (i : Int)).toNat = i by omega, bit_val]
        rw [← ev] at h
        exact h
      · rw [filter_all] at hl
        refine ⟨D, (List.range F.length).map fun a => if (mask (left F m)).testBit a = true then (1 : Int) else 0, rfl, SqL.of (by rw [hl, List.map_map]; rfl), ?_⟩
        rw [sum_count (fun a : Nat => (mask (left F m)).testBit a), ← left_length]
        exact ⟨by show 1 ≤ sizeLine; decide, fun r hr' => end_become (b := b) k e1 (hs1.trans hs2) S3 kp3 hs hr' (by rw [e2]; rfl)⟩
end
end Bt

set_option linter.all false
set_option maxRecDepth 100000
set_option Elab.async false
namespace Bt
open PySem L2 Rc77 Ar
abbrev cReader : Stmt := top 41
abbrev rInit : Stmt := inClass cReader 0
abbrev rMore : Stmt := inClass cReader 1
abbrev rTake : Stmt := inClass cReader 2
abbrev rRow : Stmt := inClass cReader 3
theorem np : ¬ (("numbers" : Str) = "place") := by decide +kernel
def rflds (a : Addr) (i : Nat) : List (Str × V) := putF "place" (.int (i : Int)) (putF "numbers" (.ref a) [])
theorem rflds_eq (a : Addr) (i : Nat) : rflds a i = ([("numbers", V.ref a), ("place", V.int (i : Int))] : List (Str × V)) := by
  show (if ("numbers" : Str) = "place" then [(("numbers" : Str), V.int (i : Int))] else (("numbers" : Str), V.ref a) :: putF "place" (V.int (i : Int)) []) = ([("numbers", V.ref a), ("place", V.int (i : Int))] : List (Str × V))
  rw [if_neg np]
  rfl
theorem rflds_place (a : Addr) (i : Nat) : (rflds a i).lookup ("place" : Str) = some (.int (i : Int)) := by
  unfold rflds
  rw [lookup_putF, if_pos rfl]
theorem rflds_numbers (a : Addr) (i : Nat) : (rflds a i).lookup ("numbers" : Str) = some (.ref a) := by
  unfold rflds
  rw [lookup_putF, if_neg np, lookup_putF, if_pos rfl]
theorem rflds_no (a : Addr) (i : Nat) {m : Str} (h1 : ¬ m = "place") (h2 : ¬ m = "numbers") : (rflds a i).lookup m = none := by
  unfold rflds
  rw [lookup_putF, if_neg h1, lookup_putF, if_neg h2]
  rfl
theorem rflds_put (a : Addr) (i j : Nat) : putF "place" (.int (j : Int)) (rflds a i) = rflds a j := by
  rw [rflds_eq, rflds_eq]
  simp only [putF, if_true, if_neg np]
theorem rflds_len (a : Addr) (i : Nat) : (rflds a i).length = 2 := by rw [rflds_eq]; rfl
/-- Reader at q, its list at a, its place i -/
def RdAt (R : Addr) (H : Hp) (q a : Addr) (i : Nat) : Prop := ∃ dx, H q = some (.ins R dx (rflds a i))
structure Rl (K : PySem.W.Frag) (R : Addr) : Prop where
  cl : Cls K R
  nN : NoAttr K R "numbers"
  nP : NoAttr K R "place"
theorem sq_keep {K : PySem.W.Frag} {H H' : Hp} {a : Addr} {xs : List V} (h : SqL K H a xs) (k : ∀ o, H a = some o → (∃ ys, o = .lst ys) ∨ (∃ ob ys, o = .frz ob (.lst ys)) → H' a = some o) : SqL K H' a xs := by
  rcases h with (h | ⟨o, h⟩) | h
  · exact .inl (.inl (k _ h (.inl ⟨_, rfl⟩)))
  · exact .inl (.inr ⟨o, k _ h (.inr ⟨_, _, rfl⟩)⟩)
  · exact .inr h
theorem not_ins {o : HO} {C dx : Addr} {fs : List (Str × V)} (h : (∃ ys, o = .lst ys) ∨ (∃ ob ys, o = .frz ob (.lst ys))) : o ≠ .ins C dx fs := by
  rcases h with ⟨ys, rfl⟩ | ⟨ob, ys, rfl⟩ <;> (intro z; cases z)
theorem not_dK {o : HO} {kvs : List (Key × V)} (h : (∃ ys, o = .lst ys) ∨ (∃ ob ys, o = .frz ob (.lst ys))) : o ≠ .dK kvs := by
  rcases h with ⟨ys, rfl⟩ | ⟨ob, ys, rfl⟩ <;> (intro z; cases z)
theorem flds_rflds {b d a : Addr} {i : Nat} : flds b d ≠ rflds a i := fun e => by
  have h := flds_beats b d
  rw [e, rflds_no a i (by decide +kernel) (by decide +kernel)] at h
  cases h
theorem sq_at {K : PySem.W.Frag} {H : Hp} {a : Addr} {ns : List Int} (h : SqL K H a (ns.map V.int)) {i : Nat} {z : Int} (hz : ns[i]? = some z) : atI (ns.map V.int) (i : Int) = some (V.int z) :=
  at_of (j := i) rfl (by rw [List.getElem?_map, hz]; rfl)
section
variable {P : Program} {w : World} {K : PySem.W.Frag} {mg : Str → Option Value} {base : Heap} {Z : Addr → Prop}
def spRInit (R : Addr) : Sp := fun vs H Q _ => ∃ (q dx a : Addr), vs = [.ref q, .ref a] ∧ H q = some (.ins R dx []) ∧ ∀ (H' : Hp), RdAt R H' q a 0 → (∀ x o, H x = some o → x ≠ q → H' x = some o) → Q .non H'
theorem scRInit : FnScope ["self", "numbers"] ["self", "numbers"] (defScope rInit) := ⟨rfl, rfl, rfl, by decide +kernel, rfl, by decide +kernel, by decide +kernel⟩
theorem ok_rinit {f R : Addr} {fd : FuncData} (F : Fun K "__init__" "Reader.__init__" rInit f fd) (T : Rl K R) : FnOk P w K mg base CX0 1 f fd ["self", "numbers"] (spRInit R) := by
  refine F.ok scRInit (fun vs H Q E h => ?_) (fun cdv A outer s H vs Q E hr h => ?_)
  · obtain ⟨q, dx, a, rfl, _⟩ := h
    rfl
  · obtain ⟨q, dx, a, rfl, hq, k⟩ := h
    refine ⟨_, pss_cons (ps_fld (pv 0) (pv 1) rfl) (pss_one (ps_fld (pv 0) pe_int rfl)), ?_⟩
    refine ⟨_, rfl, _, rfl, q, R, dx, _, rfl, hq, T.cl, T.nN, (by show 0 < 1000; decide), ?_⟩
    refine ⟨_, rfl, q, R, dx, _, rfl, upd_same, T.cl, T.nP, (by show 1 < 1000; decide), ?_⟩
    refine k _ ⟨dx, upd_same⟩ fun x o e hx => ?_
    rw [upd_ne hx, upd_ne hx]
    exact e
def spMore (K : PySem.W.Frag) (R : Addr) : Sp := fun vs H Q _ => ∃ (q a : Addr) (i : Nat) (xs : List V), vs = [.ref q] ∧ RdAt R H q a i ∧ SqL K H a xs ∧ Q (.bl (decide (i < xs.length))) H
theorem scMore : FnScope ["self"] ["self"] (defScope rMore) := ⟨rfl, rfl, rfl, by decide +kernel, rfl, by decide +kernel, by decide +kernel⟩
theorem ok_more {f R : Addr} {fd : FuncData} (F : Fun K "has_more" "Reader.has_more" rMore f fd) (B : Bl mg) (T : Rl K R) : FnOk P w K mg base CX0 1 f fd ["self"] (spMore K R) := by
  refine F.ok scMore (fun vs H Q E h => ?_) (fun cdv A outer s H vs Q E hr h => ?_)
  · obtain ⟨q, a, i, xs, rfl, _⟩ := h
    rfl
  · obtain ⟨q, a, i, xs, rfl, ⟨dx, hq⟩, ha, k⟩ := h
    refine ⟨_, pss_one (ps_ret (pe_cmpR op_lt (pe_fld (pv 0) rfl) (pe_callB call_len_seq (by rfl) B.len PySem.boot_len (pa_cons (pe_fld (pv 0) rfl) pa_nil)) (nomark _))), ?_⟩
    refine ⟨_, rfl, q, R, dx, _, _, rfl, hq, T.cl, T.nP, rflds_place _ _, _, rfl, q, R, dx, _, _, rfl, hq, T.cl, T.nN, rflds_numbers _ _, a, _, rfl, .inl ha, _, _, rfl, rfl, ?_⟩
    have e : V.bl (decide ((i : Int) < ((xs.length : Nat) : Int))) = V.bl (decide (i < xs.length)) := by
      congr 1
      rw [Bool.eq_iff_iff, decide_eq_true_eq, decide_eq_true_eq]
      omega
    rw [← e] at k
    exact k
def spTake (K : PySem.W.Frag) (R : Addr) : Sp := fun vs H Q _ => ∃ (q a : Addr) (i : Nat) (ns : List Int) (z : Int), vs = [.ref q] ∧ RdAt R H q a i ∧ SqL K H a (ns.map V.int) ∧ ns[i]? = some z ∧
  ∀ (H' : Hp), RdAt R H' q a (i + 1) → (∀ x o, H x = some o → x ≠ q → H' x = some o) → Q (.int z) H'
theorem scTake : FnScope ["self", "number"] ["self"] (defScope rTake) := ⟨rfl, rfl, rfl, by decide +kernel, rfl, by decide +kernel, by decide +kernel⟩
theorem ok_take {f R : Addr} {fd : FuncData} (F : Fun K "take" "Reader.take" rTake f fd) (T : Rl K R) : FnOk P w K mg base CX0 1 f fd ["self"] (spTake K R) := by
  refine F.ok scTake (fun vs H Q E h => ?_) (fun cdv A outer s H vs Q E hr h => ?_)
  · obtain ⟨q, a, i, ns, z, rfl, _⟩ := h
    rfl
  · obtain ⟨q, a, i, ns, z, rfl, ⟨dx, hq⟩, ha, hz, k⟩ := h
    refine ⟨_, pss_cons (ps_set (i := 1) scTake.nd rfl (Or.inl rfl) (pe_ix (ix_listK K) (pe_fld (pv 0) rfl) (pe_fld (pv 0) rfl) (fun _ _ => rfl)))
      (pss_cons (ps_fld (pv 0) (pe_op op_add (pe_fld (pv 0) rfl) pe_int) rfl) (pss_one (ps_ret (pv 1)))), ?_⟩
    refine ⟨_, rfl, q, R, dx, _, _, rfl, hq, T.cl, T.nN, rflds_numbers _ _, _, rfl, q, R, dx, _, _, rfl, hq, T.cl, T.nP, rflds_place _ _, a, _, _, _, rfl, rfl, ha, sq_at ha hz, ?_⟩
    refine ⟨_, rfl, q, R, dx, _, _, rfl, hq, T.cl, T.nP, rflds_place _ _, _, _, rfl, rfl, _, rfl, q, R, dx, _, rfl, hq, T.cl, T.nP, (by rw [rflds_len]; decide), ?_⟩
    refine ⟨_, rfl, k _ ⟨dx, ?_⟩ fun x o e hx => ?_⟩
    · rw [upd_same]
      have e : (i : Int) + 1 = ((i + 1 : Nat) : Int) := by omega
      show some (HO.ins R dx (putF "place" (V.int ((i : Int) + 1)) (rflds a i))) = _
      rw [e, rflds_put]
    · rw [upd_ne hx]
      exact e
theorem sq_but {H H' : Hp} {a q R dx : Addr} {fs : List (Str × V)} {xs : List V} (h : SqL K H a xs) (hq : H q = some (.ins R dx fs)) (kp : ∀ x o, H x = some o → x ≠ q → H' x = some o) : SqL K H' a xs :=
  sq_keep h fun o e s => kp a o e (ne_of e hq (not_ins s))
def spRow (K : PySem.W.Frag) (R : Addr) : Sp := fun vs H Q _ => ∃ (q a : Addr) (i : Nat) (ns : List Int) (n : Nat), vs = [.ref q] ∧ RdAt R H q a i ∧ SqL K H a (ns.map V.int) ∧ ns[i]? = some (n : Int) ∧ n ≤ 16 ∧ i + 1 + n ≤ ns.length ∧
  ∀ (D : Addr) (H' : Hp), H D = none → H' D = some (.lst (((ns.drop (i + 1)).take n).map V.int)) → RdAt R H' q a (i + 1 + n) → (∀ x o, H x = some o → x ≠ q → H' x = some o) → Q (.ref D) H'
theorem scRow : FnScope ["self", "count", "step"] ["self"] (defScope rRow) := ⟨rfl, rfl, rfl, by decide +kernel, rfl, by decide +kernel, by decide +kernel⟩
theorem take_more {ns : List Int} {i n : Nat} (h : i < ns.length) {j : Nat} (e : i = n + j) : (ns.drop n).take (j + 1) = (ns.drop n).take j ++ [ns[i]] := by
  rw [List.take_succ, List.getElem?_drop, ← e, List.getElem?_eq_getElem h]
  rfl
theorem ok_row {f R g : Addr} {fd gd : FuncData} (F : Fun K "take_row" "Reader.take_row" rRow f fd) (B : Bl mg) (T : Rl K R) (d1 : MDef K R "take" "Reader.take" rTake g gd ["self"]) : FnOk P w K mg base CX0 2 f fd ["self"] (spRow K R) := by
  have G : FnOk P w K mg base CX0 1 g gd ["self"] (spTake K R) := ok_take d1.fn T
  refine F.ok scRow (fun vs H Q E h => ?_) (fun cdv A outer s H vs Q E hr h => ?_)
  · obtain ⟨q, a, i, ns, n, rfl, _⟩ := h
    rfl
  · obtain ⟨q, a, i, ns, n, rfl, ⟨dx, hq⟩, ha, hz, hn, hl, k⟩ := h
    refine ⟨_, pss_cons (ps_set (i := 1) scRow.nd rfl (Or.inl rfl) (pe_meth0 (pv 0) T.cl d1.me G hr d1.b .nil pass0))
      (pss_one (ps_ret (pe_lc (own := [("step", 2)]) rfl scRow.nd (pi_range1 rfl B.range (pa_cons (pv 1) pa_nil)) (blkOk_by (by kernel_rfl))
        (fun _ _ _ _ _ => pg_name (i := 2) scRow.nd rfl (Or.inl rfl))
        (fun _ _ _ _ _ => pts_nil)
        (fun _ _ _ _ _ => pe_meth0 (pv 0) T.cl d1.me G hr d1.b .nil pass0)))), ?_⟩
    refine ⟨_, rfl, q, dx, _, rfl, hq, rflds_no _ _ (by decide +kernel) (by decide +kernel), q, a, i, ns, (n : Int), rfl, ⟨dx, hq⟩, ha, hz, fun H1 r1 kp1 => ?_⟩
    obtain ⟨dx1, hq1⟩ := r1
    refine ⟨_, rfl, (n : Int), rfl, by omega, by omega, fun D hD => ?_⟩
    have nqD : q ≠ D := ne_of_none hq1 hD
    have ha1 := sq_but ha hq kp1
    have hDH : H D = none := by
      cases e : H D with
      | none => rfl
      | some o =>
        have := kp1 D o e (Ne.symm nqD)
        rw [hD] at this
        cases this
    rw [Int.toNat_natCast]
    refine lc_range (fun j H2 => (∃ dx, H2 q = some (.ins R dx (rflds a (i + 1 + j)))) ∧ H2 D = some (.lst (((ns.drop (i + 1)).take j).map V.int)) ∧ ∀ x o, H x = some o → x ≠ q → H2 x = some o) ⟨⟨dx1, by rw [upd_ne nqD]; exact hq1⟩, by rw [upd_same]; rfl, fun x o e hx => by rw [upd_ne (ne_of_none e hDH)]; exact kp1 x o e hx⟩ (fun j H2 hj => ?_) (fun H2 => ?_)
    · rintro ⟨⟨dx2, hq2⟩, hl2, kp2⟩
      have ha2 : SqL K H2 a (ns.map V.int) := sq_but ha hq kp2
      have hz2 : ns[i + 1 + j]? = some (ns[i + 1 + j]'(by omega)) := List.getElem?_eq_getElem (by omega)
      refine ⟨rfl, yes_do ?_⟩
      refine ⟨_, rfl, q, dx2, _, rfl, hq2, rflds_no _ _ (by decide +kernel) (by decide +kernel), q, a, i + 1 + j, ns, _, rfl, ⟨dx2, hq2⟩, ha2, hz2, fun H3 r3 kp3 => ?_⟩
      obtain ⟨dx3, hq3⟩ := r3
      have hl3 := kp3 _ _ hl2 (Ne.symm nqD)
      refine ⟨_, hl3, ?_, ⟨dx3, by rw [upd_ne nqD]; exact hq3⟩, ?_, fun x o e hx => ?_⟩
      · rw [List.length_map, List.length_take, sizeLine_eq]
        omega
      · rw [upd_same, take_more (by omega) rfl, List.map_append]
        rfl
      · rw [upd_ne (ne_of_none e hDH)]
        exact kp3 x o (kp2 x o e hx) hx
    · rintro ⟨r2, hl2, kp2⟩
      exact k D H2 hDH hl2 r2 kp2
/-- both objects and the list that is read -/
structure SAt (K : PySem.W.Frag) (C : Addr) (Z : Addr → Prop) (R : Addr) (H : Hp) (p b d q a : Addr) (F : Rc77.Frame) (kvs : List (Key × V)) (c : Nat) (ns : List Int) (i : Nat) : Prop where
  ar : ArgsAt C Z H p b d F kvs c
  rd : RdAt R H q a i
  sq : SqL K H a (ns.map V.int)
theorem SAt.took {C R : Addr} {H H' : Hp} {p b d q a : Addr} {F : Rc77.Frame} {kvs : List (Key × V)} {c : Nat} {ns : List Int} {i i' : Nat} (S : SAt K C Z R H p b d q a F kvs c ns i) (r : RdAt R H' q a i') (kp : ∀ x o, H x = some o → x ≠ q → H' x = some o) : SAt K C Z R H' p b d q a F kvs c ns i' := by
  obtain ⟨dq, hq⟩ := S.rd
  obtain ⟨dx, hp⟩ := S.ar.ob
  refine ⟨⟨⟨dx, kp _ _ hp (ne_of hp hq fun e => ?_)⟩, kp _ _ S.ar.bt (ne_of S.ar.bt hq (by intro z; cases z)), kp _ _ S.ar.dc (ne_of S.ar.dc hq (by intro z; cases z)), fun k v h => ?_, S.ar.sz, S.ar.len, S.ar.wf, S.ar.zb, fun x hx => ?_⟩, r, sq_but S.sq hq kp⟩
  · injection e with e1 e2 e3
    exact flds_rflds e3
  · obtain ⟨j, l, h1, h2, h3, h4⟩ := S.ar.ch k v h
    exact ⟨j, l, h1, h2, kp _ _ h3 (ne_of h3 hq (by intro z; cases z)), h4⟩
  · obtain ⟨xs, e⟩ := S.ar.zh x hx
    exact ⟨xs, kp _ _ e (ne_of e hq (by intro z; cases z))⟩
/-- how a call ends -/
def EndC (C : Addr) (Z : Addr → Prop) (R : Addr) (H : Hp) (p d q a : Addr) (c : Nat) (F : Rc77.Frame) (call : Rc77.Call) (i' : Nat) (Q : VK) : Prop :=
  ∀ (r b' d' : Addr) (kvs' : List (Key × V)) (H' : Hp), ArgsAt C Z H' p b' d' (does ⟨F⟩ call).1.frame kvs' (c + 2) → RdAt R H' q a i' → H' r = some (.lst ((outL F call).map V.int)) → ¬ Z r → (∀ x o, H x = some o → x ≠ p → x ≠ d → x ≠ q → H' x = some o) → Q (.ref r) H'
theorem EndC.m {C R : Addr} {H H1 : Hp} {p b d q a : Addr} {F : Rc77.Frame} {kvs : List (Key × V)} {c : Nat} {ns : List Int} {call : Rc77.Call} {i' : Nat} {Q : VK} (k : EndC C Z R H p d q a c F call i' Q) (S : SAt K C Z R H1 p b d q a F kvs c ns i') (kp : ∀ x o, H x = some o → x ≠ q → H1 x = some o) : EndM C Z H1 p d c F call Q := fun r b' d' kvs' H' A hr hZ keep => by
  obtain ⟨dq, hq⟩ := S.rd
  obtain ⟨dx, hp⟩ := S.ar.ob
  refine k r b' d' kvs' H' A ⟨dq, keep _ _ hq (ne_of hq hp fun e => ?_) (ne_of hq S.ar.dc (by intro z; cases z))⟩ hr hZ fun x o e h1 h2 h3 => keep x o (kp x o e h3) h1 h2
  injection e with e1 e2 e3
  exact flds_rflds e3.symm
def spCall (K : PySem.W.Frag) (C : Addr) (Z : Addr → Prop) (R : Addr) (k : Nat) : Sp := fun vs H Q _ => ∃ (p b d q a : Addr) (F : Rc77.Frame) (kvs : List (Key × V)) (c : Nat) (ns : List Int) (i : Nat) (call : Rc77.Call) (u : Nat),
  vs = [.ref p, .ref q] ∧ SAt K C Z R H p b d q a F kvs c ns i ∧ c ≤ 900 ∧ ArgsOf (ns.drop i) k call u ∧ EndC C Z R H p d q a c F call (i + u) Q
theorem keep0 {H : Hp} {q : Addr} : ∀ x o, H x = some o → x ≠ q → H x = some o := fun _ _ z _ => z
theorem drop_at {ns : List Int} {i j : Nat} {z : Int} (h : (ns.drop i)[j]? = some z) : ns[i + j]? = some z := by rw [List.getElem?_drop] at h; exact h
abbrev sCall (k : Nat) : Stmt := top (42 + k)
theorem scCall0 : FnScope ["arguments", "reader"] ["arguments", "reader"] (defScope (sCall 0)) := ⟨rfl, rfl, rfl, by decide +kernel, rfl, by decide +kernel, by decide +kernel⟩
theorem scCall5 : FnScope ["arguments", "reader"] ["arguments", "reader"] (defScope (sCall 5)) := ⟨rfl, rfl, rfl, by decide +kernel, rfl, by decide +kernel, by decide +kernel⟩
theorem scCall6 : FnScope ["arguments", "reader"] ["arguments", "reader"] (defScope (sCall 6)) := ⟨rfl, rfl, rfl, by decide +kernel, rfl, by decide +kernel, by decide +kernel⟩
theorem ok_call0 {f C R g : Addr} {fd gd : FuncData} (F : Fun K "call_begin" "call_begin" (sCall 0) f fd) (T : Cl K mg C) (d : MDef K C "begin" "Arguments.begin" sBegin g gd ["self"]) (G : FnOk P w K mg base CX0 2 g gd ["self"] (spBegin C Z)) : FnOk P w K mg base CX0 10 f fd ["arguments", "reader"] (spCall K C Z R 0) := by
  refine F.ok scCall0 (fun vs H Q E h => ?_) (fun cdv A outer s H vs Q E hr h => ?_)
  · obtain ⟨p, b, d, q, a, F, kvs, c, ns, i, call, u, rfl, _⟩ := h
    rfl
  · obtain ⟨p, b, dd, q, a, F, kvs, c, ns, i, call, u, rfl, S, hc, ⟨rfl, rfl⟩, k⟩ := h
    obtain ⟨dx, hp⟩ := S.ar.ob
    refine ⟨_, pss_one (ps_ret (pe_meth0 (pv 0) T.cl d.me G (hr.mono (by decide)) d.b .nil pass0)), ?_⟩
    exact ⟨_, rfl, p, dx, _, rfl, hp, flds_no _ _ (by decide +kernel) (by decide +kernel), p, b, dd, F, kvs, c, rfl, S.ar, EndC.m k S keep0⟩
theorem ok_call5 {f C R g : Addr} {fd gd : FuncData} (F : Fun K "call_ground" "call_ground" (sCall 5) f fd) (T : Cl K mg C) (d : MDef K C "ground" "Arguments.ground" sGround g gd ["self"]) (G : FnOk P w K mg base CX0 5 g gd ["self"] (spGround C Z)) : FnOk P w K mg base CX0 10 f fd ["arguments", "reader"] (spCall K C Z R 5) := by
  refine F.ok scCall5 (fun vs H Q E h => ?_) (fun cdv A outer s H vs Q E hr h => ?_)
  · obtain ⟨p, b, d, q, a, F, kvs, c, ns, i, call, u, rfl, _⟩ := h
    rfl
  · obtain ⟨p, b, dd, q, a, F, kvs, c, ns, i, call, u, rfl, S, hc, ⟨rfl, rfl⟩, k⟩ := h
    obtain ⟨dx, hp⟩ := S.ar.ob
    refine ⟨_, pss_one (ps_ret (pe_meth0 (pv 0) T.cl d.me G (hr.mono (by decide)) d.b .nil pass0)), ?_⟩
    exact ⟨_, rfl, p, dx, _, rfl, hp, flds_no _ _ (by decide +kernel) (by decide +kernel), p, b, dd, F, kvs, c, rfl, S.ar, EndC.m k S keep0⟩
theorem ok_call6 {f C R g : Addr} {fd gd : FuncData} (F : Fun K "call_ideal" "call_ideal" (sCall 6) f fd) (T : Cl K mg C) (d : MDef K C "ideal" "Arguments.ideal" sIdeal g gd ["self"]) (G : FnOk P w K mg base CX0 9 g gd ["self"] (spIdeal C Z)) : FnOk P w K mg base CX0 10 f fd ["arguments", "reader"] (spCall K C Z R 6) := by
  refine F.ok scCall6 (fun vs H Q E h => ?_) (fun cdv A outer s H vs Q E hr h => ?_)
  · obtain ⟨p, b, d, q, a, F, kvs, c, ns, i, call, u, rfl, _⟩ := h
    rfl
  · obtain ⟨p, b, dd, q, a, F, kvs, c, ns, i, call, u, rfl, S, hc, ⟨rfl, rfl⟩, k⟩ := h
    obtain ⟨dx, hp⟩ := S.ar.ob
    refine ⟨_, pss_one (ps_ret (pe_meth0 (pv 0) T.cl d.me G (hr.mono (by decide)) d.b .nil pass0)), ?_⟩
    exact ⟨_, rfl, p, dx, _, rfl, hp, flds_no _ _ (by decide +kernel) (by decide +kernel), p, b, dd, F, kvs, c, rfl, S.ar, hc, EndC.m k S keep0⟩
theorem scCall7 : FnScope ["arguments", "reader"] ["arguments", "reader"] (defScope (sCall 7)) := ⟨rfl, rfl, rfl, by decide +kernel, rfl, by decide +kernel, by decide +kernel⟩
theorem scCall8 : FnScope ["arguments", "reader"] ["arguments", "reader"] (defScope (sCall 8)) := ⟨rfl, rfl, rfl, by decide +kernel, rfl, by decide +kernel, by decide +kernel⟩
theorem scCall10 : FnScope ["arguments", "reader"] ["arguments", "reader"] (defScope (sCall 10)) := ⟨rfl, rfl, rfl, by decide +kernel, rfl, by decide +kernel, by decide +kernel⟩
theorem scCall1 : FnScope ["arguments", "reader"] ["arguments", "reader"] (defScope (sCall 1)) := ⟨rfl, rfl, rfl, by decide +kernel, rfl, by decide +kernel, by decide +kernel⟩
theorem ok_call7 {f C R g t : Addr} {fd gd td : FuncData} (F : Fun K "call_round" "call_round" (sCall 7) f fd) (T : Cl K mg C) (L : Rl K R) (dt : MDef K R "take" "Reader.take" rTake t td ["self"]) (d : MDef K C "round_of" "Arguments.round_of" sRound g gd ["self", "a"]) (G : FnOk P w K mg base CX0 5 g gd ["self", "a"] (spRound C Z)) : FnOk P w K mg base CX0 10 f fd ["arguments", "reader"] (spCall K C Z R 7) := by
  have GT : FnOk P w K mg base CX0 1 t td ["self"] (spTake K R) := ok_take dt.fn L
  refine F.ok scCall7 (fun vs H Q E h => ?_) (fun cdv A outer s H vs Q E hr h => ?_)
  · obtain ⟨p, b, d, q, a, F, kvs, c, ns, i, call, u, rfl, _⟩ := h
    rfl
  · obtain ⟨p, b, dd, q, a, F, kvs, c, ns, i, call, u, rfl, S, hc, ⟨x, hx, rfl, rfl⟩, k⟩ := h
    obtain ⟨dx, hp⟩ := S.ar.ob
    obtain ⟨dq, hq⟩ := S.rd
    refine ⟨_, pss_one (ps_ret (pe_meth (pv 0) T.cl d.me G (hr.mono (by decide)) d.b .nil pass0 (pa_cons (pe_meth0 (pv 1) L.cl dt.me GT (hr.mono (by decide)) dt.b .nil pass0) pa_nil))), ?_⟩
    refine ⟨_, rfl, p, dx, _, rfl, hp, flds_no _ _ (by decide +kernel) (by decide +kernel), _, rfl, q, dq, _, rfl, hq, rflds_no _ _ (by decide +kernel) (by decide +kernel), q, a, i, ns, x, rfl, S.rd, S.sq, drop_at hx, fun H1 r1 kp1 => ?_⟩
    have S1 := S.took r1 kp1
    exact ⟨p, b, dd, F, kvs, c, x, rfl, S1.ar, EndC.m k S1 kp1⟩
theorem ok_call8 {f C R g t : Addr} {fd gd td : FuncData} (F : Fun K "call_answer" "call_answer" (sCall 8) f fd) (T : Cl K mg C) (L : Rl K R) (dt : MDef K R "take" "Reader.take" rTake t td ["self"]) (d : MDef K C "answer_to" "Arguments.answer_to" sAnswer g gd ["self", "b"]) (G : FnOk P w K mg base CX0 5 g gd ["self", "b"] (spAnswer C Z)) : FnOk P w K mg base CX0 10 f fd ["arguments", "reader"] (spCall K C Z R 8) := by
  have GT : FnOk P w K mg base CX0 1 t td ["self"] (spTake K R) := ok_take dt.fn L
  refine F.ok scCall8 (fun vs H Q E h => ?_) (fun cdv A outer s H vs Q E hr h => ?_)
  · obtain ⟨p, b, d, q, a, F, kvs, c, ns, i, call, u, rfl, _⟩ := h
    rfl
  · obtain ⟨p, b, dd, q, a, F, kvs, c, ns, i, call, u, rfl, S, hc, ⟨x, hx, rfl, rfl⟩, k⟩ := h
    obtain ⟨dx, hp⟩ := S.ar.ob
    obtain ⟨dq, hq⟩ := S.rd
    refine ⟨_, pss_one (ps_ret (pe_meth (pv 0) T.cl d.me G (hr.mono (by decide)) d.b .nil pass0 (pa_cons (pe_meth0 (pv 1) L.cl dt.me GT (hr.mono (by decide)) dt.b .nil pass0) pa_nil))), ?_⟩
    refine ⟨_, rfl, p, dx, _, rfl, hp, flds_no _ _ (by decide +kernel) (by decide +kernel), _, rfl, q, dq, _, rfl, hq, rflds_no _ _ (by decide +kernel) (by decide +kernel), q, a, i, ns, x, rfl, S.rd, S.sq, drop_at hx, fun H1 r1 kp1 => ?_⟩
    have S1 := S.took r1 kp1
    exact ⟨p, b, dd, F, kvs, c, x, rfl, S1.ar, EndC.m k S1 kp1⟩
theorem ok_call10 {f C R g t : Addr} {fd gd td : FuncData} (F : Fun K "call_cut" "call_cut" (sCall 10) f fd) (T : Cl K mg C) (L : Rl K R) (dt : MDef K R "take" "Reader.take" rTake t td ["self"]) (d : MDef K C "cut" "Arguments.cut" sCut g gd ["self", "members"]) (G : FnOk P w K mg base CX0 3 g gd ["self", "members"] (spCut C Z)) : FnOk P w K mg base CX0 10 f fd ["arguments", "reader"] (spCall K C Z R 10) := by
  have GT : FnOk P w K mg base CX0 1 t td ["self"] (spTake K R) := ok_take dt.fn L
  refine F.ok scCall10 (fun vs H Q E h => ?_) (fun cdv A outer s H vs Q E hr h => ?_)
  · obtain ⟨p, b, d, q, a, F, kvs, c, ns, i, call, u, rfl, _⟩ := h
    rfl
  · obtain ⟨p, b, dd, q, a, F, kvs, c, ns, i, call, u, rfl, S, hc, ⟨x, hx, rfl, rfl⟩, k⟩ := h
    obtain ⟨dx, hp⟩ := S.ar.ob
    obtain ⟨dq, hq⟩ := S.rd
    refine ⟨_, pss_one (ps_ret (pe_meth (pv 0) T.cl d.me G (hr.mono (by decide)) d.b .nil pass0 (pa_cons (pe_meth0 (pv 1) L.cl dt.me GT (hr.mono (by decide)) dt.b .nil pass0) pa_nil))), ?_⟩
    refine ⟨_, rfl, p, dx, _, rfl, hp, flds_no _ _ (by decide +kernel) (by decide +kernel), _, rfl, q, dq, _, rfl, hq, rflds_no _ _ (by decide +kernel) (by decide +kernel), q, a, i, ns, (x : Int), rfl, S.rd, S.sq, drop_at hx, fun H1 r1 kp1 => ?_⟩
    have S1 := S.took r1 kp1
    exact ⟨p, b, dd, F, kvs, c, x, rfl, S1.ar, EndC.m k S1 kp1⟩
theorem ok_call1 {f C R g t t2 : Addr} {fd gd td td2 : FuncData} (F : Fun K "call_set" "call_set" (sCall 1) f fd) (B : Bl mg) (T : Cl K mg C) (L : Rl K R) (dt : MDef K R "take" "Reader.take" rTake t td ["self"]) (dr : MDef K R "take_row" "Reader.take_row" rRow t2 td2 ["self"]) (d : MDef K C "put" "Arguments.put" sPut g gd ["self", "beats"]) (G : FnOk P w K mg base CX0 2 g gd ["self", "beats"] (spPut K C Z)) : FnOk P w K mg base CX0 10 f fd ["arguments", "reader"] (spCall K C Z R 1) := by
  have GR : FnOk P w K mg base CX0 2 t2 td2 ["self"] (spRow K R) := ok_row dr.fn B L dt
  refine F.ok scCall1 (fun vs H Q E h => ?_) (fun cdv A outer s H vs Q E hr h => ?_)
  · obtain ⟨p, b, d, q, a, F, kvs, c, ns, i, call, u, rfl, _⟩ := h
    rfl
  · obtain ⟨p, b, dd, q, a, F, kvs, c, ns, i, call, u, rfl, S, hc, ⟨l, hx, hrow, hn, rfl, rfl⟩, k⟩ := h
    obtain ⟨dx, hp⟩ := S.ar.ob
    obtain ⟨dq, hq⟩ := S.rd
    refine ⟨_, pss_one (ps_ret (pe_meth (pv 0) T.cl d.me G (hr.mono (by decide)) d.b .nil pass0 (pa_cons (pe_meth0 (pv 1) L.cl dr.me GR (hr.mono (by decide)) dr.b .nil pass0) pa_nil))), ?_⟩
    have hx' := drop_at hx
    rw [List.drop_drop] at hrow
    have hlen : i + 1 + l.length ≤ ns.length := by
      have h1 := congrArg List.length hrow
      rw [List.length_take, List.length_drop, List.length_map] at h1
      have h2 := (List.getElem?_eq_some_iff.mp hx').1
      omega
    refine ⟨_, rfl, p, dx, _, rfl, hp, flds_no _ _ (by decide +kernel) (by decide +kernel), _, rfl, q, dq, _, rfl, hq, rflds_no _ _ (by decide +kernel) (by decide +kernel), q, a, i, ns, l.length, rfl, S.rd, S.sq, hx', hn, hlen, fun D H1 hD hl1 r1 kp1 => ?_⟩
    have S1 := S.took r1 kp1
    have e : i + (l.length + 1) = i + 1 + l.length := by omega
    rw [e] at k
    refine ⟨p, b, dd, D, F, kvs, c, l, rfl, S1.ar, SqL.of ?_, hn, EndC.m k S1 kp1⟩
    rw [hl1, hrow, List.map_map]
    rfl
theorem scCall3 : FnScope ["arguments", "reader", "kind", "most"] ["arguments", "reader"] (defScope (sCall 3)) := ⟨rfl, rfl, rfl, by decide +kernel, rfl, by decide +kernel, by decide +kernel⟩
theorem scCall4 : FnScope ["arguments", "reader", "kind", "members"] ["arguments", "reader"] (defScope (sCall 4)) := ⟨rfl, rfl, rfl, by decide +kernel, rfl, by decide +kernel, by decide +kernel⟩
theorem scCall9 : FnScope ["arguments", "reader", "kind", "a"] ["arguments", "reader"] (defScope (sCall 9)) := ⟨rfl, rfl, rfl, by decide +kernel, rfl, by decide +kernel, by decide +kernel⟩
theorem scCall2 : FnScope ["arguments", "reader", "a", "b", "on"] ["arguments", "reader"] (defScope (sCall 2)) := ⟨rfl, rfl, rfl, by decide +kernel, rfl, by decide +kernel, by decide +kernel⟩
theorem ok_call3 {f C R g t : Addr} {fd gd td : FuncData} (F : Fun K "call_sets" "call_sets" (sCall 3) f fd) (T : Cl K mg C) (L : Rl K R) (dt : MDef K R "take" "Reader.take" rTake t td ["self"]) (d : MDef K C "sets" "Arguments.sets" sSets g gd ["self", "kind", "most"]) (G : FnOk P w K mg base CX0 9 g gd ["self", "kind", "most"] (spSets C Z)) : FnOk P w K mg base CX0 10 f fd ["arguments", "reader"] (spCall K C Z R 3) := by
  have GT : FnOk P w K mg base CX0 1 t td ["self"] (spTake K R) := ok_take dt.fn L
  refine F.ok scCall3 (fun vs H Q E h => ?_) (fun cdv A outer s H vs Q E hr h => ?_)
  · obtain ⟨p, b, d, q, a, F, kvs, c, ns, i, call, u, rfl, _⟩ := h
    rfl
  · obtain ⟨p, b, dd, q, a, F, kvs, c, ns, i, call, u, rfl, S, hc, ⟨x, y, hx, hy, rfl, rfl⟩, k⟩ := h
    obtain ⟨dq, hq⟩ := S.rd
    have hr1 : Room 1 _ := hr.mono (by decide)
    refine ⟨_, pss_cons (ps_set (i := 2) scCall3.nd rfl (Or.inl rfl) (pe_meth0 (pv 1) L.cl dt.me GT hr1 dt.b .nil pass0)) (pss_cons (ps_set (i := 3) scCall3.nd rfl (Or.inl rfl) (pe_meth0 (pv 1) L.cl dt.me GT hr1 dt.b .nil pass0))
      (pss_one (ps_ret (pe_meth (pv 0) T.cl d.me G hr d.b .nil pass0 (pa_cons (pv 2) (pa_cons (pv 3) pa_nil)))))), ?_⟩
    refine ⟨_, rfl, q, dq, _, rfl, hq, rflds_no _ _ (by decide +kernel) (by decide +kernel), q, a, i, ns, x, rfl, S.rd, S.sq, drop_at hx, fun H1 r1 kp1 => ?_⟩
    have S1 := S.took r1 kp1
    obtain ⟨dq1, hq1⟩ := S1.rd
    refine ⟨_, rfl, q, dq1, _, rfl, hq1, rflds_no _ _ (by decide +kernel) (by decide +kernel), q, a, i + 1, ns, y, rfl, S1.rd, S1.sq, drop_at hy, fun H2 r2 kp2 => ?_⟩
    have S2 := S1.took r2 kp2
    obtain ⟨dx, hp⟩ := S2.ar.ob
    exact ⟨_, rfl, p, dx, _, rfl, hp, flds_no _ _ (by decide +kernel) (by decide +kernel), _, rfl, _, rfl, p, b, dd, F, kvs, c, x, y, rfl, S2.ar, by omega, EndC.m k S2 fun x o z hx => kp2 x o (kp1 x o z hx) hx⟩
theorem ok_call4 {f C R g t : Addr} {fd gd td : FuncData} (F : Fun K "call_is" "call_is" (sCall 4) f fd) (T : Cl K mg C) (L : Rl K R) (dt : MDef K R "take" "Reader.take" rTake t td ["self"]) (d : MDef K C "is_of_kind" "Arguments.is_of_kind" sIs g gd ["self", "kind", "members"]) (G : FnOk P w K mg base CX0 9 g gd ["self", "kind", "members"] (spIs C Z)) : FnOk P w K mg base CX0 10 f fd ["arguments", "reader"] (spCall K C Z R 4) := by
  have GT : FnOk P w K mg base CX0 1 t td ["self"] (spTake K R) := ok_take dt.fn L
  refine F.ok scCall4 (fun vs H Q E h => ?_) (fun cdv A outer s H vs Q E hr h => ?_)
  · obtain ⟨p, b, d, q, a, F, kvs, c, ns, i, call, u, rfl, _⟩ := h
    rfl
  · obtain ⟨p, b, dd, q, a, F, kvs, c, ns, i, call, u, rfl, S, hc, ⟨x, y, hx, hy, rfl, rfl⟩, k⟩ := h
    obtain ⟨dq, hq⟩ := S.rd
    have hr1 : Room 1 _ := hr.mono (by decide)
    refine ⟨_, pss_cons (ps_set (i := 2) scCall4.nd rfl (Or.inl rfl) (pe_meth0 (pv 1) L.cl dt.me GT hr1 dt.b .nil pass0)) (pss_cons (ps_set (i := 3) scCall4.nd rfl (Or.inl rfl) (pe_meth0 (pv 1) L.cl dt.me GT hr1 dt.b .nil pass0))
      (pss_one (ps_ret (pe_meth (pv 0) T.cl d.me G hr d.b .nil pass0 (pa_cons (pv 2) (pa_cons (pv 3) pa_nil)))))), ?_⟩
    refine ⟨_, rfl, q, dq, _, rfl, hq, rflds_no _ _ (by decide +kernel) (by decide +kernel), q, a, i, ns, x, rfl, S.rd, S.sq, drop_at hx, fun H1 r1 kp1 => ?_⟩
    have S1 := S.took r1 kp1
    obtain ⟨dq1, hq1⟩ := S1.rd
    refine ⟨_, rfl, q, dq1, _, rfl, hq1, rflds_no _ _ (by decide +kernel) (by decide +kernel), q, a, i + 1, ns, (y : Int), rfl, S1.rd, S1.sq, drop_at hy, fun H2 r2 kp2 => ?_⟩
    have S2 := S1.took r2 kp2
    obtain ⟨dx, hp⟩ := S2.ar.ob
    exact ⟨_, rfl, p, dx, _, rfl, hp, flds_no _ _ (by decide +kernel) (by decide +kernel), _, rfl, _, rfl, p, b, dd, F, kvs, c, x, y, rfl, S2.ar, hc, EndC.m k S2 fun x o z hx => kp2 x o (kp1 x o z hx) hx⟩
theorem ok_call9 {f C R g t : Addr} {fd gd td : FuncData} (F : Fun K "call_status" "call_status" (sCall 9) f fd) (T : Cl K mg C) (L : Rl K R) (dt : MDef K R "take" "Reader.take" rTake t td ["self"]) (d : MDef K C "status" "Arguments.status" sStatus g gd ["self", "kind", "a"]) (G : FnOk P w K mg base CX0 9 g gd ["self", "kind", "a"] (spStatus C Z)) : FnOk P w K mg base CX0 10 f fd ["arguments", "reader"] (spCall K C Z R 9) := by
  have GT : FnOk P w K mg base CX0 1 t td ["self"] (spTake K R) := ok_take dt.fn L
  refine F.ok scCall9 (fun vs H Q E h => ?_) (fun cdv A outer s H vs Q E hr h => ?_)
  · obtain ⟨p, b, d, q, a, F, kvs, c, ns, i, call, u, rfl, _⟩ := h
    rfl
  · obtain ⟨p, b, dd, q, a, F, kvs, c, ns, i, call, u, rfl, S, hc, ⟨x, y, hx, hy, rfl, rfl⟩, k⟩ := h
    obtain ⟨dq, hq⟩ := S.rd
    have hr1 : Room 1 _ := hr.mono (by decide)
    refine ⟨_, pss_cons (ps_set (i := 2) scCall9.nd rfl (Or.inl rfl) (pe_meth0 (pv 1) L.cl dt.me GT hr1 dt.b .nil pass0)) (pss_cons (ps_set (i := 3) scCall9.nd rfl (Or.inl rfl) (pe_meth0 (pv 1) L.cl dt.me GT hr1 dt.b .nil pass0))
      (pss_one (ps_ret (pe_meth (pv 0) T.cl d.me G hr d.b .nil pass0 (pa_cons (pv 2) (pa_cons (pv 3) pa_nil)))))), ?_⟩
    refine ⟨_, rfl, q, dq, _, rfl, hq, rflds_no _ _ (by decide +kernel) (by decide +kernel), q, a, i, ns, x, rfl, S.rd, S.sq, drop_at hx, fun H1 r1 kp1 => ?_⟩
    have S1 := S.took r1 kp1
    obtain ⟨dq1, hq1⟩ := S1.rd
    refine ⟨_, rfl, q, dq1, _, rfl, hq1, rflds_no _ _ (by decide +kernel) (by decide +kernel), q, a, i + 1, ns, y, rfl, S1.rd, S1.sq, drop_at hy, fun H2 r2 kp2 => ?_⟩
    have S2 := S1.took r2 kp2
    obtain ⟨dx, hp⟩ := S2.ar.ob
    exact ⟨_, rfl, p, dx, _, rfl, hp, flds_no _ _ (by decide +kernel) (by decide +kernel), _, rfl, _, rfl, p, b, dd, F, kvs, c, x, y, rfl, S2.ar, hc, EndC.m k S2 fun x o z hx => kp2 x o (kp1 x o z hx) hx⟩
theorem ok_call2 {f C R g t : Addr} {fd gd td : FuncData} (F : Fun K "call_turn" "call_turn" (sCall 2) f fd) (T : Cl K mg C) (L : Rl K R) (dt : MDef K R "take" "Reader.take" rTake t td ["self"]) (d : MDef K C "turn" "Arguments.turn" sTurn g gd ["self", "a", "b", "on"]) (G : FnOk P w K mg base CX0 2 g gd ["self", "a", "b", "on"] (spTurn C Z)) : FnOk P w K mg base CX0 10 f fd ["arguments", "reader"] (spCall K C Z R 2) := by
  have GT : FnOk P w K mg base CX0 1 t td ["self"] (spTake K R) := ok_take dt.fn L
  refine F.ok scCall2 (fun vs H Q E h => ?_) (fun cdv A outer s H vs Q E hr h => ?_)
  · obtain ⟨p, b, d, q, a, F, kvs, c, ns, i, call, u, rfl, _⟩ := h
    rfl
  · obtain ⟨p, b, dd, q, a, F, kvs, c, ns, i, call, u, rfl, S, hc, ⟨x, y, z, hx, hy, hz, rfl, rfl⟩, k⟩ := h
    obtain ⟨dq, hq⟩ := S.rd
    have hr1 : Room 1 _ := hr.mono (by decide)
    refine ⟨_, pss_cons (ps_set (i := 2) scCall2.nd rfl (Or.inl rfl) (pe_meth0 (pv 1) L.cl dt.me GT hr1 dt.b .nil pass0)) (pss_cons (ps_set (i := 3) scCall2.nd rfl (Or.inl rfl) (pe_meth0 (pv 1) L.cl dt.me GT hr1 dt.b .nil pass0)) (pss_cons (ps_set (i := 4) scCall2.nd rfl (Or.inl rfl) (pe_meth0 (pv 1) L.cl dt.me GT hr1 dt.b .nil pass0))
      (pss_one (ps_ret (pe_meth (pv 0) T.cl d.me G (hr.mono (by decide)) d.b .nil pass0 (pa_cons (pv 2) (pa_cons (pv 3) (pa_cons (pv 4) pa_nil)))))))), ?_⟩
    refine ⟨_, rfl, q, dq, _, rfl, hq, rflds_no _ _ (by decide +kernel) (by decide +kernel), q, a, i, ns, x, rfl, S.rd, S.sq, drop_at hx, fun H1 r1 kp1 => ?_⟩
    have S1 := S.took r1 kp1
    obtain ⟨dq1, hq1⟩ := S1.rd
    refine ⟨_, rfl, q, dq1, _, rfl, hq1, rflds_no _ _ (by decide +kernel) (by decide +kernel), q, a, i + 1, ns, y, rfl, S1.rd, S1.sq, drop_at hy, fun H2 r2 kp2 => ?_⟩
    have S2 := S1.took r2 kp2
    obtain ⟨dq2, hq2⟩ := S2.rd
    refine ⟨_, rfl, q, dq2, _, rfl, hq2, rflds_no _ _ (by decide +kernel) (by decide +kernel), q, a, i + 1 + 1, ns, z, rfl, S2.rd, S2.sq, (show ns[i + 1 + 1]? = some z from drop_at (i := i) (j := 2) hz), fun H3 r3 kp3 => ?_⟩
    have S3 := S2.took r3 kp3
    obtain ⟨dx, hp⟩ := S3.ar.ob
    exact ⟨_, rfl, p, dx, _, rfl, hp, flds_no _ _ (by decide +kernel) (by decide +kernel), _, rfl, _, rfl, _, rfl, p, b, dd, F, kvs, c, x, y, z, rfl, S3.ar, EndC.m k S3 fun x o z hx => kp3 x o (kp2 x o (kp1 x o z hx) hx) hx⟩
end
end Bt

set_option linter.all false
set_option maxRecDepth 100000
set_option Elab.async false
namespace Bt
open PySem L2 Rc77 Ar
abbrev sAnswers : Stmt := top 54
theorem FnOk.ex {α : Type} {P : Program} {w : World} {K : PySem.W.Frag} {mg : Str → Option Value} {base : Heap} {k : Nat} {f : Addr} {fd : FuncData} {ps : List Str} {sp : α → Sp} (F : ∀ z, FnOk P w K mg base CX0 k f fd ps (sp z)) : FnOk P w K mg base CX0 k f fd ps (fun vs H Q E => ∃ z, sp z vs H Q E) :=
  ⟨fun vs H Q E ⟨z, h⟩ => (F z).len vs H Q E h, fun A outer s H args us vs Q E hr he hb hv ⟨z, h⟩ => (F z).run A outer s H args us vs Q E hr he hb hv h⟩
def spCallZ (K : PySem.W.Frag) (C R : Addr) (k : Nat) : Sp := fun vs H Q E => ∃ Z, spCall K C Z R k vs H Q E
/-- the module's dict CALLS: eleven defs -/
def CallsAt (P : Program) (w : World) (K : PySem.W.Frag) (mg : Str → Option Value) (base : Heap) (C R : Addr) : Prop := ∃ cd f, mg "CALLS" = some (.ref cd) ∧ KMap K cd f ∧ ∀ k : Nat, k < 11 → ∃ g gd, f (k : Int) = some (.ref g) ∧
  FnOk P w K mg base CX0 10 g gd ["arguments", "reader"] (spCallZ K C R k) ∧ PySem.W.keepIn K (.ref g) = true ∧ Binds K gd ["arguments", "reader"] []
def spAnswers (K : PySem.W.Frag) : Sp := fun vs H Q _ => ∃ (a : Addr) (ns : List Int), vs = [.ref a] ∧ SqL K H a (ns.map V.int) ∧ PyRc77.answers_asked ns = true ∧ ∀ (b : Addr) (H' : Hp), H' b = some (.lst ((PyRc77.answers ns).map V.int)) → Q (.ref b) H'
theorem scAnswers : FnScope ["calls", "reader", "arguments", "written", "call", "answer"] ["calls"] (defScope sAnswers) := ⟨rfl, rfl, rfl, by decide +kernel, rfl, by decide +kernel, by decide +kernel⟩
section
variable {P : Program} {w : World} {K : PySem.W.Frag} {mg : Str → Option Value} {base : Heap}
/-- from now on the list at x is kept apart -/
theorem ArgsAt.setZ {C : Addr} {Z : Addr → Prop} {H : Hp} {p b d : Addr} {F : Rc77.Frame} {c : Nat} (S : ArgsAt C Z H p b d F [] c) {x : Addr} {xs : List V} (hx : H x = some (.lst xs)) (hb : b ≠ x) : ArgsAt C (fun y => y = x) H p b d F [] c :=
  ⟨S.ob, S.bt, S.dc, (fun k v h => nomatch h), S.sz, S.len, S.wf, hb, fun y hy => by have hy : y = x := hy; rw [hy]; exact ⟨xs, hx⟩⟩
theorem ArgsAt.updZ {C : Addr} {H : Hp} {p b d x : Addr} {F : Rc77.Frame} {kvs : List (Key × V)} {c : Nat} (S : ArgsAt C (fun y => y = x) H p b d F kvs c) (ys : List V) : ArgsAt C (fun y => y = x) (upd H x (.lst ys)) p b d F kvs c := by
  obtain ⟨xs, hx⟩ := S.zh x rfl
  obtain ⟨dx, hp⟩ := S.ob
  refine ⟨⟨dx, ?_⟩, ?_, ?_, fun k v h => ?_, S.sz, S.len, S.wf, S.zb, fun y hy => ?_⟩
  · rw [upd_ne (ne_of hp hx (by intro z; cases z))]; exact hp
  · rw [upd_ne S.zb]; exact S.bt
  · rw [upd_ne (ne_of S.dc hx (by intro z; cases z))]; exact S.dc
  · obtain ⟨j, l, h1, h2, h3, h4⟩ := S.ch k v h
    exact ⟨j, l, h1, h2, by rw [upd_ne h4]; exact h3, h4⟩
  · have hy : y = x := hy
    rw [hy]
    exact ⟨ys, upd_same⟩
theorem ok_answers {f C R i1 i2 g1 g2 : Addr} {fd id1 id2 gd1 gd2 : FuncData} (F : Fun K "answers" "answers" sAnswers f fd) (B : Bl mg) (T : Cl K mg C) (L : Rl K R)
    (mC : mg "Arguments" = some (.ref C)) (mR : mg "Reader" = some (.ref R)) (MC : Mk K C i1) (MR : Mk K R i2) (dC : Fun K "__init__" "Arguments.__init__" sInit i1 id1) (bC : Binds K id1 ["self"] []) (dR : Fun K "__init__" "Reader.__init__" rInit i2 id2) (bR : Binds K id2 ["self", "numbers"] [])
    (d1 : MDef K R "has_more" "Reader.has_more" rMore g1 gd1 ["self"]) (d2 : MDef K R "take" "Reader.take" rTake g2 gd2 ["self"]) (CA : CallsAt P w K mg base C R) : FnOk P w K mg base CX0 11 f fd ["calls"] (spAnswers K) := by
  have GC : FnOk P w K mg base CX0 1 i1 id1 ["self"] (spInit C fun _ => False) := ok_init dC T
  have GR : FnOk P w K mg base CX0 1 i2 id2 ["self", "numbers"] (spRInit R) := ok_rinit dR L
  have G1 : FnOk P w K mg base CX0 1 g1 gd1 ["self"] (spMore K R) := ok_more d1.fn B L
  have G2 : FnOk P w K mg base CX0 1 g2 gd2 ["self"] (spTake K R) := ok_take d2.fn L
  obtain ⟨cd, fm, hcd, km, hcalls⟩ := CA
  refine F.ok scAnswers (fun vs H Q E h => ?_) (fun cdv A outer s H vs Q E hr h => ?_)
  · obtain ⟨a, ns, rfl, _⟩ := h
    rfl
  · obtain ⟨a, ns, rfl, ha, hask, k⟩ := h
    have hr1 : Room 1 _ := hr.mono (by decide)
    have hr2 : Room 2 _ := hr.mono (by decide)
    refine ⟨_, pss_cons (ps_set (i := 1) scAnswers.nd rfl (Or.inl rfl) (pe_make MR GR hr2 rfl mR bR .nil pass0 (pa_cons (pv 0) pa_nil)))
      (pss_cons (ps_set (i := 2) scAnswers.nd rfl (Or.inl rfl) (pe_make0 MC GC hr2 rfl mC bC .nil pass0))
      (pss_cons (ps_set (i := 3) scAnswers.nd rfl (Or.inl rfl) (pe_lst pa_nil))
      (pss_cons (ps_while PassesOwn.never (pt_val (pe_meth0 (pv 1) L.cl d1.me G1 hr1 d1.b .nil pass0))
        (pss_cons (ps_set (i := 4) scAnswers.nd rfl (Or.inl rfl) (pe_kdget (pe_glob (v := .ref cd) rfl hcd rfl) (pe_meth0 (pv 1) L.cl d2.me G2 hr1 d2.b .nil pass0) (fun _ _ => rfl)))
        (pss_cons (ps_set (i := 5) scAnswers.nd rfl (Or.inl rfl) (pe_callV (k := 10) (pv 4) hr (pa_cons (pv 2) (pa_cons (pv 1) pa_nil))))
        (pss_cons (ps_expr (pe_bm PySem.F.plainAttrs_list PySem.F.slot_list_append PySem.F.type_list_append mt_append (pv 3) (pa_cons (pe_callB call_len_seq (by rfl) B.len PySem.boot_len (pa_cons (pv 5) pa_nil)) pa_nil)))
        (pss_one (ps_expr (pe_bm PySem.F.plainAttrs_list PySem.F.slot_list_extend PySem.F.type_list_extend mt_extend (pv 3) (pa_cons (pv 5) pa_nil))))))))
      (pss_one (ps_ret (pv 3)))))), ?_⟩
    refine ⟨_, rfl, fun q dq nq ndq neq => ⟨q, dq, a, rfl, upd_same, fun H1 r1 kp1 => ⟨rfl, ?_⟩⟩⟩
    have hs1 : Same H H1 := Same.made nq ndq kp1
    refine fun p dp npp ndp nep => ⟨p, dp, rfl, upd_same, fun _ z => z, fun b d H2 S2 kp2 => ⟨rfl, ?_⟩⟩
    have hs2 : Same H1 H2 := Same.made npp ndp kp2
    obtain ⟨dq1, hq1⟩ := r1
    refine ⟨(by show 0 ≤ sizeLine; decide), fun wr hwr => ?_⟩
    have hs3 : Same H2 (upd H2 wr (.lst [])) := Same.add hwr
    have ha3 : SqL K (upd H2 wr (.lst [])) a (ns.map V.int) := ((hs1.trans hs2).trans hs3).seq ha
    have aw : a ≠ wr ∨ ∀ H, SqL K H a (ns.map V.int) := by
      rcases ((hs1.trans hs2).seq ha) with (h | ⟨o, h⟩) | h
      · exact .inl (ne_of_none h hwr)
      · exact .inl (ne_of_none h hwr)
      · exact .inr fun _ => .inr h
    obtain ⟨m0, hLI⟩ := LI.start hask
    have S3 : SAt K C (fun y => y = wr) R (upd H2 wr (.lst [])) p b d q a [] [] 0 ns 0 := ⟨(S2.same hs3).setZ upd_same (ne_of_none S2.bt hwr), ⟨dq1, hs3 _ _ (hs2 _ _ hq1)⟩, ha3⟩
    refine ⟨fun m σ H3 => ∃ (v4 v5 : Option V) (b d : Addr) (F : Rc77.Frame) (kvs : List (Key × V)) (c i : Nat) (wl : List Int), σ = [some (V.ref a), some (V.ref q), some (V.ref p), some (V.ref wr), v4, v5] ∧ SAt K C (fun y => y = wr) R H3 p b d q a F kvs c ns i ∧ H3 wr = some (.lst (wl.map V.int)) ∧ LI ns (PyRc77.answers ns) m i wl F c,
      ⟨m0, none, none, b, d, [], [], 0, 0, [], rfl, S3, upd_same, hLI⟩, ?_⟩
    rintro m σ H3 ⟨v4, v5, b, d, F, kvs, c, i, wl, rfl, S, hw, hL⟩
    obtain ⟨dq3, hq3⟩ := S.rd
    refine ⟨_, rfl, q, dq3, _, rfl, hq3, rflds_no _ _ (by decide +kernel) (by decide +kernel), q, a, i, _, rfl, S.rd, S.sq, _, rfl, ?_⟩
    refine iteE2 (c := decide (i < ns.length)) (by rw [List.length_map]) (fun hlt => ?_) (fun hge => ?_)
    · refine ⟨_, fun σ' H' z => z, ?_⟩
      obtain ⟨kk, call, u, m', hnx⟩ := hL.next (by simpa using hlt)
      rcases hnx with ⟨hk, hk11, hargs, hc, hwl, hm, hL'⟩ | hF
      · obtain ⟨g, gd, hfm, G, kp, bb⟩ := hcalls kk hk11
        refine ⟨_, rfl, q, dq3, _, rfl, hq3, rflds_no _ _ (by decide +kernel) (by decide +kernel), q, a, i, ns, (kk : Int), rfl, S.rd, S.sq, hk, fun H4 r4 kp4 => ?_⟩
        refine ⟨cd, fm, (kk : Int), .ref g, .ref g, rfl, rfl, km, hfm, rfl, ?_⟩
        have S4 := S.took r4 kp4
        have hw4 := kp4 _ _ hw (ne_of hw hq3 (by intro z; cases z))
        obtain ⟨dx4, hp4⟩ := S4.ar.ob
        obtain ⟨dq4, hq4⟩ := S4.rd
        refine ⟨_, rfl, g, gd, _, _, rfl, G, kp, bb, _, rfl, _, rfl, (fun y => y = wr), p, b, d, q, a, F, kvs, c, ns, i + 1, call, u, rfl, S4, by omega, hargs, fun r b' d' kvs' H5 A5 r5 hr5 hZ kp5 => ?_⟩
        have hw5 := kp5 _ _ hw4 (ne_of hw4 hp4 (by intro z; cases z)) (ne_of hw4 S4.ar.dc (by intro z; cases z)) (ne_of hw4 hq4 (by intro z; cases z))
        have sq5 : SqL K H5 a (ns.map V.int) := sq_keep S4.sq fun o e s => kp5 a o e (ne_of e hp4 (not_ins s)) (ne_of e S4.ar.dc (not_dK s)) (ne_of e hq4 (not_ins s))
        have hol := out_len S.ar.len call
        refine ⟨_, rfl, .inl ⟨rfl, _, SqL.of hw5⟩, _, rfl, r, _, rfl, .inl (SqL.of hr5), wr, _, _, rfl, rfl, hw5, (by rw [List.length_map, sizeLine_eq]; omega), ?_⟩
        have hr6 : (upd H5 wr (.lst (wl.map V.int ++ [V.int ((((outL F call).map V.int).length : Nat) : Int)]))) r = some (.lst ((outL F call).map V.int)) := by rw [upd_ne hZ]; exact hr5
        refine ⟨_, rfl, .inl ⟨rfl, _, SqL.of upd_same⟩, _, rfl, wr, r, _, _, rfl, rfl, upd_same, hr6, ?_, ?_⟩
        · rw [List.length_append, List.length_map, List.length_map, sizeLine_eq]
          show wl.length + 1 + _ ≤ _
          omega
        · rw [upd_upd]
          refine ⟨m', hm, some (.ref g), some (.ref r), b', d', _, kvs', c + 2, i + 1 + u, wl ++ ((outL F call).length : Int) :: outL F call, rfl, ⟨A5.updZ _, ?_, ?_⟩, ?_, hL'⟩
          · obtain ⟨dq5, hq5⟩ := r5
            exact ⟨dq5, by rw [upd_ne (ne_of hq5 hw5 (by intro z; cases z))]; exact hq5⟩
          · rcases aw with h | h
            · exact sq_keep sq5 fun o e _ => by rw [upd_ne h]; exact e
            · exact h _
          · rw [upd_same, List.map_append, List.map_cons, List.length_map, List.append_assoc]
            rfl
      · exact absurd S.ar.len hF
    · have e := hL.done (by simpa using hge)
      subst e
      exact ⟨_, rfl, k wr H3 hw⟩
end
end Bt

set_option linter.all false
set_option maxRecDepth 100000
set_option Elab.async false
namespace Bt
open PySem L2 Rc77 Ar
theorem findBy_list {P : Int → Value → Bool} (l : List DictEntry) (k : Int) : findBy P l.toArray k = (l.find? fun e => P k e.key).map (·.val) := by
  unfold findBy
  rw [List.find?_toArray]
theorem ok_all {P : Program} {w : World} {K : PySem.W.Frag} {mg : Str → Option Value} {base : Heap} {C R fa cd : Addr} {fda : FuncData} {fm : Int → Option Value} {f1 f2 f3 f4 f5 f6 f7 f8 f9 f10 f12 f13 f14 f15 f16 f17 f18 f19 f20 f21 f22 f23 f24 f25 f29 f30 f31 f32 f42 f43 f44 f45 f46 f47 f48 f49 f50 f51 f52 mC0 mC1 mC2 mC3 mC4 mC5 mC6 mC7 mC8 mC9 mC10 mC11 mC12 mC13 mC14 mC15 mR0 mR1 mR2 mR3 : Addr} {fd1 fd2 fd3 fd4 fd5 fd6 fd7 fd8 fd9 fd10 fd12 fd13 fd14 fd15 fd16 fd17 fd18 fd19 fd20 fd21 fd22 fd23 fd24 fd25 fd29 fd30 fd31 fd32 fd42 fd43 fd44 fd45 fd46 fd47 fd48 fd49 fd50 fd51 fd52 mdC0 mdC1 mdC2 mdC3 mdC4 mdC5 mdC6 mdC7 mdC8 mdC9 mdC10 mdC11 mdC12 mdC13 mdC14 mdC15 mdR0 mdR1 mdR2 mdR3 : FuncData}
    (F : Fun K "answers" "answers" sAnswers fa fda) (B : Bl mg) (N : Nums mg) (T : Cl K mg C) (L : Rl K R) (mC : mg "Arguments" = some (.ref C)) (mR : mg "Reader" = some (.ref R)) (MC : Mk K C mC0) (MR : Mk K R mR0)
    (KA : KindsAt K mg [f19, f20, f21, f22, f23, f24, f25]) (hcd : mg "CALLS" = some (.ref cd)) (km : KMap K cd fm)
    (e0 : fm 0 = some (.ref f42)) (e1 : fm 1 = some (.ref f43)) (e2 : fm 2 = some (.ref f44)) (e3 : fm 3 = some (.ref f45)) (e4 : fm 4 = some (.ref f46)) (e5 : fm 5 = some (.ref f47)) (e6 : fm 6 = some (.ref f48)) (e7 : fm 7 = some (.ref f49)) (e8 : fm 8 = some (.ref f50)) (e9 : fm 9 = some (.ref f51)) (e10 : fm 10 = some (.ref f52))
    (d1 : Def K mg "everyone" sEveryone f1 fd1 ["beats"])
    (d2 : Def K mg "beaters_of_each" sEach f2 fd2 ["beats"])
    (d3 : Def K mg "beaters_of" sBeatersOf f3 fd3 ["beats", "a"])
    (d4 : Def K mg "beaten_by" sBeatenBy f4 fd4 ["beats", "members"])
    (d5 : Def K mg "shielded_by" sShielded f5 fd5 ["beats", "members"])
    (d6 : Def K mg "rounds" sRounds f6 fd6 ["beats"])
    (d7 : Def K mg "first_with" sFirst f7 fd7 ["several", "a"])
    (d8 : Def K mg "least_of" sLeast f8 fd8 ["members"])
    (d9 : Def K mg "left_by" sLeftBy f9 fd9 ["beats", "members"])
    (d10 : Def K mg "cut_to" sCutTo f10 fd10 ["beats", "left"])
    (d12 : Def K mg "peaceful_rows" sPeaceRows f12 fd12 ["beats"])
    (d13 : Def K mg "holding_rows" sHoldRows f13 fd13 ["beats"])
    (d14 : Def K mg "complete_rows" sCompleteRows f14 fd14 ["beats"])
    (d15 : Def K mg "has_all_it_shields" sHasAll f15 fd15 ["row", "beaters"])
    (d16 : Def K mg "reach" sReach f16 fd16 ["row"])
    (d17 : Def K mg "utmost" sUtmost f17 fd17 ["rising"])
    (d18 : Def K mg "is_within_some" sWithin f18 fd18 ["members", "others"])
    (d19 : Def K mg "peaceful" sPeaceful f19 fd19 ["beats"])
    (d20 : Def K mg "holding" sHolding f20 fd20 ["beats"])
    (d21 : Def K mg "complete" sComplete f21 fd21 ["beats"])
    (d22 : Def K mg "full" sFull f22 fd22 ["beats"])
    (d23 : Def K mg "stable" sStable f23 fd23 ["beats"])
    (d24 : Def K mg "far" sFar f24 fd24 ["beats"])
    (d25 : Def K mg "great" sGreat f25 fd25 ["beats"])
    (d29 : Def K mg "is_kind" sIsKind f29 fd29 ["kind"])
    (d30 : Def K mg "sets_of_kind" sSetsOf f30 fd30 ["beats", "kind"])
    (d31 : Def K mg "greatest_within" sGreatest f31 fd31 ["holding_sets", "full_sets"])
    (d32 : Def K mg "had_by_all" sHadAll f32 fd32 ["several"])
    (d42 : Def K mg "call_begin" (sCall 0) f42 fd42 ["arguments", "reader"])
    (d43 : Def K mg "call_set" (sCall 1) f43 fd43 ["arguments", "reader"])
    (d44 : Def K mg "call_turn" (sCall 2) f44 fd44 ["arguments", "reader"])
    (d45 : Def K mg "call_sets" (sCall 3) f45 fd45 ["arguments", "reader"])
    (d46 : Def K mg "call_is" (sCall 4) f46 fd46 ["arguments", "reader"])
    (d47 : Def K mg "call_ground" (sCall 5) f47 fd47 ["arguments", "reader"])
    (d48 : Def K mg "call_ideal" (sCall 6) f48 fd48 ["arguments", "reader"])
    (d49 : Def K mg "call_round" (sCall 7) f49 fd49 ["arguments", "reader"])
    (d50 : Def K mg "call_answer" (sCall 8) f50 fd50 ["arguments", "reader"])
    (d51 : Def K mg "call_status" (sCall 9) f51 fd51 ["arguments", "reader"])
    (d52 : Def K mg "call_cut" (sCall 10) f52 fd52 ["arguments", "reader"])
    (dC0 : Fun K "__init__" "Arguments.__init__" sInit mC0 mdC0) (bC0 : Binds K mdC0 ["self"] [])
    (dC1 : MDef K C "begin" "Arguments.begin" sBegin mC1 mdC1 ["self"])
    (dC2 : MDef K C "put" "Arguments.put" sPut mC2 mdC2 ["self", "beats"])
    (dC3 : MDef K C "turn" "Arguments.turn" sTurn mC3 mdC3 ["self", "a", "b", "on"])
    (dC4 : MDef K C "sets" "Arguments.sets" sSets mC4 mdC4 ["self", "kind", "most"])
    (dC5 : MDef K C "is_of_kind" "Arguments.is_of_kind" sIs mC5 mdC5 ["self", "kind", "members"])
    (dC6 : MDef K C "ground" "Arguments.ground" sGround mC6 mdC6 ["self"])
    (dC7 : MDef K C "ideal" "Arguments.ideal" sIdeal mC7 mdC7 ["self"])
    (dC8 : MDef K C "round_of" "Arguments.round_of" sRound mC8 mdC8 ["self", "a"])
    (dC9 : MDef K C "answer_to" "Arguments.answer_to" sAnswer mC9 mdC9 ["self", "b"])
    (dC10 : MDef K C "status" "Arguments.status" sStatus mC10 mdC10 ["self", "kind", "a"])
    (dC11 : MDef K C "cut" "Arguments.cut" sCut mC11 mdC11 ["self", "members"])
    (dC12 : MDef K C "has" "Arguments.has" sHas mC12 mdC12 ["self", "a"])
    (dC13 : MDef K C "has_all" "Arguments.has_all" sHasAllM mC13 mdC13 ["self", "members"])
    (dC14 : MDef K C "become" "Arguments.become" sBecome mC14 mdC14 ["self", "beats"])
    (dC15 : MDef K C "of_kind" "Arguments.of_kind" sOfKind mC15 mdC15 ["self", "kind"])
    (dR0 : Fun K "__init__" "Reader.__init__" rInit mR0 mdR0) (bR0 : Binds K mdR0 ["self", "numbers"] [])
    (dR1 : MDef K R "has_more" "Reader.has_more" rMore mR1 mdR1 ["self"])
    (dR2 : MDef K R "take" "Reader.take" rTake mR2 mdR2 ["self"])
    (dR3 : MDef K R "take_row" "Reader.take_row" rRow mR3 mdR3 ["self"]) :
    FnOk P w K mg base CX0 11 fa fda ["calls"] (spAnswers K) := by
  have dp : DP K mg f3 f2 f12 fd3 fd2 fd12 := ⟨d3, d2, d12⟩
  have dc : DC K mg f3 f2 f12 f13 f15 fd3 fd2 fd12 fd13 fd15 := ⟨dp, d13, d15⟩
  have KF : ∀ k g, ([f19, f20, f21, f22, f23, f24, f25] : List Addr)[k]? = some g → KindFn P w K mg base g k := fun k g h => match k, h with
    | 0, h => by cases h; exact ⟨fd19, (ok_peaceful d19.fn B dp).mono (by decide), d19.fn.kp, d19.b⟩
    | 1, h => by cases h; exact ⟨fd20, (ok_holding d20.fn B dp d13).mono (by decide), d20.fn.kp, d20.b⟩
    | 2, h => by cases h; exact ⟨fd21, ok_complete d21.fn B dc d14, d21.fn.kp, d21.b⟩
    | 3, h => by cases h; exact ⟨fd22, ok_full d22.fn B dp d13 d20 d17 d18, d22.fn.kp, d22.b⟩
    | 4, h => by cases h; exact ⟨fd23, (ok_stable d23.fn B dp d1 d16).mono (by decide), d23.fn.kp, d23.b⟩
    | 5, h => by cases h; exact ⟨fd24, ok_far d24.fn B dc d14 d17 d18 d16, d24.fn.kp, d24.b⟩
    | 6, h => by cases h; exact ⟨fd25, (ok_great d25.fn B dp d1 d16).mono (by decide), d25.fn.kp, d25.b⟩
    | n + 7, h => by cases h
  have GK : FnOk P w K mg base CX0 1 f29 fd29 ["kind"] spIsKind := ok_isKind d29.fn B KA
  have GS : FnOk P w K mg base CX0 7 f30 fd30 ["beats", "kind"] (spSetsOf K) := ok_setsOf d30.fn KA KF
  have GO : ∀ Z, FnOk P w K mg base CX0 8 mC15 mdC15 ["self", "kind"] (spOfKind C Z) := fun Z => ok_ofKind dC15.fn T d30 GS
  have GR : FnOk P w K mg base CX0 4 f6 fd6 ["beats"] (spRounds K) := ok_rounds d6.fn B d3 d2 d4 d5
  have c0 : FnOk P w K mg base CX0 10 f42 fd42 ["arguments", "reader"] (spCallZ K C R 0) := FnOk.ex (sp := fun Z => spCall K C Z R 0) fun Z => ok_call0 d42.fn T dC1 (ok_begin dC1.fn T N dC14)
  have c1 : FnOk P w K mg base CX0 10 f43 fd43 ["arguments", "reader"] (spCallZ K C R 1) := FnOk.ex (sp := fun Z => spCall K C Z R 1) fun Z => ok_call1 d43.fn B T L dR2 dR3 dC2 (ok_put dC2.fn B T N dC14)
  have c2 : FnOk P w K mg base CX0 10 f44 fd44 ["arguments", "reader"] (spCallZ K C R 2) := FnOk.ex (sp := fun Z => spCall K C Z R 2) fun Z => ok_call2 d44.fn T L dR2 dC3 (ok_turn dC3.fn B T N dC14 dC12)
  have c3 : FnOk P w K mg base CX0 10 f45 fd45 ["arguments", "reader"] (spCallZ K C R 3) := FnOk.ex (sp := fun Z => spCall K C Z R 3) fun Z => ok_call3 d45.fn T L dR2 dC4 (ok_sets dC4.fn B T N d29 GK dC15 (GO Z))
  have c4 : FnOk P w K mg base CX0 10 f46 fd46 ["arguments", "reader"] (spCallZ K C R 4) := FnOk.ex (sp := fun Z => spCall K C Z R 4) fun Z => ok_call4 d46.fn T L dR2 dC5 (ok_is dC5.fn B T N d29 GK dC15 (GO Z) dC13)
  have c5 : FnOk P w K mg base CX0 10 f47 fd47 ["arguments", "reader"] (spCallZ K C R 5) := FnOk.ex (sp := fun Z => spCall K C Z R 5) fun Z => ok_call5 d47.fn T dC6 (ok_ground dC6.fn T N d6 GR)
  have c6 : FnOk P w K mg base CX0 10 f48 fd48 ["arguments", "reader"] (spCallZ K C R 6) := FnOk.ex (sp := fun Z => spCall K C Z R 6) fun Z => ok_call6 d48.fn T dC7 (ok_ideal dC7.fn B T N d31 dC15 (GO Z) d32)
  have c7 : FnOk P w K mg base CX0 10 f49 fd49 ["arguments", "reader"] (spCallZ K C R 7) := FnOk.ex (sp := fun Z => spCall K C Z R 7) fun Z => ok_call7 d49.fn T L dR2 dC8 (ok_round dC8.fn B T N d6 GR dC12 d7 d4)
  have c8 : FnOk P w K mg base CX0 10 f50 fd50 ["arguments", "reader"] (spCallZ K C R 8) := FnOk.ex (sp := fun Z => spCall K C Z R 8) fun Z => ok_call8 d50.fn T L dR2 dC9 (ok_answer dC9.fn B T N d6 GR dC12 d8 d3)
  have c9 : FnOk P w K mg base CX0 10 f51 fd51 ["arguments", "reader"] (spCallZ K C R 9) := FnOk.ex (sp := fun Z => spCall K C Z R 9) fun Z => ok_call9 d51.fn T L dR2 dC10 (ok_status dC10.fn B T N d29 GK dC15 (GO Z) dC12)
  have c10 : FnOk P w K mg base CX0 10 f52 fd52 ["arguments", "reader"] (spCallZ K C R 10) := FnOk.ex (sp := fun Z => spCall K C Z R 10) fun Z => ok_call10 d52.fn T L dR2 dC11 (ok_cut dC11.fn B T N dC14 dC13 d9 d10 d1 d4)
  have CA : CallsAt P w K mg base C R := ⟨cd, fm, hcd, km, fun k hk => match k, hk with
    | 0, _ => ⟨f42, fd42, e0, c0, d42.fn.kp, d42.b⟩
    | 1, _ => ⟨f43, fd43, e1, c1, d43.fn.kp, d43.b⟩
    | 2, _ => ⟨f44, fd44, e2, c2, d44.fn.kp, d44.b⟩
    | 3, _ => ⟨f45, fd45, e3, c3, d45.fn.kp, d45.b⟩
    | 4, _ => ⟨f46, fd46, e4, c4, d46.fn.kp, d46.b⟩
    | 5, _ => ⟨f47, fd47, e5, c5, d47.fn.kp, d47.b⟩
    | 6, _ => ⟨f48, fd48, e6, c6, d48.fn.kp, d48.b⟩
    | 7, _ => ⟨f49, fd49, e7, c7, d49.fn.kp, d49.b⟩
    | 8, _ => ⟨f50, fd50, e8, c8, d50.fn.kp, d50.b⟩
    | 9, _ => ⟨f51, fd51, e9, c9, d51.fn.kp, d51.b⟩
    | 10, _ => ⟨f52, fd52, e10, c10, d52.fn.kp, d52.b⟩
    | n + 11, hk => absurd hk (by omega)⟩
  exact ok_answers F B T L mC mR MC MR dC0 bC0 dR0 bR0 dR1 dR2 CA
set_option maxHeartbeats 0 in
theorem all_mk {P : Program} {w : World} {K : PySem.W.Frag} {h : Heap} {mg : Str → Option Value} {fa C R ka cd f1 f2 f3 f4 f5 f6 f7 f8 f9 f10 f12 f13 f14 f15 f16 f17 f18 f19 f20 f21 f22 f23 f24 f25 f29 f30 f31 f32 f42 f43 f44 f45 f46 f47 f48 f49 f50 f51 f52 mC0 mC1 mC2 mC3 mC4 mC5 mC6 mC7 mC8 mC9 mC10 mC11 mC12 mC13 mC14 mC15 mR0 mR1 mR2 mR3 f54 : Addr} (X : K.In h) (G : h.Ns mainGlobals mg) (hfa : mg "answers" = some (.ref fa))
    {od1 an1 od2 an2 od3 an3 od4 an4 od5 an5 od6 an6 od7 an7 od8 an8 od9 an9 od10 an10 od12 an12 od13 an13 od14 an14 od15 an15 od16 an16 od17 an17 od18 an18 od19 an19 od20 an20 od21 an21 od22 an22 od23 an23 od24 an24 od25 an25 od29 an29 od30 an30 od31 an31 od32 an32 od42 an42 od43 an43 od44 an44 od45 an45 od46 an46 od47 an47 od48 an48 od49 an49 od50 an50 od51 an51 od52 an52 od54 an54 odC0 anC0 odC1 anC1 odC2 anC2 odC3 anC3 odC4 anC4 odC5 anC5 odC6 anC6 odC7 anC7 odC8 anC8 odC9 anC9 odC10 anC10 odC11 anC11 odC12 anC12 odC13 anC13 odC14 anC14 odC15 anC15 odR0 anR0 odR1 anR1 odR2 anR2 odR3 anR3 odK : Option Addr} {sl1 sl2 sl3 sl4 sl5 sl6 sl7 sl8 sl9 sl10 sl12 sl13 sl14 sl15 sl16 sl17 sl18 sl19 sl20 sl21 sl22 sl23 sl24 sl25 sl29 sl30 sl31 sl32 sl42 sl43 sl44 sl45 sl46 sl47 sl48 sl49 sl50 sl51 sl52 sl54 slC0 slC1 slC2 slC3 slC4 slC5 slC6 slC7 slC8 slC9 slC10 slC11 slC12 slC13 slC14 slC15 slR0 slR1 slR2 slR3 slK : Array (Option Value)} {oc1 kV1 dc1 pm1 cc1 ct1 oc2 kV2 dc2 pm2 cc2 ct2 oc3 kV3 dc3 pm3 cc3 ct3 oc4 kV4 dc4 pm4 cc4 ct4 oc5 kV5 dc5 pm5 cc5 ct5 oc6 kV6 dc6 pm6 cc6 ct6 oc7 kV7 dc7 pm7 cc7 ct7 oc8 kV8 dc8 pm8 cc8 ct8 oc9 kV9 dc9 pm9 cc9 ct9 oc10 kV10 dc10 pm10 cc10 ct10 oc12 kV12 dc12 pm12 cc12 ct12 oc13 kV13 dc13 pm13 cc13 ct13 oc14 kV14 dc14 pm14 cc14 ct14 oc15 kV15 dc15 pm15 cc15 ct15 oc16 kV16 dc16 pm16 cc16 ct16 oc17 kV17 dc17 pm17 cc17 ct17 oc18 kV18 dc18 pm18 cc18 ct18 oc19 kV19 dc19 pm19 cc19 ct19 oc20 kV20 dc20 pm20 cc20 ct20 oc21 kV21 dc21 pm21 cc21 ct21 oc22 kV22 dc22 pm22 cc22 ct22 oc23 kV23 dc23 pm23 cc23 ct23 oc24 kV24 dc24 pm24 cc24 ct24 oc25 kV25 dc25 pm25 cc25 ct25 oc29 kV29 dc29 pm29 cc29 ct29 oc30 kV30 dc30 pm30 cc30 ct30 oc31 kV31 dc31 pm31 cc31 ct31 oc32 kV32 dc32 pm32 cc32 ct32 oc42 kV42 dc42 pm42 cc42 ct42 oc43 kV43 dc43 pm43 cc43 ct43 oc44 kV44 dc44 pm44 cc44 ct44 oc45 kV45 dc45 pm45 cc45 ct45 oc46 kV46 dc46 pm46 cc46 ct46 oc47 kV47 dc47 pm47 cc47 ct47 oc48 kV48 dc48 pm48 cc48 ct48 oc49 kV49 dc49 pm49 cc49 ct49 oc50 kV50 dc50 pm50 cc50 ct50 oc51 kV51 dc51 pm51 cc51 ct51 oc52 kV52 dc52 pm52 cc52 ct52 oc54 kV54 dc54 pm54 cc54 ct54 ocC0 kVC0 dcC0 pmC0 ccC0 ctC0 ocC1 kVC1 dcC1 pmC1 ccC1 ctC1 ocC2 kVC2 dcC2 pmC2 ccC2 ctC2 ocC3 kVC3 dcC3 pmC3 ccC3 ctC3 ocC4 kVC4 dcC4 pmC4 ccC4 ctC4 ocC5 kVC5 dcC5 pmC5 ccC5 ctC5 ocC6 kVC6 dcC6 pmC6 ccC6 ctC6 ocC7 kVC7 dcC7 pmC7 ccC7 ctC7 ocC8 kVC8 dcC8 pmC8 ccC8 ctC8 ocC9 kVC9 dcC9 pmC9 ccC9 ctC9 ocC10 kVC10 dcC10 pmC10 ccC10 ctC10 ocC11 kVC11 dcC11 pmC11 ccC11 ctC11 ocC12 kVC12 dcC12 pmC12 ccC12 ctC12 ocC13 kVC13 dcC13 pmC13 ccC13 ctC13 ocC14 kVC14 dcC14 pmC14 ccC14 ctC14 ocC15 kVC15 dcC15 pmC15 ccC15 ctC15 ocR0 kVR0 dcR0 pmR0 ccR0 ctR0 ocR1 kVR1 dcR1 pmR1 ccR1 ctR1 ocR2 kVR2 dcR2 pmR2 ccR2 ctR2 ocR3 kVR3 dcR3 pmR3 ccR3 ctR3 : Value} {tDONE tREFUSED tMOST_ARGUMENTS tMOST_SETS tNONE_SUCH tHOLDING tFULL tk0 tk1 tk2 tk3 tk4 tk5 tk6 tk7 tk8 tk9 tk10 : Tok} {nK ep : Nat} {hh0 hh1 hh2 hh3 hh4 hh5 hh6 hh7 hh8 hh9 hh10 : Int}
    (a1 : PySem.W.nsIn K mainGlobals "everyone" = some (some (.ref f1))) (l1 : K.lookup f1 = some ⟨oc1, od1, .func (PySem.W.fnOf "everyone" "everyone" (defArgs sEveryone) (defBody sEveryone) (defScope sEveryone) .none kV1 dc1 pm1 an1 cc1 ct1), sl1⟩) (c1 : PySem.W.codeIn K cc1 "everyone" = true) (k1 : PySem.W.keepIn K (.ref f1) = true)
    (a2 : PySem.W.nsIn K mainGlobals "beaters_of_each" = some (some (.ref f2))) (l2 : K.lookup f2 = some ⟨oc2, od2, .func (PySem.W.fnOf "beaters_of_each" "beaters_of_each" (defArgs sEach) (defBody sEach) (defScope sEach) .none kV2 dc2 pm2 an2 cc2 ct2), sl2⟩) (c2 : PySem.W.codeIn K cc2 "beaters_of_each" = true) (k2 : PySem.W.keepIn K (.ref f2) = true)
    (a3 : PySem.W.nsIn K mainGlobals "beaters_of" = some (some (.ref f3))) (l3 : K.lookup f3 = some ⟨oc3, od3, .func (PySem.W.fnOf "beaters_of" "beaters_of" (defArgs sBeatersOf) (defBody sBeatersOf) (defScope sBeatersOf) .none kV3 dc3 pm3 an3 cc3 ct3), sl3⟩) (c3 : PySem.W.codeIn K cc3 "beaters_of" = true) (k3 : PySem.W.keepIn K (.ref f3) = true)
    (a4 : PySem.W.nsIn K mainGlobals "beaten_by" = some (some (.ref f4))) (l4 : K.lookup f4 = some ⟨oc4, od4, .func (PySem.W.fnOf "beaten_by" "beaten_by" (defArgs sBeatenBy) (defBody sBeatenBy) (defScope sBeatenBy) .none kV4 dc4 pm4 an4 cc4 ct4), sl4⟩) (c4 : PySem.W.codeIn K cc4 "beaten_by" = true) (k4 : PySem.W.keepIn K (.ref f4) = true)
    (a5 : PySem.W.nsIn K mainGlobals "shielded_by" = some (some (.ref f5))) (l5 : K.lookup f5 = some ⟨oc5, od5, .func (PySem.W.fnOf "shielded_by" "shielded_by" (defArgs sShielded) (defBody sShielded) (defScope sShielded) .none kV5 dc5 pm5 an5 cc5 ct5), sl5⟩) (c5 : PySem.W.codeIn K cc5 "shielded_by" = true) (k5 : PySem.W.keepIn K (.ref f5) = true)
    (a6 : PySem.W.nsIn K mainGlobals "rounds" = some (some (.ref f6))) (l6 : K.lookup f6 = some ⟨oc6, od6, .func (PySem.W.fnOf "rounds" "rounds" (defArgs sRounds) (defBody sRounds) (defScope sRounds) .none kV6 dc6 pm6 an6 cc6 ct6), sl6⟩) (c6 : PySem.W.codeIn K cc6 "rounds" = true) (k6 : PySem.W.keepIn K (.ref f6) = true)
    (a7 : PySem.W.nsIn K mainGlobals "first_with" = some (some (.ref f7))) (l7 : K.lookup f7 = some ⟨oc7, od7, .func (PySem.W.fnOf "first_with" "first_with" (defArgs sFirst) (defBody sFirst) (defScope sFirst) .none kV7 dc7 pm7 an7 cc7 ct7), sl7⟩) (c7 : PySem.W.codeIn K cc7 "first_with" = true) (k7 : PySem.W.keepIn K (.ref f7) = true)
    (a8 : PySem.W.nsIn K mainGlobals "least_of" = some (some (.ref f8))) (l8 : K.lookup f8 = some ⟨oc8, od8, .func (PySem.W.fnOf "least_of" "least_of" (defArgs sLeast) (defBody sLeast) (defScope sLeast) .none kV8 dc8 pm8 an8 cc8 ct8), sl8⟩) (c8 : PySem.W.codeIn K cc8 "least_of" = true) (k8 : PySem.W.keepIn K (.ref f8) = true)
    (a9 : PySem.W.nsIn K mainGlobals "left_by" = some (some (.ref f9))) (l9 : K.lookup f9 = some ⟨oc9, od9, .func (PySem.W.fnOf "left_by" "left_by" (defArgs sLeftBy) (defBody sLeftBy) (defScope sLeftBy) .none kV9 dc9 pm9 an9 cc9 ct9), sl9⟩) (c9 : PySem.W.codeIn K cc9 "left_by" = true) (k9 : PySem.W.keepIn K (.ref f9) = true)
    (a10 : PySem.W.nsIn K mainGlobals "cut_to" = some (some (.ref f10))) (l10 : K.lookup f10 = some ⟨oc10, od10, .func (PySem.W.fnOf "cut_to" "cut_to" (defArgs sCutTo) (defBody sCutTo) (defScope sCutTo) .none kV10 dc10 pm10 an10 cc10 ct10), sl10⟩) (c10 : PySem.W.codeIn K cc10 "cut_to" = true) (k10 : PySem.W.keepIn K (.ref f10) = true)
    (a12 : PySem.W.nsIn K mainGlobals "peaceful_rows" = some (some (.ref f12))) (l12 : K.lookup f12 = some ⟨oc12, od12, .func (PySem.W.fnOf "peaceful_rows" "peaceful_rows" (defArgs sPeaceRows) (defBody sPeaceRows) (defScope sPeaceRows) .none kV12 dc12 pm12 an12 cc12 ct12), sl12⟩) (c12 : PySem.W.codeIn K cc12 "peaceful_rows" = true) (k12 : PySem.W.keepIn K (.ref f12) = true)
    (a13 : PySem.W.nsIn K mainGlobals "holding_rows" = some (some (.ref f13))) (l13 : K.lookup f13 = some ⟨oc13, od13, .func (PySem.W.fnOf "holding_rows" "holding_rows" (defArgs sHoldRows) (defBody sHoldRows) (defScope sHoldRows) .none kV13 dc13 pm13 an13 cc13 ct13), sl13⟩) (c13 : PySem.W.codeIn K cc13 "holding_rows" = true) (k13 : PySem.W.keepIn K (.ref f13) = true)
    (a14 : PySem.W.nsIn K mainGlobals "complete_rows" = some (some (.ref f14))) (l14 : K.lookup f14 = some ⟨oc14, od14, .func (PySem.W.fnOf "complete_rows" "complete_rows" (defArgs sCompleteRows) (defBody sCompleteRows) (defScope sCompleteRows) .none kV14 dc14 pm14 an14 cc14 ct14), sl14⟩) (c14 : PySem.W.codeIn K cc14 "complete_rows" = true) (k14 : PySem.W.keepIn K (.ref f14) = true)
    (a15 : PySem.W.nsIn K mainGlobals "has_all_it_shields" = some (some (.ref f15))) (l15 : K.lookup f15 = some ⟨oc15, od15, .func (PySem.W.fnOf "has_all_it_shields" "has_all_it_shields" (defArgs sHasAll) (defBody sHasAll) (defScope sHasAll) .none kV15 dc15 pm15 an15 cc15 ct15), sl15⟩) (c15 : PySem.W.codeIn K cc15 "has_all_it_shields" = true) (k15 : PySem.W.keepIn K (.ref f15) = true)
    (a16 : PySem.W.nsIn K mainGlobals "reach" = some (some (.ref f16))) (l16 : K.lookup f16 = some ⟨oc16, od16, .func (PySem.W.fnOf "reach" "reach" (defArgs sReach) (defBody sReach) (defScope sReach) .none kV16 dc16 pm16 an16 cc16 ct16), sl16⟩) (c16 : PySem.W.codeIn K cc16 "reach" = true) (k16 : PySem.W.keepIn K (.ref f16) = true)
    (a17 : PySem.W.nsIn K mainGlobals "utmost" = some (some (.ref f17))) (l17 : K.lookup f17 = some ⟨oc17, od17, .func (PySem.W.fnOf "utmost" "utmost" (defArgs sUtmost) (defBody sUtmost) (defScope sUtmost) .none kV17 dc17 pm17 an17 cc17 ct17), sl17⟩) (c17 : PySem.W.codeIn K cc17 "utmost" = true) (k17 : PySem.W.keepIn K (.ref f17) = true)
    (a18 : PySem.W.nsIn K mainGlobals "is_within_some" = some (some (.ref f18))) (l18 : K.lookup f18 = some ⟨oc18, od18, .func (PySem.W.fnOf "is_within_some" "is_within_some" (defArgs sWithin) (defBody sWithin) (defScope sWithin) .none kV18 dc18 pm18 an18 cc18 ct18), sl18⟩) (c18 : PySem.W.codeIn K cc18 "is_within_some" = true) (k18 : PySem.W.keepIn K (.ref f18) = true)
    (a19 : PySem.W.nsIn K mainGlobals "peaceful" = some (some (.ref f19))) (l19 : K.lookup f19 = some ⟨oc19, od19, .func (PySem.W.fnOf "peaceful" "peaceful" (defArgs sPeaceful) (defBody sPeaceful) (defScope sPeaceful) .none kV19 dc19 pm19 an19 cc19 ct19), sl19⟩) (c19 : PySem.W.codeIn K cc19 "peaceful" = true) (k19 : PySem.W.keepIn K (.ref f19) = true)
    (a20 : PySem.W.nsIn K mainGlobals "holding" = some (some (.ref f20))) (l20 : K.lookup f20 = some ⟨oc20, od20, .func (PySem.W.fnOf "holding" "holding" (defArgs sHolding) (defBody sHolding) (defScope sHolding) .none kV20 dc20 pm20 an20 cc20 ct20), sl20⟩) (c20 : PySem.W.codeIn K cc20 "holding" = true) (k20 : PySem.W.keepIn K (.ref f20) = true)
    (a21 : PySem.W.nsIn K mainGlobals "complete" = some (some (.ref f21))) (l21 : K.lookup f21 = some ⟨oc21, od21, .func (PySem.W.fnOf "complete" "complete" (defArgs sComplete) (defBody sComplete) (defScope sComplete) .none kV21 dc21 pm21 an21 cc21 ct21), sl21⟩) (c21 : PySem.W.codeIn K cc21 "complete" = true) (k21 : PySem.W.keepIn K (.ref f21) = true)
    (a22 : PySem.W.nsIn K mainGlobals "full" = some (some (.ref f22))) (l22 : K.lookup f22 = some ⟨oc22, od22, .func (PySem.W.fnOf "full" "full" (defArgs sFull) (defBody sFull) (defScope sFull) .none kV22 dc22 pm22 an22 cc22 ct22), sl22⟩) (c22 : PySem.W.codeIn K cc22 "full" = true) (k22 : PySem.W.keepIn K (.ref f22) = true)
    (a23 : PySem.W.nsIn K mainGlobals "stable" = some (some (.ref f23))) (l23 : K.lookup f23 = some ⟨oc23, od23, .func (PySem.W.fnOf "stable" "stable" (defArgs sStable) (defBody sStable) (defScope sStable) .none kV23 dc23 pm23 an23 cc23 ct23), sl23⟩) (c23 : PySem.W.codeIn K cc23 "stable" = true) (k23 : PySem.W.keepIn K (.ref f23) = true)
    (a24 : PySem.W.nsIn K mainGlobals "far" = some (some (.ref f24))) (l24 : K.lookup f24 = some ⟨oc24, od24, .func (PySem.W.fnOf "far" "far" (defArgs sFar) (defBody sFar) (defScope sFar) .none kV24 dc24 pm24 an24 cc24 ct24), sl24⟩) (c24 : PySem.W.codeIn K cc24 "far" = true) (k24 : PySem.W.keepIn K (.ref f24) = true)
    (a25 : PySem.W.nsIn K mainGlobals "great" = some (some (.ref f25))) (l25 : K.lookup f25 = some ⟨oc25, od25, .func (PySem.W.fnOf "great" "great" (defArgs sGreat) (defBody sGreat) (defScope sGreat) .none kV25 dc25 pm25 an25 cc25 ct25), sl25⟩) (c25 : PySem.W.codeIn K cc25 "great" = true) (k25 : PySem.W.keepIn K (.ref f25) = true)
    (a29 : PySem.W.nsIn K mainGlobals "is_kind" = some (some (.ref f29))) (l29 : K.lookup f29 = some ⟨oc29, od29, .func (PySem.W.fnOf "is_kind" "is_kind" (defArgs sIsKind) (defBody sIsKind) (defScope sIsKind) .none kV29 dc29 pm29 an29 cc29 ct29), sl29⟩) (c29 : PySem.W.codeIn K cc29 "is_kind" = true) (k29 : PySem.W.keepIn K (.ref f29) = true)
    (a30 : PySem.W.nsIn K mainGlobals "sets_of_kind" = some (some (.ref f30))) (l30 : K.lookup f30 = some ⟨oc30, od30, .func (PySem.W.fnOf "sets_of_kind" "sets_of_kind" (defArgs sSetsOf) (defBody sSetsOf) (defScope sSetsOf) .none kV30 dc30 pm30 an30 cc30 ct30), sl30⟩) (c30 : PySem.W.codeIn K cc30 "sets_of_kind" = true) (k30 : PySem.W.keepIn K (.ref f30) = true)
    (a31 : PySem.W.nsIn K mainGlobals "greatest_within" = some (some (.ref f31))) (l31 : K.lookup f31 = some ⟨oc31, od31, .func (PySem.W.fnOf "greatest_within" "greatest_within" (defArgs sGreatest) (defBody sGreatest) (defScope sGreatest) .none kV31 dc31 pm31 an31 cc31 ct31), sl31⟩) (c31 : PySem.W.codeIn K cc31 "greatest_within" = true) (k31 : PySem.W.keepIn K (.ref f31) = true)
    (a32 : PySem.W.nsIn K mainGlobals "had_by_all" = some (some (.ref f32))) (l32 : K.lookup f32 = some ⟨oc32, od32, .func (PySem.W.fnOf "had_by_all" "had_by_all" (defArgs sHadAll) (defBody sHadAll) (defScope sHadAll) .none kV32 dc32 pm32 an32 cc32 ct32), sl32⟩) (c32 : PySem.W.codeIn K cc32 "had_by_all" = true) (k32 : PySem.W.keepIn K (.ref f32) = true)
    (a42 : PySem.W.nsIn K mainGlobals "call_begin" = some (some (.ref f42))) (l42 : K.lookup f42 = some ⟨oc42, od42, .func (PySem.W.fnOf "call_begin" "call_begin" (defArgs (sCall 0)) (defBody (sCall 0)) (defScope (sCall 0)) .none kV42 dc42 pm42 an42 cc42 ct42), sl42⟩) (c42 : PySem.W.codeIn K cc42 "call_begin" = true) (k42 : PySem.W.keepIn K (.ref f42) = true)
    (a43 : PySem.W.nsIn K mainGlobals "call_set" = some (some (.ref f43))) (l43 : K.lookup f43 = some ⟨oc43, od43, .func (PySem.W.fnOf "call_set" "call_set" (defArgs (sCall 1)) (defBody (sCall 1)) (defScope (sCall 1)) .none kV43 dc43 pm43 an43 cc43 ct43), sl43⟩) (c43 : PySem.W.codeIn K cc43 "call_set" = true) (k43 : PySem.W.keepIn K (.ref f43) = true)
    (a44 : PySem.W.nsIn K mainGlobals "call_turn" = some (some (.ref f44))) (l44 : K.lookup f44 = some ⟨oc44, od44, .func (PySem.W.fnOf "call_turn" "call_turn" (defArgs (sCall 2)) (defBody (sCall 2)) (defScope (sCall 2)) .none kV44 dc44 pm44 an44 cc44 ct44), sl44⟩) (c44 : PySem.W.codeIn K cc44 "call_turn" = true) (k44 : PySem.W.keepIn K (.ref f44) = true)
    (a45 : PySem.W.nsIn K mainGlobals "call_sets" = some (some (.ref f45))) (l45 : K.lookup f45 = some ⟨oc45, od45, .func (PySem.W.fnOf "call_sets" "call_sets" (defArgs (sCall 3)) (defBody (sCall 3)) (defScope (sCall 3)) .none kV45 dc45 pm45 an45 cc45 ct45), sl45⟩) (c45 : PySem.W.codeIn K cc45 "call_sets" = true) (k45 : PySem.W.keepIn K (.ref f45) = true)
    (a46 : PySem.W.nsIn K mainGlobals "call_is" = some (some (.ref f46))) (l46 : K.lookup f46 = some ⟨oc46, od46, .func (PySem.W.fnOf "call_is" "call_is" (defArgs (sCall 4)) (defBody (sCall 4)) (defScope (sCall 4)) .none kV46 dc46 pm46 an46 cc46 ct46), sl46⟩) (c46 : PySem.W.codeIn K cc46 "call_is" = true) (k46 : PySem.W.keepIn K (.ref f46) = true)
    (a47 : PySem.W.nsIn K mainGlobals "call_ground" = some (some (.ref f47))) (l47 : K.lookup f47 = some ⟨oc47, od47, .func (PySem.W.fnOf "call_ground" "call_ground" (defArgs (sCall 5)) (defBody (sCall 5)) (defScope (sCall 5)) .none kV47 dc47 pm47 an47 cc47 ct47), sl47⟩) (c47 : PySem.W.codeIn K cc47 "call_ground" = true) (k47 : PySem.W.keepIn K (.ref f47) = true)
    (a48 : PySem.W.nsIn K mainGlobals "call_ideal" = some (some (.ref f48))) (l48 : K.lookup f48 = some ⟨oc48, od48, .func (PySem.W.fnOf "call_ideal" "call_ideal" (defArgs (sCall 6)) (defBody (sCall 6)) (defScope (sCall 6)) .none kV48 dc48 pm48 an48 cc48 ct48), sl48⟩) (c48 : PySem.W.codeIn K cc48 "call_ideal" = true) (k48 : PySem.W.keepIn K (.ref f48) = true)
    (a49 : PySem.W.nsIn K mainGlobals "call_round" = some (some (.ref f49))) (l49 : K.lookup f49 = some ⟨oc49, od49, .func (PySem.W.fnOf "call_round" "call_round" (defArgs (sCall 7)) (defBody (sCall 7)) (defScope (sCall 7)) .none kV49 dc49 pm49 an49 cc49 ct49), sl49⟩) (c49 : PySem.W.codeIn K cc49 "call_round" = true) (k49 : PySem.W.keepIn K (.ref f49) = true)
    (a50 : PySem.W.nsIn K mainGlobals "call_answer" = some (some (.ref f50))) (l50 : K.lookup f50 = some ⟨oc50, od50, .func (PySem.W.fnOf "call_answer" "call_answer" (defArgs (sCall 8)) (defBody (sCall 8)) (defScope (sCall 8)) .none kV50 dc50 pm50 an50 cc50 ct50), sl50⟩) (c50 : PySem.W.codeIn K cc50 "call_answer" = true) (k50 : PySem.W.keepIn K (.ref f50) = true)
    (a51 : PySem.W.nsIn K mainGlobals "call_status" = some (some (.ref f51))) (l51 : K.lookup f51 = some ⟨oc51, od51, .func (PySem.W.fnOf "call_status" "call_status" (defArgs (sCall 9)) (defBody (sCall 9)) (defScope (sCall 9)) .none kV51 dc51 pm51 an51 cc51 ct51), sl51⟩) (c51 : PySem.W.codeIn K cc51 "call_status" = true) (k51 : PySem.W.keepIn K (.ref f51) = true)
    (a52 : PySem.W.nsIn K mainGlobals "call_cut" = some (some (.ref f52))) (l52 : K.lookup f52 = some ⟨oc52, od52, .func (PySem.W.fnOf "call_cut" "call_cut" (defArgs (sCall 10)) (defBody (sCall 10)) (defScope (sCall 10)) .none kV52 dc52 pm52 an52 cc52 ct52), sl52⟩) (c52 : PySem.W.codeIn K cc52 "call_cut" = true) (k52 : PySem.W.keepIn K (.ref f52) = true)
    (a54 : PySem.W.nsIn K mainGlobals "answers" = some (some (.ref f54))) (l54 : K.lookup f54 = some ⟨oc54, od54, .func (PySem.W.fnOf "answers" "answers" (defArgs sAnswers) (defBody sAnswers) (defScope sAnswers) .none kV54 dc54 pm54 an54 cc54 ct54), sl54⟩) (c54 : PySem.W.codeIn K cc54 "answers" = true) (k54 : PySem.W.keepIn K (.ref f54) = true)
    (aaC : PySem.W.nsIn K mainGlobals "Arguments" = some (some (.ref C))) (aaR : PySem.W.nsIn K mainGlobals "Reader" = some (some (.ref R)))
    (aC0 : PySem.W.findIn K (.ref C) "__init__" = some (some (.ref mC0))) (iC0 : PySem.W.isFn K (.ref mC0) = true) (lC0 : K.lookup mC0 = some ⟨ocC0, odC0, .func (PySem.W.fnOf "__init__" "Arguments.__init__" (defArgs sInit) (defBody sInit) (defScope sInit) .none kVC0 dcC0 pmC0 anC0 ccC0 ctC0), slC0⟩) (cC0 : PySem.W.codeIn K ccC0 "Arguments.__init__" = true) (kC0 : PySem.W.keepIn K (.ref mC0) = true)
    (aC1 : PySem.W.findIn K (.ref C) "begin" = some (some (.ref mC1))) (iC1 : PySem.W.isFn K (.ref mC1) = true) (lC1 : K.lookup mC1 = some ⟨ocC1, odC1, .func (PySem.W.fnOf "begin" "Arguments.begin" (defArgs sBegin) (defBody sBegin) (defScope sBegin) .none kVC1 dcC1 pmC1 anC1 ccC1 ctC1), slC1⟩) (cC1 : PySem.W.codeIn K ccC1 "Arguments.begin" = true) (kC1 : PySem.W.keepIn K (.ref mC1) = true)
    (aC2 : PySem.W.findIn K (.ref C) "put" = some (some (.ref mC2))) (iC2 : PySem.W.isFn K (.ref mC2) = true) (lC2 : K.lookup mC2 = some ⟨ocC2, odC2, .func (PySem.W.fnOf "put" "Arguments.put" (defArgs sPut) (defBody sPut) (defScope sPut) .none kVC2 dcC2 pmC2 anC2 ccC2 ctC2), slC2⟩) (cC2 : PySem.W.codeIn K ccC2 "Arguments.put" = true) (kC2 : PySem.W.keepIn K (.ref mC2) = true)
    (aC3 : PySem.W.findIn K (.ref C) "turn" = some (some (.ref mC3))) (iC3 : PySem.W.isFn K (.ref mC3) = true) (lC3 : K.lookup mC3 = some ⟨ocC3, odC3, .func (PySem.W.fnOf "turn" "Arguments.turn" (defArgs sTurn) (defBody sTurn) (defScope sTurn) .none kVC3 dcC3 pmC3 anC3 ccC3 ctC3), slC3⟩) (cC3 : PySem.W.codeIn K ccC3 "Arguments.turn" = true) (kC3 : PySem.W.keepIn K (.ref mC3) = true)
    (aC4 : PySem.W.findIn K (.ref C) "sets" = some (some (.ref mC4))) (iC4 : PySem.W.isFn K (.ref mC4) = true) (lC4 : K.lookup mC4 = some ⟨ocC4, odC4, .func (PySem.W.fnOf "sets" "Arguments.sets" (defArgs sSets) (defBody sSets) (defScope sSets) .none kVC4 dcC4 pmC4 anC4 ccC4 ctC4), slC4⟩) (cC4 : PySem.W.codeIn K ccC4 "Arguments.sets" = true) (kC4 : PySem.W.keepIn K (.ref mC4) = true)
    (aC5 : PySem.W.findIn K (.ref C) "is_of_kind" = some (some (.ref mC5))) (iC5 : PySem.W.isFn K (.ref mC5) = true) (lC5 : K.lookup mC5 = some ⟨ocC5, odC5, .func (PySem.W.fnOf "is_of_kind" "Arguments.is_of_kind" (defArgs sIs) (defBody sIs) (defScope sIs) .none kVC5 dcC5 pmC5 anC5 ccC5 ctC5), slC5⟩) (cC5 : PySem.W.codeIn K ccC5 "Arguments.is_of_kind" = true) (kC5 : PySem.W.keepIn K (.ref mC5) = true)
    (aC6 : PySem.W.findIn K (.ref C) "ground" = some (some (.ref mC6))) (iC6 : PySem.W.isFn K (.ref mC6) = true) (lC6 : K.lookup mC6 = some ⟨ocC6, odC6, .func (PySem.W.fnOf "ground" "Arguments.ground" (defArgs sGround) (defBody sGround) (defScope sGround) .none kVC6 dcC6 pmC6 anC6 ccC6 ctC6), slC6⟩) (cC6 : PySem.W.codeIn K ccC6 "Arguments.ground" = true) (kC6 : PySem.W.keepIn K (.ref mC6) = true)
    (aC7 : PySem.W.findIn K (.ref C) "ideal" = some (some (.ref mC7))) (iC7 : PySem.W.isFn K (.ref mC7) = true) (lC7 : K.lookup mC7 = some ⟨ocC7, odC7, .func (PySem.W.fnOf "ideal" "Arguments.ideal" (defArgs sIdeal) (defBody sIdeal) (defScope sIdeal) .none kVC7 dcC7 pmC7 anC7 ccC7 ctC7), slC7⟩) (cC7 : PySem.W.codeIn K ccC7 "Arguments.ideal" = true) (kC7 : PySem.W.keepIn K (.ref mC7) = true)
    (aC8 : PySem.W.findIn K (.ref C) "round_of" = some (some (.ref mC8))) (iC8 : PySem.W.isFn K (.ref mC8) = true) (lC8 : K.lookup mC8 = some ⟨ocC8, odC8, .func (PySem.W.fnOf "round_of" "Arguments.round_of" (defArgs sRound) (defBody sRound) (defScope sRound) .none kVC8 dcC8 pmC8 anC8 ccC8 ctC8), slC8⟩) (cC8 : PySem.W.codeIn K ccC8 "Arguments.round_of" = true) (kC8 : PySem.W.keepIn K (.ref mC8) = true)
    (aC9 : PySem.W.findIn K (.ref C) "answer_to" = some (some (.ref mC9))) (iC9 : PySem.W.isFn K (.ref mC9) = true) (lC9 : K.lookup mC9 = some ⟨ocC9, odC9, .func (PySem.W.fnOf "answer_to" "Arguments.answer_to" (defArgs sAnswer) (defBody sAnswer) (defScope sAnswer) .none kVC9 dcC9 pmC9 anC9 ccC9 ctC9), slC9⟩) (cC9 : PySem.W.codeIn K ccC9 "Arguments.answer_to" = true) (kC9 : PySem.W.keepIn K (.ref mC9) = true)
    (aC10 : PySem.W.findIn K (.ref C) "status" = some (some (.ref mC10))) (iC10 : PySem.W.isFn K (.ref mC10) = true) (lC10 : K.lookup mC10 = some ⟨ocC10, odC10, .func (PySem.W.fnOf "status" "Arguments.status" (defArgs sStatus) (defBody sStatus) (defScope sStatus) .none kVC10 dcC10 pmC10 anC10 ccC10 ctC10), slC10⟩) (cC10 : PySem.W.codeIn K ccC10 "Arguments.status" = true) (kC10 : PySem.W.keepIn K (.ref mC10) = true)
    (aC11 : PySem.W.findIn K (.ref C) "cut" = some (some (.ref mC11))) (iC11 : PySem.W.isFn K (.ref mC11) = true) (lC11 : K.lookup mC11 = some ⟨ocC11, odC11, .func (PySem.W.fnOf "cut" "Arguments.cut" (defArgs sCut) (defBody sCut) (defScope sCut) .none kVC11 dcC11 pmC11 anC11 ccC11 ctC11), slC11⟩) (cC11 : PySem.W.codeIn K ccC11 "Arguments.cut" = true) (kC11 : PySem.W.keepIn K (.ref mC11) = true)
    (aC12 : PySem.W.findIn K (.ref C) "has" = some (some (.ref mC12))) (iC12 : PySem.W.isFn K (.ref mC12) = true) (lC12 : K.lookup mC12 = some ⟨ocC12, odC12, .func (PySem.W.fnOf "has" "Arguments.has" (defArgs sHas) (defBody sHas) (defScope sHas) .none kVC12 dcC12 pmC12 anC12 ccC12 ctC12), slC12⟩) (cC12 : PySem.W.codeIn K ccC12 "Arguments.has" = true) (kC12 : PySem.W.keepIn K (.ref mC12) = true)
    (aC13 : PySem.W.findIn K (.ref C) "has_all" = some (some (.ref mC13))) (iC13 : PySem.W.isFn K (.ref mC13) = true) (lC13 : K.lookup mC13 = some ⟨ocC13, odC13, .func (PySem.W.fnOf "has_all" "Arguments.has_all" (defArgs sHasAllM) (defBody sHasAllM) (defScope sHasAllM) .none kVC13 dcC13 pmC13 anC13 ccC13 ctC13), slC13⟩) (cC13 : PySem.W.codeIn K ccC13 "Arguments.has_all" = true) (kC13 : PySem.W.keepIn K (.ref mC13) = true)
    (aC14 : PySem.W.findIn K (.ref C) "become" = some (some (.ref mC14))) (iC14 : PySem.W.isFn K (.ref mC14) = true) (lC14 : K.lookup mC14 = some ⟨ocC14, odC14, .func (PySem.W.fnOf "become" "Arguments.become" (defArgs sBecome) (defBody sBecome) (defScope sBecome) .none kVC14 dcC14 pmC14 anC14 ccC14 ctC14), slC14⟩) (cC14 : PySem.W.codeIn K ccC14 "Arguments.become" = true) (kC14 : PySem.W.keepIn K (.ref mC14) = true)
    (aC15 : PySem.W.findIn K (.ref C) "of_kind" = some (some (.ref mC15))) (iC15 : PySem.W.isFn K (.ref mC15) = true) (lC15 : K.lookup mC15 = some ⟨ocC15, odC15, .func (PySem.W.fnOf "of_kind" "Arguments.of_kind" (defArgs sOfKind) (defBody sOfKind) (defScope sOfKind) .none kVC15 dcC15 pmC15 anC15 ccC15 ctC15), slC15⟩) (cC15 : PySem.W.codeIn K ccC15 "Arguments.of_kind" = true) (kC15 : PySem.W.keepIn K (.ref mC15) = true)
    (aR0 : PySem.W.findIn K (.ref R) "__init__" = some (some (.ref mR0))) (iR0 : PySem.W.isFn K (.ref mR0) = true) (lR0 : K.lookup mR0 = some ⟨ocR0, odR0, .func (PySem.W.fnOf "__init__" "Reader.__init__" (defArgs rInit) (defBody rInit) (defScope rInit) .none kVR0 dcR0 pmR0 anR0 ccR0 ctR0), slR0⟩) (cR0 : PySem.W.codeIn K ccR0 "Reader.__init__" = true) (kR0 : PySem.W.keepIn K (.ref mR0) = true)
    (aR1 : PySem.W.findIn K (.ref R) "has_more" = some (some (.ref mR1))) (iR1 : PySem.W.isFn K (.ref mR1) = true) (lR1 : K.lookup mR1 = some ⟨ocR1, odR1, .func (PySem.W.fnOf "has_more" "Reader.has_more" (defArgs rMore) (defBody rMore) (defScope rMore) .none kVR1 dcR1 pmR1 anR1 ccR1 ctR1), slR1⟩) (cR1 : PySem.W.codeIn K ccR1 "Reader.has_more" = true) (kR1 : PySem.W.keepIn K (.ref mR1) = true)
    (aR2 : PySem.W.findIn K (.ref R) "take" = some (some (.ref mR2))) (iR2 : PySem.W.isFn K (.ref mR2) = true) (lR2 : K.lookup mR2 = some ⟨ocR2, odR2, .func (PySem.W.fnOf "take" "Reader.take" (defArgs rTake) (defBody rTake) (defScope rTake) .none kVR2 dcR2 pmR2 anR2 ccR2 ctR2), slR2⟩) (cR2 : PySem.W.codeIn K ccR2 "Reader.take" = true) (kR2 : PySem.W.keepIn K (.ref mR2) = true)
    (aR3 : PySem.W.findIn K (.ref R) "take_row" = some (some (.ref mR3))) (iR3 : PySem.W.isFn K (.ref mR3) = true) (lR3 : K.lookup mR3 = some ⟨ocR3, odR3, .func (PySem.W.fnOf "take_row" "Reader.take_row" (defArgs rRow) (defBody rRow) (defScope rRow) .none kVR3 dcR3 pmR3 anR3 ccR3 ctR3), slR3⟩) (cR3 : PySem.W.codeIn K ccR3 "Reader.take_row" = true) (kR3 : PySem.W.keepIn K (.ref mR3) = true)
    (pgC : PySem.W.plainGet K C Str.empty = true) (hdC : PySem.W.hasDictIn K C = true) (poC : PySem.W.plainOver K C = true) (saC : PySem.W.findIn K (.ref C) "__setattr__" = some (some (.builtin "object.__setattr__"))) (mkC : PySem.W.makesIn K C = true) (kcC : PySem.W.keepIn K (.ref C) = true)
    (pgR : PySem.W.plainGet K R Str.empty = true) (hdR : PySem.W.hasDictIn K R = true) (poR : PySem.W.plainOver K R = true) (saR : PySem.W.findIn K (.ref R) "__setattr__" = some (some (.builtin "object.__setattr__"))) (mkR : PySem.W.makesIn K R = true) (kcR : PySem.W.keepIn K (.ref R) = true)
    (nCbeats : PySem.W.findIn K (.ref C) "beats" = some none) (nCfound : PySem.W.findIn K (.ref C) "found" = some none) (nRnumbers : PySem.W.findIn K (.ref R) "numbers" = some none) (nRplace : PySem.W.findIn K (.ref R) "place" = some none)
    (zsum : PySem.W.nsIn K mainGlobals "sum" = some none) (zlen : PySem.W.nsIn K mainGlobals "len" = some none) (zrange : PySem.W.nsIn K mainGlobals "range" = some none) (zany : PySem.W.nsIn K mainGlobals "any" = some none) (zlist : PySem.W.nsIn K mainGlobals "list" = some none) (zset : PySem.W.nsIn K mainGlobals "set" = some none) (zsorted : PySem.W.nsIn K mainGlobals "sorted" = some none) (zreversed : PySem.W.nsIn K mainGlobals "reversed" = some none) (zmax : PySem.W.nsIn K mainGlobals "max" = some none) (zenumerate : PySem.W.nsIn K mainGlobals "enumerate" = some none)
    (uDONE : PySem.W.nsIn K mainGlobals "DONE" = some (some (.int 0 tDONE))) (uREFUSED : PySem.W.nsIn K mainGlobals "REFUSED" = some (some (.int (-1) tREFUSED))) (uMOST_ARGUMENTS : PySem.W.nsIn K mainGlobals "MOST_ARGUMENTS" = some (some (.int 16 tMOST_ARGUMENTS))) (uMOST_SETS : PySem.W.nsIn K mainGlobals "MOST_SETS" = some (some (.int 65536 tMOST_SETS))) (uNONE_SUCH : PySem.W.nsIn K mainGlobals "NONE_SUCH" = some (some (.int (-2) tNONE_SUCH))) (uHOLDING : PySem.W.nsIn K mainGlobals "HOLDING" = some (some (.int 1 tHOLDING))) (uFULL : PySem.W.nsIn K mainGlobals "FULL" = some (some (.int 3 tFULL)))
    (aK : PySem.W.nsIn K mainGlobals "KINDS" = some (some (.ref ka))) (lK : K.lookup ka = some ⟨.type "tuple", odK, .seq #[.ref f19, .ref f20, .ref f21, .ref f22, .ref f23, .ref f24, .ref f25] nK, slK⟩)
    (aD : PySem.W.nsIn K mainGlobals "CALLS" = some (some (.ref cd))) (lD : K.lookup cd = some ⟨.type "dict", none, .dict #[⟨hh0, .int 0 tk0, .ref f42⟩, ⟨hh1, .int 1 tk1, .ref f43⟩, ⟨hh2, .int 2 tk2, .ref f44⟩, ⟨hh3, .int 3 tk3, .ref f45⟩, ⟨hh4, .int 4 tk4, .ref f46⟩, ⟨hh5, .int 5 tk5, .ref f47⟩, ⟨hh6, .int 6 tk6, .ref f48⟩, ⟨hh7, .int 7 tk7, .ref f49⟩, ⟨hh8, .int 8 tk8, .ref f50⟩, ⟨hh9, .int 9 tk9, .ref f51⟩, ⟨hh10, .int 10 tk10, .ref f52⟩] ep, #[]⟩)
    (g0 : hh0 = hashInt 0) (g1 : hh1 = hashInt 1) (g2 : hh2 = hashInt 2) (g3 : hh3 = hashInt 3) (g4 : hh4 = hashInt 4) (g5 : hh5 = hashInt 5) (g6 : hh6 = hashInt 6) (g7 : hh7 = hashInt 7) (g8 : hh8 = hashInt 8) (g9 : hh9 = hashInt 9) (g10 : hh10 = hashInt 10) :
    ∃ fd : FuncData, (∀ (s : Shared) (v : Value), BindsTo s fd ⟨[v], []⟩ [("calls", v)]) ∧ ∀ base : Heap, K.In base → base.Ns mainGlobals mg → FnOk P w K mg base CX0 11 fa fd ["calls"] (spAnswers K) := by
  have e := hfa.symm.trans (PySem.W.mg_of X G a54)
  cases e
  have F1 := fun_mk (st := sEveryone) l1 c1 k1
  have d1 : Def K mg "everyone" sEveryone f1 _ ["beats"] := ⟨F1, PySem.W.mg_of X G a1, F1.binds (ps := ["beats"]) fun _ _ _ _ _ _ us hl => match us, hl with | [_], _ => rfl⟩
  have F2 := fun_mk (st := sEach) l2 c2 k2
  have d2 : Def K mg "beaters_of_each" sEach f2 _ ["beats"] := ⟨F2, PySem.W.mg_of X G a2, F2.binds (ps := ["beats"]) fun _ _ _ _ _ _ us hl => match us, hl with | [_], _ => rfl⟩
  have F3 := fun_mk (st := sBeatersOf) l3 c3 k3
  have d3 : Def K mg "beaters_of" sBeatersOf f3 _ ["beats", "a"] := ⟨F3, PySem.W.mg_of X G a3, F3.binds (ps := ["beats", "a"]) fun _ _ _ _ _ _ us hl => match us, hl with | [_, _], _ => rfl⟩
  have F4 := fun_mk (st := sBeatenBy) l4 c4 k4
  have d4 : Def K mg "beaten_by" sBeatenBy f4 _ ["beats", "members"] := ⟨F4, PySem.W.mg_of X G a4, F4.binds (ps := ["beats", "members"]) fun _ _ _ _ _ _ us hl => match us, hl with | [_, _], _ => rfl⟩
  have F5 := fun_mk (st := sShielded) l5 c5 k5
  have d5 : Def K mg "shielded_by" sShielded f5 _ ["beats", "members"] := ⟨F5, PySem.W.mg_of X G a5, F5.binds (ps := ["beats", "members"]) fun _ _ _ _ _ _ us hl => match us, hl with | [_, _], _ => rfl⟩
  have F6 := fun_mk (st := sRounds) l6 c6 k6
  have d6 : Def K mg "rounds" sRounds f6 _ ["beats"] := ⟨F6, PySem.W.mg_of X G a6, F6.binds (ps := ["beats"]) fun _ _ _ _ _ _ us hl => match us, hl with | [_], _ => rfl⟩
  have F7 := fun_mk (st := sFirst) l7 c7 k7
  have d7 : Def K mg "first_with" sFirst f7 _ ["several", "a"] := ⟨F7, PySem.W.mg_of X G a7, F7.binds (ps := ["several", "a"]) fun _ _ _ _ _ _ us hl => match us, hl with | [_, _], _ => rfl⟩
  have F8 := fun_mk (st := sLeast) l8 c8 k8
  have d8 : Def K mg "least_of" sLeast f8 _ ["members"] := ⟨F8, PySem.W.mg_of X G a8, F8.binds (ps := ["members"]) fun _ _ _ _ _ _ us hl => match us, hl with | [_], _ => rfl⟩
  have F9 := fun_mk (st := sLeftBy) l9 c9 k9
  have d9 : Def K mg "left_by" sLeftBy f9 _ ["beats", "members"] := ⟨F9, PySem.W.mg_of X G a9, F9.binds (ps := ["beats", "members"]) fun _ _ _ _ _ _ us hl => match us, hl with | [_, _], _ => rfl⟩
  have F10 := fun_mk (st := sCutTo) l10 c10 k10
  have d10 : Def K mg "cut_to" sCutTo f10 _ ["beats", "left"] := ⟨F10, PySem.W.mg_of X G a10, F10.binds (ps := ["beats", "left"]) fun _ _ _ _ _ _ us hl => match us, hl with | [_, _], _ => rfl⟩
  have F12 := fun_mk (st := sPeaceRows) l12 c12 k12
  have d12 : Def K mg "peaceful_rows" sPeaceRows f12 _ ["beats"] := ⟨F12, PySem.W.mg_of X G a12, F12.binds (ps := ["beats"]) fun _ _ _ _ _ _ us hl => match us, hl with | [_], _ => rfl⟩
  have F13 := fun_mk (st := sHoldRows) l13 c13 k13
  have d13 : Def K mg "holding_rows" sHoldRows f13 _ ["beats"] := ⟨F13, PySem.W.mg_of X G a13, F13.binds (ps := ["beats"]) fun _ _ _ _ _ _ us hl => match us, hl with | [_], _ => rfl⟩
  have F14 := fun_mk (st := sCompleteRows) l14 c14 k14
  have d14 : Def K mg "complete_rows" sCompleteRows f14 _ ["beats"] := ⟨F14, PySem.W.mg_of X G a14, F14.binds (ps := ["beats"]) fun _ _ _ _ _ _ us hl => match us, hl with | [_], _ => rfl⟩
  have F15 := fun_mk (st := sHasAll) l15 c15 k15
  have d15 : Def K mg "has_all_it_shields" sHasAll f15 _ ["row", "beaters"] := ⟨F15, PySem.W.mg_of X G a15, F15.binds (ps := ["row", "beaters"]) fun _ _ _ _ _ _ us hl => match us, hl with | [_, _], _ => rfl⟩
  have F16 := fun_mk (st := sReach) l16 c16 k16
  have d16 : Def K mg "reach" sReach f16 _ ["row"] := ⟨F16, PySem.W.mg_of X G a16, F16.binds (ps := ["row"]) fun _ _ _ _ _ _ us hl => match us, hl with | [_], _ => rfl⟩
  have F17 := fun_mk (st := sUtmost) l17 c17 k17
  have d17 : Def K mg "utmost" sUtmost f17 _ ["rising"] := ⟨F17, PySem.W.mg_of X G a17, F17.binds (ps := ["rising"]) fun _ _ _ _ _ _ us hl => match us, hl with | [_], _ => rfl⟩
  have F18 := fun_mk (st := sWithin) l18 c18 k18
  have d18 : Def K mg "is_within_some" sWithin f18 _ ["members", "others"] := ⟨F18, PySem.W.mg_of X G a18, F18.binds (ps := ["members", "others"]) fun _ _ _ _ _ _ us hl => match us, hl with | [_, _], _ => rfl⟩
  have F19 := fun_mk (st := sPeaceful) l19 c19 k19
  have d19 : Def K mg "peaceful" sPeaceful f19 _ ["beats"] := ⟨F19, PySem.W.mg_of X G a19, F19.binds (ps := ["beats"]) fun _ _ _ _ _ _ us hl => match us, hl with | [_], _ => rfl⟩
  have F20 := fun_mk (st := sHolding) l20 c20 k20
  have d20 : Def K mg "holding" sHolding f20 _ ["beats"] := ⟨F20, PySem.W.mg_of X G a20, F20.binds (ps := ["beats"]) fun _ _ _ _ _ _ us hl => match us, hl with | [_], _ => rfl⟩
  have F21 := fun_mk (st := sComplete) l21 c21 k21
  have d21 : Def K mg "complete" sComplete f21 _ ["beats"] := ⟨F21, PySem.W.mg_of X G a21, F21.binds (ps := ["beats"]) fun _ _ _ _ _ _ us hl => match us, hl with | [_], _ => rfl⟩
  have F22 := fun_mk (st := sFull) l22 c22 k22
  have d22 : Def K mg "full" sFull f22 _ ["beats"] := ⟨F22, PySem.W.mg_of X G a22, F22.binds (ps := ["beats"]) fun _ _ _ _ _ _ us hl => match us, hl with | [_], _ => rfl⟩
  have F23 := fun_mk (st := sStable) l23 c23 k23
  have d23 : Def K mg "stable" sStable f23 _ ["beats"] := ⟨F23, PySem.W.mg_of X G a23, F23.binds (ps := ["beats"]) fun _ _ _ _ _ _ us hl => match us, hl with | [_], _ => rfl⟩
  have F24 := fun_mk (st := sFar) l24 c24 k24
  have d24 : Def K mg "far" sFar f24 _ ["beats"] := ⟨F24, PySem.W.mg_of X G a24, F24.binds (ps := ["beats"]) fun _ _ _ _ _ _ us hl => match us, hl with | [_], _ => rfl⟩
  have F25 := fun_mk (st := sGreat) l25 c25 k25
  have d25 : Def K mg "great" sGreat f25 _ ["beats"] := ⟨F25, PySem.W.mg_of X G a25, F25.binds (ps := ["beats"]) fun _ _ _ _ _ _ us hl => match us, hl with | [_], _ => rfl⟩
  have F29 := fun_mk (st := sIsKind) l29 c29 k29
  have d29 : Def K mg "is_kind" sIsKind f29 _ ["kind"] := ⟨F29, PySem.W.mg_of X G a29, F29.binds (ps := ["kind"]) fun _ _ _ _ _ _ us hl => match us, hl with | [_], _ => rfl⟩
  have F30 := fun_mk (st := sSetsOf) l30 c30 k30
  have d30 : Def K mg "sets_of_kind" sSetsOf f30 _ ["beats", "kind"] := ⟨F30, PySem.W.mg_of X G a30, F30.binds (ps := ["beats", "kind"]) fun _ _ _ _ _ _ us hl => match us, hl with | [_, _], _ => rfl⟩
  have F31 := fun_mk (st := sGreatest) l31 c31 k31
  have d31 : Def K mg "greatest_within" sGreatest f31 _ ["holding_sets", "full_sets"] := ⟨F31, PySem.W.mg_of X G a31, F31.binds (ps := ["holding_sets", "full_sets"]) fun _ _ _ _ _ _ us hl => match us, hl with | [_, _], _ => rfl⟩
  have F32 := fun_mk (st := sHadAll) l32 c32 k32
  have d32 : Def K mg "had_by_all" sHadAll f32 _ ["several"] := ⟨F32, PySem.W.mg_of X G a32, F32.binds (ps := ["several"]) fun _ _ _ _ _ _ us hl => match us, hl with | [_], _ => rfl⟩
  have F42 := fun_mk (st := (sCall 0)) l42 c42 k42
  have d42 : Def K mg "call_begin" (sCall 0) f42 _ ["arguments", "reader"] := ⟨F42, PySem.W.mg_of X G a42, F42.binds (ps := ["arguments", "reader"]) fun _ _ _ _ _ _ us hl => match us, hl with | [_, _], _ => rfl⟩
  have F43 := fun_mk (st := (sCall 1)) l43 c43 k43
  have d43 : Def K mg "call_set" (sCall 1) f43 _ ["arguments", "reader"] := ⟨F43, PySem.W.mg_of X G a43, F43.binds (ps := ["arguments", "reader"]) fun _ _ _ _ _ _ us hl => match us, hl with | [_, _], _ => rfl⟩
  have F44 := fun_mk (st := (sCall 2)) l44 c44 k44
  have d44 : Def K mg "call_turn" (sCall 2) f44 _ ["arguments", "reader"] := ⟨F44, PySem.W.mg_of X G a44, F44.binds (ps := ["arguments", "reader"]) fun _ _ _ _ _ _ us hl => match us, hl with | [_, _], _ => rfl⟩
  have F45 := fun_mk (st := (sCall 3)) l45 c45 k45
  have d45 : Def K mg "call_sets" (sCall 3) f45 _ ["arguments", "reader"] := ⟨F45, PySem.W.mg_of X G a45, F45.binds (ps := ["arguments", "reader"]) fun _ _ _ _ _ _ us hl => match us, hl with | [_, _], _ => rfl⟩
  have F46 := fun_mk (st := (sCall 4)) l46 c46 k46
  have d46 : Def K mg "call_is" (sCall 4) f46 _ ["arguments", "reader"] := ⟨F46, PySem.W.mg_of X G a46, F46.binds (ps := ["arguments", "reader"]) fun _ _ _ _ _ _ us hl => match us, hl with | [_, _], _ => rfl⟩
  have F47 := fun_mk (st := (sCall 5)) l47 c47 k47
  have d47 : Def K mg "call_ground" (sCall 5) f47 _ ["arguments", "reader"] := ⟨F47, PySem.W.mg_of X G a47, F47.binds (ps := ["arguments", "reader"]) fun _ _ _ _ _ _ us hl => match us, hl with | [_, _], _ => rfl⟩
  have F48 := fun_mk (st := (sCall 6)) l48 c48 k48
  have d48 : Def K mg "call_ideal" (sCall 6) f48 _ ["arguments", "reader"] := ⟨F48, PySem.W.mg_of X G a48, F48.binds (ps := ["arguments", "reader"]) fun _ _ _ _ _ _ us hl => match us, hl with | [_, _], _ => rfl⟩
  have F49 := fun_mk (st := (sCall 7)) l49 c49 k49
  have d49 : Def K mg "call_round" (sCall 7) f49 _ ["arguments", "reader"] := ⟨F49, PySem.W.mg_of X G a49, F49.binds (ps := ["arguments", "reader"]) fun _ _ _ _ _ _ us hl => match us, hl with | [_, _], _ => rfl⟩
  have F50 := fun_mk (st := (sCall 8)) l50 c50 k50
  have d50 : Def K mg "call_answer" (sCall 8) f50 _ ["arguments", "reader"] := ⟨F50, PySem.W.mg_of X G a50, F50.binds (ps := ["arguments", "reader"]) fun _ _ _ _ _ _ us hl => match us, hl with | [_, _], _ => rfl⟩
  have F51 := fun_mk (st := (sCall 9)) l51 c51 k51
  have d51 : Def K mg "call_status" (sCall 9) f51 _ ["arguments", "reader"] := ⟨F51, PySem.W.mg_of X G a51, F51.binds (ps := ["arguments", "reader"]) fun _ _ _ _ _ _ us hl => match us, hl with | [_, _], _ => rfl⟩
  have F52 := fun_mk (st := (sCall 10)) l52 c52 k52
  have d52 : Def K mg "call_cut" (sCall 10) f52 _ ["arguments", "reader"] := ⟨F52, PySem.W.mg_of X G a52, F52.binds (ps := ["arguments", "reader"]) fun _ _ _ _ _ _ us hl => match us, hl with | [_, _], _ => rfl⟩
  have FC0 := fun_mk (st := sInit) lC0 cC0 kC0
  have bC0 := FC0.binds (ps := ["self"]) fun _ _ _ _ _ _ us hl => match us, hl with | [_], _ => rfl
  have FC1 := fun_mk (st := sBegin) lC1 cC1 kC1
  have bC1 := FC1.binds (ps := ["self"]) fun _ _ _ _ _ _ us hl => match us, hl with | [_], _ => rfl
  have dC1 : MDef K C "begin" "Arguments.begin" sBegin mC1 _ ["self"] := ⟨FC1, ⟨aC1, iC1, kC1⟩, bC1⟩
  have FC2 := fun_mk (st := sPut) lC2 cC2 kC2
  have bC2 := FC2.binds (ps := ["self", "beats"]) fun _ _ _ _ _ _ us hl => match us, hl with | [_, _], _ => rfl
  have dC2 : MDef K C "put" "Arguments.put" sPut mC2 _ ["self", "beats"] := ⟨FC2, ⟨aC2, iC2, kC2⟩, bC2⟩
  have FC3 := fun_mk (st := sTurn) lC3 cC3 kC3
  have bC3 := FC3.binds (ps := ["self", "a", "b", "on"]) fun _ _ _ _ _ _ us hl => match us, hl with | [_, _, _, _], _ => rfl
  have dC3 : MDef K C "turn" "Arguments.turn" sTurn mC3 _ ["self", "a", "b", "on"] := ⟨FC3, ⟨aC3, iC3, kC3⟩, bC3⟩
  have FC4 := fun_mk (st := sSets) lC4 cC4 kC4
  have bC4 := FC4.binds (ps := ["self", "kind", "most"]) fun _ _ _ _ _ _ us hl => match us, hl with | [_, _, _], _ => rfl
  have dC4 : MDef K C "sets" "Arguments.sets" sSets mC4 _ ["self", "kind", "most"] := ⟨FC4, ⟨aC4, iC4, kC4⟩, bC4⟩
  have FC5 := fun_mk (st := sIs) lC5 cC5 kC5
  have bC5 := FC5.binds (ps := ["self", "kind", "members"]) fun _ _ _ _ _ _ us hl => match us, hl with | [_, _, _], _ => rfl
  have dC5 : MDef K C "is_of_kind" "Arguments.is_of_kind" sIs mC5 _ ["self", "kind", "members"] := ⟨FC5, ⟨aC5, iC5, kC5⟩, bC5⟩
  have FC6 := fun_mk (st := sGround) lC6 cC6 kC6
  have bC6 := FC6.binds (ps := ["self"]) fun _ _ _ _ _ _ us hl => match us, hl with | [_], _ => rfl
  have dC6 : MDef K C "ground" "Arguments.ground" sGround mC6 _ ["self"] := ⟨FC6, ⟨aC6, iC6, kC6⟩, bC6⟩
  have FC7 := fun_mk (st := sIdeal) lC7 cC7 kC7
  have bC7 := FC7.binds (ps := ["self"]) fun _ _ _ _ _ _ us hl => match us, hl with | [_], _ => rfl
  have dC7 : MDef K C "ideal" "Arguments.ideal" sIdeal mC7 _ ["self"] := ⟨FC7, ⟨aC7, iC7, kC7⟩, bC7⟩
  have FC8 := fun_mk (st := sRound) lC8 cC8 kC8
  have bC8 := FC8.binds (ps := ["self", "a"]) fun _ _ _ _ _ _ us hl => match us, hl with | [_, _], _ => rfl
  have dC8 : MDef K C "round_of" "Arguments.round_of" sRound mC8 _ ["self", "a"] := ⟨FC8, ⟨aC8, iC8, kC8⟩, bC8⟩
  have FC9 := fun_mk (st := sAnswer) lC9 cC9 kC9
  have bC9 := FC9.binds (ps := ["self", "b"]) fun _ _ _ _ _ _ us hl => match us, hl with | [_, _], _ => rfl
  have dC9 : MDef K C "answer_to" "Arguments.answer_to" sAnswer mC9 _ ["self", "b"] := ⟨FC9, ⟨aC9, iC9, kC9⟩, bC9⟩
  have FC10 := fun_mk (st := sStatus) lC10 cC10 kC10
  have bC10 := FC10.binds (ps := ["self", "kind", "a"]) fun _ _ _ _ _ _ us hl => match us, hl with | [_, _, _], _ => rfl
  have dC10 : MDef K C "status" "Arguments.status" sStatus mC10 _ ["self", "kind", "a"] := ⟨FC10, ⟨aC10, iC10, kC10⟩, bC10⟩
  have FC11 := fun_mk (st := sCut) lC11 cC11 kC11
  have bC11 := FC11.binds (ps := ["self", "members"]) fun _ _ _ _ _ _ us hl => match us, hl with | [_, _], _ => rfl
  have dC11 : MDef K C "cut" "Arguments.cut" sCut mC11 _ ["self", "members"] := ⟨FC11, ⟨aC11, iC11, kC11⟩, bC11⟩
  have FC12 := fun_mk (st := sHas) lC12 cC12 kC12
  have bC12 := FC12.binds (ps := ["self", "a"]) fun _ _ _ _ _ _ us hl => match us, hl with | [_, _], _ => rfl
  have dC12 : MDef K C "has" "Arguments.has" sHas mC12 _ ["self", "a"] := ⟨FC12, ⟨aC12, iC12, kC12⟩, bC12⟩
  have FC13 := fun_mk (st := sHasAllM) lC13 cC13 kC13
  have bC13 := FC13.binds (ps := ["self", "members"]) fun _ _ _ _ _ _ us hl => match us, hl with | [_, _], _ => rfl
  have dC13 : MDef K C "has_all" "Arguments.has_all" sHasAllM mC13 _ ["self", "members"] := ⟨FC13, ⟨aC13, iC13, kC13⟩, bC13⟩
  have FC14 := fun_mk (st := sBecome) lC14 cC14 kC14
  have bC14 := FC14.binds (ps := ["self", "beats"]) fun _ _ _ _ _ _ us hl => match us, hl with | [_, _], _ => rfl
  have dC14 : MDef K C "become" "Arguments.become" sBecome mC14 _ ["self", "beats"] := ⟨FC14, ⟨aC14, iC14, kC14⟩, bC14⟩
  have FC15 := fun_mk (st := sOfKind) lC15 cC15 kC15
  have bC15 := FC15.binds (ps := ["self", "kind"]) fun _ _ _ _ _ _ us hl => match us, hl with | [_, _], _ => rfl
  have dC15 : MDef K C "of_kind" "Arguments.of_kind" sOfKind mC15 _ ["self", "kind"] := ⟨FC15, ⟨aC15, iC15, kC15⟩, bC15⟩
  have FR0 := fun_mk (st := rInit) lR0 cR0 kR0
  have bR0 := FR0.binds (ps := ["self", "numbers"]) fun _ _ _ _ _ _ us hl => match us, hl with | [_, _], _ => rfl
  have FR1 := fun_mk (st := rMore) lR1 cR1 kR1
  have bR1 := FR1.binds (ps := ["self"]) fun _ _ _ _ _ _ us hl => match us, hl with | [_], _ => rfl
  have dR1 : MDef K R "has_more" "Reader.has_more" rMore mR1 _ ["self"] := ⟨FR1, ⟨aR1, iR1, kR1⟩, bR1⟩
  have FR2 := fun_mk (st := rTake) lR2 cR2 kR2
  have bR2 := FR2.binds (ps := ["self"]) fun _ _ _ _ _ _ us hl => match us, hl with | [_], _ => rfl
  have dR2 : MDef K R "take" "Reader.take" rTake mR2 _ ["self"] := ⟨FR2, ⟨aR2, iR2, kR2⟩, bR2⟩
  have FR3 := fun_mk (st := rRow) lR3 cR3 kR3
  have bR3 := FR3.binds (ps := ["self"]) fun _ _ _ _ _ _ us hl => match us, hl with | [_], _ => rfl
  have dR3 : MDef K R "take_row" "Reader.take_row" rRow mR3 _ ["self"] := ⟨FR3, ⟨aR3, iR3, kR3⟩, bR3⟩
  have F54 := fun_mk (st := sAnswers) l54 c54 k54
  have B : Bl mg := ⟨PySem.W.mg_none_of X G zsum, PySem.W.mg_none_of X G zlen, PySem.W.mg_none_of X G zrange, PySem.W.mg_none_of X G zany, PySem.W.mg_none_of X G zlist, PySem.W.mg_none_of X G zset, PySem.W.mg_none_of X G zsorted, PySem.W.mg_none_of X G zreversed, PySem.W.mg_none_of X G zmax, PySem.W.mg_none_of X G zenumerate⟩
  have N : Nums mg := ⟨⟨_, PySem.W.mg_of X G uDONE⟩, ⟨_, PySem.W.mg_of X G uREFUSED⟩, ⟨_, PySem.W.mg_of X G uMOST_ARGUMENTS⟩, ⟨_, PySem.W.mg_of X G uMOST_SETS⟩, ⟨_, PySem.W.mg_of X G uNONE_SUCH⟩, ⟨_, PySem.W.mg_of X G uHOLDING⟩, ⟨_, PySem.W.mg_of X G uFULL⟩⟩
  have T : Cl K mg C := ⟨⟨pgC, hdC, poC, saC⟩, nCbeats, nCfound⟩
  have L : Rl K R := ⟨⟨pgR, hdR, poR, saR⟩, nRnumbers, nRplace⟩
  have KA : KindsAt K mg [f19, f20, f21, f22, f23, f24, f25] := ⟨ka, PySem.W.mg_of X G aK, fun H => .inr ⟨_, _, _, lK, rfl, rfl, (by show 7 ≤ sizeLine; decide), .cons rfl (.cons rfl (.cons rfl (.cons rfl (.cons rfl (.cons rfl (.cons rfl .nil))))))⟩, rfl⟩
  have km : KMap K cd (fun k => findBy Value.isInt #[⟨hh0, .int 0 tk0, .ref f42⟩, ⟨hh1, .int 1 tk1, .ref f43⟩, ⟨hh2, .int 2 tk2, .ref f44⟩, ⟨hh3, .int 3 tk3, .ref f45⟩, ⟨hh4, .int 4 tk4, .ref f46⟩, ⟨hh5, .int 5 tk5, .ref f47⟩, ⟨hh6, .int 6 tk6, .ref f48⟩, ⟨hh7, .int 7 tk7, .ref f49⟩, ⟨hh8, .int 8 tk8, .ref f50⟩, ⟨hh9, .int 9 tk9, .ref f51⟩, ⟨hh10, .int 10 tk10, .ref f52⟩] k) := by
    refine ⟨_, _, _, lD, ⟨rfl, rfl, rfl⟩, rfl, fun e he => ?_, fun k => rfl⟩
    have he' : e ∈ [(⟨hh0, .int 0 tk0, .ref f42⟩ : DictEntry), ⟨hh1, .int 1 tk1, .ref f43⟩, ⟨hh2, .int 2 tk2, .ref f44⟩, ⟨hh3, .int 3 tk3, .ref f45⟩, ⟨hh4, .int 4 tk4, .ref f46⟩, ⟨hh5, .int 5 tk5, .ref f47⟩, ⟨hh6, .int 6 tk6, .ref f48⟩, ⟨hh7, .int 7 tk7, .ref f49⟩, ⟨hh8, .int 8 tk8, .ref f50⟩, ⟨hh9, .int 9 tk9, .ref f51⟩, ⟨hh10, .int 10 tk10, .ref f52⟩] := by simpa using he
    rcases List.mem_cons.mp he' with z | he1
    · subst z; exact ⟨0, tk0, rfl, g0⟩
    rcases List.mem_cons.mp he1 with z | he2
    · subst z; exact ⟨1, tk1, rfl, g1⟩
    rcases List.mem_cons.mp he2 with z | he3
    · subst z; exact ⟨2, tk2, rfl, g2⟩
    rcases List.mem_cons.mp he3 with z | he4
    · subst z; exact ⟨3, tk3, rfl, g3⟩
    rcases List.mem_cons.mp he4 with z | he5
    · subst z; exact ⟨4, tk4, rfl, g4⟩
    rcases List.mem_cons.mp he5 with z | he6
    · subst z; exact ⟨5, tk5, rfl, g5⟩
    rcases List.mem_cons.mp he6 with z | he7
    · subst z; exact ⟨6, tk6, rfl, g6⟩
    rcases List.mem_cons.mp he7 with z | he8
    · subst z; exact ⟨7, tk7, rfl, g7⟩
    rcases List.mem_cons.mp he8 with z | he9
    · subst z; exact ⟨8, tk8, rfl, g8⟩
    rcases List.mem_cons.mp he9 with z | he10
    · subst z; exact ⟨9, tk9, rfl, g9⟩
    rcases List.mem_cons.mp he10 with z | he11
    · subst z; exact ⟨10, tk10, rfl, g10⟩
    cases he11
  refine ⟨_, fun s v => .of_eq rfl, fun base _ _ => ok_all (fm := fun k => findBy Value.isInt #[⟨hh0, .int 0 tk0, .ref f42⟩, ⟨hh1, .int 1 tk1, .ref f43⟩, ⟨hh2, .int 2 tk2, .ref f44⟩, ⟨hh3, .int 3 tk3, .ref f45⟩, ⟨hh4, .int 4 tk4, .ref f46⟩, ⟨hh5, .int 5 tk5, .ref f47⟩, ⟨hh6, .int 6 tk6, .ref f48⟩, ⟨hh7, .int 7 tk7, .ref f49⟩, ⟨hh8, .int 8 tk8, .ref f50⟩, ⟨hh9, .int 9 tk9, .ref f51⟩, ⟨hh10, .int 10 tk10, .ref f52⟩] k) F54 B N T L (PySem.W.mg_of X G aaC) (PySem.W.mg_of X G aaR) ⟨mkC, aC0, iC0, kcC⟩ ⟨mkR, aR0, iR0, kcR⟩ KA (PySem.W.mg_of X G aD) km
    ((findBy_list _ 0).trans rfl) ((findBy_list _ 1).trans rfl) ((findBy_list _ 2).trans rfl) ((findBy_list _ 3).trans rfl) ((findBy_list _ 4).trans rfl) ((findBy_list _ 5).trans rfl) ((findBy_list _ 6).trans rfl) ((findBy_list _ 7).trans rfl) ((findBy_list _ 8).trans rfl) ((findBy_list _ 9).trans rfl) ((findBy_list _ 10).trans rfl)
    d1 d2 d3 d4 d5 d6 d7 d8 d9 d10 d12 d13 d14 d15 d16 d17 d18 d19 d20 d21 d22 d23 d24 d25 d29 d30 d31 d32 d42 d43 d44 d45 d46 d47 d48 d49 d50 d51 d52 FC0 bC0 dC1 dC2 dC3 dC4 dC5 dC6 dC7 dC8 dC9 dC10 dC11 dC12 dC13 dC14 dC15 FR0 bR0 dR1 dR2 dR3⟩
end Bt

open PySem PySem.W PyProof.Rows
namespace Bt
open PySem L2 Rc77 Ar
def Gd (ns : List Int) : Prop := PyRc77.answers_asked ns = true
theorem req : ∀ args, PySem.Challenge.rw_beatsround_s01_answers.pre args = true → ∃ ns : List Int, args = [PySem.W.WData.list (ns.map PySem.W.WData.int)] ∧ ns.length ≤ sizeLine ∧ Gd ns ∧ PySem.Challenge.rw_beatsround_s01_answers.post args (.list ((PyRc77.answers ns).map PySem.W.WData.int)) = true := by
  intro args h
  unfold PySem.W.OpenSpec.pre at h
  cases e : PySem.W.Codec.decAll PySem.Challenge.rw_beatsround_s01_answers.args args with
  | none => rw [e] at h; cases h
  | some a =>
    rw [e] at h
    obtain ⟨ea, hw⟩ := PySem.W.Codec.encAll_of_decAll _ _ _ e
    refine ⟨a.1, ea, ?_, h, ?_⟩
    · have h1 : PySem.W.Codec.inLen 0 30000 a.1 = true := (PySem.W.Codec.and_of (PySem.W.Codec.and_of hw).1).1
      have h2 := (PySem.W.Codec.inNat_iff.mp h1).2
      rw [sizeLine_eq]
      omega
    · unfold PySem.W.OpenSpec.post
      rw [e]
      exact PySem.W.same_self _
end Bt
set_option Elab.async true
-- TWINS: names taken so that the head lays no twin of its largest states (their equations alone would be 25 MB of the compiled file)
theorem PySem.Challenge.cw_beatsround_s01_answers_holds.tw15083768176067779039 : True := trivial
theorem PySem.Challenge.cw_beatsround_s01_answers_holds.tw2071326165449504644 : True := trivial
theorem PySem.Challenge.cw_beatsround_s01_answers_holds.tw4168437143382065106 : True := trivial
theorem PySem.Challenge.cw_beatsround_s01_answers_holds.tw13403599731526769335 : True := trivial
theorem PySem.Challenge.cw_beatsround_s01_answers_holds.tw16843283043084165316 : True := trivial
set_option maxRecDepth 100000 in
set_option maxHeartbeats 0 in
theorem PySem.Challenge.cw_beatsround_s01_answers_holds : PySem.Challenge.rw_beatsround_s01_answers.Holds := by
  w_on; k_headS; (case hw => exact ⟨[.list []], by decide +kernel, by decide +kernel⟩)
  k_fillS
  refine L2.walk_spec (r := PySem.Challenge.rw_beatsround_s01_answers) (k := 11) (x := "calls") (CX := L2.CX0) (G := Bt.Gd) (f := PyRc77.answers) (sp := Bt.spAnswers) rfl ⟨rfl, by decide, by decide⟩ Bt.req (fun w h Y => PySem.W.kIn_of Y) ?F ?S (fun _ _ _ _ z => z)
  case S => exact fun K H a ns hG hO hS => ⟨a, ns, rfl, hS, hG, fun b H' hb => ⟨b, rfl, hb⟩⟩
  case F =>
    intro w mg fa h KX G hmg
    refine' Bt.all_mk KX G hmg ?a1 ?l1 ?c1 ?k1 ?a2 ?l2 ?c2 ?k2 ?a3 ?l3 ?c3 ?k3 ?a4 ?l4 ?c4 ?k4 ?a5 ?l5 ?c5 ?k5 ?a6 ?l6 ?c6 ?k6 ?a7 ?l7 ?c7 ?k7 ?a8 ?l8 ?c8 ?k8 ?a9 ?l9 ?c9 ?k9 ?a10 ?l10 ?c10 ?k10 ?a12 ?l12 ?c12 ?k12 ?a13 ?l13 ?c13 ?k13 ?a14 ?l14 ?c14 ?k14 ?a15 ?l15 ?c15 ?k15 ?a16 ?l16 ?c16 ?k16 ?a17 ?l17 ?c17 ?k17 ?a18 ?l18 ?c18 ?k18 ?a19 ?l19 ?c19 ?k19 ?a20 ?l20 ?c20 ?k20 ?a21 ?l21 ?c21 ?k21 ?a22 ?l22 ?c22 ?k22 ?a23 ?l23 ?c23 ?k23 ?a24 ?l24 ?c24 ?k24 ?a25 ?l25 ?c25 ?k25 ?a29 ?l29 ?c29 ?k29 ?a30 ?l30 ?c30 ?k30 ?a31 ?l31 ?c31 ?k31 ?a32 ?l32 ?c32 ?k32 ?a42 ?l42 ?c42 ?k42 ?a43 ?l43 ?c43 ?k43 ?a44 ?l44 ?c44 ?k44 ?a45 ?l45 ?c45 ?k45 ?a46 ?l46 ?c46 ?k46 ?a47 ?l47 ?c47 ?k47 ?a48 ?l48 ?c48 ?k48 ?a49 ?l49 ?c49 ?k49 ?a50 ?l50 ?c50 ?k50 ?a51 ?l51 ?c51 ?k51 ?a52 ?l52 ?c52 ?k52 ?a54 ?l54 ?c54 ?k54 ?aaC ?aaR ?aC0 ?iC0 ?lC0 ?cC0 ?kC0 ?aC1 ?iC1 ?lC1 ?cC1 ?kC1 ?aC2 ?iC2 ?lC2 ?cC2 ?kC2 ?aC3 ?iC3 ?lC3 ?cC3 ?kC3 ?aC4 ?iC4 ?lC4 ?cC4 ?kC4 ?aC5 ?iC5 ?lC5 ?cC5 ?kC5 ?aC6 ?iC6 ?lC6 ?cC6 ?kC6 ?aC7 ?iC7 ?lC7 ?cC7 ?kC7 ?aC8 ?iC8 ?lC8 ?cC8 ?kC8 ?aC9 ?iC9 ?lC9 ?cC9 ?kC9 ?aC10 ?iC10 ?lC10 ?cC10 ?kC10 ?aC11 ?iC11 ?lC11 ?cC11 ?kC11 ?aC12 ?iC12 ?lC12 ?cC12 ?kC12 ?aC13 ?iC13 ?lC13 ?cC13 ?kC13 ?aC14 ?iC14 ?lC14 ?cC14 ?kC14 ?aC15 ?iC15 ?lC15 ?cC15 ?kC15 ?aR0 ?iR0 ?lR0 ?cR0 ?kR0 ?aR1 ?iR1 ?lR1 ?cR1 ?kR1 ?aR2 ?iR2 ?lR2 ?cR2 ?kR2 ?aR3 ?iR3 ?lR3 ?cR3 ?kR3 ?pgC ?hdC ?poC ?saC ?mkC ?kcC ?pgR ?hdR ?poR ?saR ?mkR ?kcR ?nCbeats ?nCfound ?nRnumbers ?nRplace ?zsum ?zlen ?zrange ?zany ?zlist ?zset ?zsorted ?zreversed ?zmax ?zenumerate ?uDONE ?uREFUSED ?uMOST_ARGUMENTS ?uMOST_SETS ?uNONE_SUCH ?uHOLDING ?uFULL ?aK ?lK ?aD ?lD ?hsh0 ?hsh1 ?hsh2 ?hsh3 ?hsh4 ?hsh5 ?hsh6 ?hsh7 ?hsh8 ?hsh9 ?hsh10
    (case a1 => k_is)
    (case l1 => k_is)
    (case c1 => k_is)
    (case k1 => k_is)
    (case a2 => k_is)
    (case l2 => k_is)
    (case c2 => k_is)
    (case k2 => k_is)
    (case a3 => k_is)
    (case l3 => k_is)
    (case c3 => k_is)
    (case k3 => k_is)
    (case a4 => k_is)
    (case l4 => k_is)
    (case c4 => k_is)
    (case k4 => k_is)
    (case a5 => k_is)
    (case l5 => k_is)
    (case c5 => k_is)
    (case k5 => k_is)
    (case a6 => k_is)
    (case l6 => k_is)
    (case c6 => k_is)
    (case k6 => k_is)
    (case a7 => k_is)
    (case l7 => k_is)
    (case c7 => k_is)
    (case k7 => k_is)
    (case a8 => k_is)
    (case l8 => k_is)
    (case c8 => k_is)
    (case k8 => k_is)
    (case a9 => k_is)
    (case l9 => k_is)
    (case c9 => k_is)
    (case k9 => k_is)
    (case a10 => k_is)
    (case l10 => k_is)
    (case c10 => k_is)
    (case k10 => k_is)
    (case a12 => k_is)
    (case l12 => k_is)
    (case c12 => k_is)
    (case k12 => k_is)
    (case a13 => k_is)
    (case l13 => k_is)
    (case c13 => k_is)
    (case k13 => k_is)
    (case a14 => k_is)
    (case l14 => k_is)
    (case c14 => k_is)
    (case k14 => k_is)
    (case a15 => k_is)
    (case l15 => k_is)
    (case c15 => k_is)
    (case k15 => k_is)
    (case a16 => k_is)
    (case l16 => k_is)
    (case c16 => k_is)
    (case k16 => k_is)
    (case a17 => k_is)
    (case l17 => k_is)
    (case c17 => k_is)
    (case k17 => k_is)
    (case a18 => k_is)
    (case l18 => k_is)
    (case c18 => k_is)
    (case k18 => k_is)
    (case a19 => k_is)
    (case l19 => k_is)
    (case c19 => k_is)
    (case k19 => k_is)
    (case a20 => k_is)
    (case l20 => k_is)
    (case c20 => k_is)
    (case k20 => k_is)
    (case a21 => k_is)
    (case l21 => k_is)
    (case c21 => k_is)
    (case k21 => k_is)
    (case a22 => k_is)
    (case l22 => k_is)
    (case c22 => k_is)
    (case k22 => k_is)
    (case a23 => k_is)
    (case l23 => k_is)
    (case c23 => k_is)
    (case k23 => k_is)
    (case a24 => k_is)
    (case l24 => k_is)
    (case c24 => k_is)
    (case k24 => k_is)
    (case a25 => k_is)
    (case l25 => k_is)
    (case c25 => k_is)
    (case k25 => k_is)
    (case a29 => k_is)
    (case l29 => k_is)
    (case c29 => k_is)
    (case k29 => k_is)
    (case a30 => k_is)
    (case l30 => k_is)
    (case c30 => k_is)
    (case k30 => k_is)
    (case a31 => k_is)
    (case l31 => k_is)
    (case c31 => k_is)
    (case k31 => k_is)
    (case a32 => k_is)
    (case l32 => k_is)
    (case c32 => k_is)
    (case k32 => k_is)
    (case a42 => k_is)
    (case l42 => k_is)
    (case c42 => k_is)
    (case k42 => k_is)
    (case a43 => k_is)
    (case l43 => k_is)
    (case c43 => k_is)
    (case k43 => k_is)
    (case a44 => k_is)
    (case l44 => k_is)
    (case c44 => k_is)
    (case k44 => k_is)
    (case a45 => k_is)
    (case l45 => k_is)
    (case c45 => k_is)
    (case k45 => k_is)
    (case a46 => k_is)
    (case l46 => k_is)
    (case c46 => k_is)
    (case k46 => k_is)
    (case a47 => k_is)
    (case l47 => k_is)
    (case c47 => k_is)
    (case k47 => k_is)
    (case a48 => k_is)
    (case l48 => k_is)
    (case c48 => k_is)
    (case k48 => k_is)
    (case a49 => k_is)
    (case l49 => k_is)
    (case c49 => k_is)
    (case k49 => k_is)
    (case a50 => k_is)
    (case l50 => k_is)
    (case c50 => k_is)
    (case k50 => k_is)
    (case a51 => k_is)
    (case l51 => k_is)
    (case c51 => k_is)
    (case k51 => k_is)
    (case a52 => k_is)
    (case l52 => k_is)
    (case c52 => k_is)
    (case k52 => k_is)
    (case a54 => k_is)
    (case l54 => k_is)
    (case c54 => k_is)
    (case k54 => k_is)
    (case aaC => k_is)
    (case aaR => k_is)
    (case aC0 => k_is)
    (case iC0 => k_is)
    (case lC0 => k_is)
    (case cC0 => k_is)
    (case kC0 => k_is)
    (case aC1 => k_is)
    (case iC1 => k_is)
    (case lC1 => k_is)
    (case cC1 => k_is)
    (case kC1 => k_is)
    (case aC2 => k_is)
    (case iC2 => k_is)
    (case lC2 => k_is)
    (case cC2 => k_is)
    (case kC2 => k_is)
    (case aC3 => k_is)
    (case iC3 => k_is)
    (case lC3 => k_is)
    (case cC3 => k_is)
    (case kC3 => k_is)
    (case aC4 => k_is)
    (case iC4 => k_is)
    (case lC4 => k_is)
    (case cC4 => k_is)
    (case kC4 => k_is)
    (case aC5 => k_is)
    (case iC5 => k_is)
    (case lC5 => k_is)
    (case cC5 => k_is)
    (case kC5 => k_is)
    (case aC6 => k_is)
    (case iC6 => k_is)
    (case lC6 => k_is)
    (case cC6 => k_is)
    (case kC6 => k_is)
    (case aC7 => k_is)
    (case iC7 => k_is)
    (case lC7 => k_is)
    (case cC7 => k_is)
    (case kC7 => k_is)
    (case aC8 => k_is)
    (case iC8 => k_is)
    (case lC8 => k_is)
    (case cC8 => k_is)
    (case kC8 => k_is)
    (case aC9 => k_is)
    (case iC9 => k_is)
    (case lC9 => k_is)
    (case cC9 => k_is)
    (case kC9 => k_is)
    (case aC10 => k_is)
    (case iC10 => k_is)
    (case lC10 => k_is)
    (case cC10 => k_is)
    (case kC10 => k_is)
    (case aC11 => k_is)
    (case iC11 => k_is)
    (case lC11 => k_is)
    (case cC11 => k_is)
    (case kC11 => k_is)
    (case aC12 => k_is)
    (case iC12 => k_is)
    (case lC12 => k_is)
    (case cC12 => k_is)
    (case kC12 => k_is)
    (case aC13 => k_is)
    (case iC13 => k_is)
    (case lC13 => k_is)
    (case cC13 => k_is)
    (case kC13 => k_is)
    (case aC14 => k_is)
    (case iC14 => k_is)
    (case lC14 => k_is)
    (case cC14 => k_is)
    (case kC14 => k_is)
    (case aC15 => k_is)
    (case iC15 => k_is)
    (case lC15 => k_is)
    (case cC15 => k_is)
    (case kC15 => k_is)
    (case aR0 => k_is)
    (case iR0 => k_is)
    (case lR0 => k_is)
    (case cR0 => k_is)
    (case kR0 => k_is)
    (case aR1 => k_is)
    (case iR1 => k_is)
    (case lR1 => k_is)
    (case cR1 => k_is)
    (case kR1 => k_is)
    (case aR2 => k_is)
    (case iR2 => k_is)
    (case lR2 => k_is)
    (case cR2 => k_is)
    (case kR2 => k_is)
    (case aR3 => k_is)
    (case iR3 => k_is)
    (case lR3 => k_is)
    (case cR3 => k_is)
    (case kR3 => k_is)
    (case pgC => k_is)
    (case hdC => k_is)
    (case poC => k_is)
    (case saC => k_is)
    (case mkC => k_is)
    (case kcC => k_is)
    (case pgR => k_is)
    (case hdR => k_is)
    (case poR => k_is)
    (case saR => k_is)
    (case mkR => k_is)
    (case kcR => k_is)
    (case nCbeats => k_is)
    (case nCfound => k_is)
    (case nRnumbers => k_is)
    (case nRplace => k_is)
    (case zsum => k_is)
    (case zlen => k_is)
    (case zrange => k_is)
    (case zany => k_is)
    (case zlist => k_is)
    (case zset => k_is)
    (case zsorted => k_is)
    (case zreversed => k_is)
    (case zmax => k_is)
    (case zenumerate => k_is)
    (case uDONE => k_is)
    (case uREFUSED => k_is)
    (case uMOST_ARGUMENTS => k_is)
    (case uMOST_SETS => k_is)
    (case uNONE_SUCH => k_is)
    (case uHOLDING => k_is)
    (case uFULL => k_is)
    (case aK => k_is)
    (case lK => k_is)
    (case aD => k_is)
    (case lD => k_is)
    (case hsh0 => decide)
    (case hsh1 => decide)
    (case hsh2 => decide)
    (case hsh3 => decide)
    (case hsh4 => decide)
    (case hsh5 => decide)
    (case hsh6 => decide)
    (case hsh7 => decide)
    (case hsh8 => decide)
    (case hsh9 => decide)
    (case hsh10 => decide)
