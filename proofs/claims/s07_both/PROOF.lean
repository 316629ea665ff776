import PyProof.Rows.All
import Wide.All
import OpenK.AllK
import Wide.FinOn
import Open.SpecLaws
import KE.OsHead
import KE.OsGo
import HandS.ForSpec
import HandS.Comp
import HandS.Strs
import HandS.SetFor
import PySem.Challenge.RW_setfamilies_s07_both
set_option Elab.async false
/-! The mathematics of families: plain lists and numbers. -/
namespace Fam
open Kzx1Neutral (natsOf)

/-! ### rising lists -/
theorem rises_eq : ∀ {l m : List Int}, l.Pairwise (· < ·) → m.Pairwise (· < ·) → (∀ k, k ∈ l ↔ k ∈ m) → l = m
  | [], [], _, _, _ => rfl
  | [], b :: m, _, _, h => absurd ((h b).mpr List.mem_cons_self) List.not_mem_nil
  | a :: l, [], _, _, h => absurd ((h a).mp List.mem_cons_self) List.not_mem_nil
  | a :: l, b :: m, hl, hm, h => by
    obtain ⟨l1, l2⟩ := List.pairwise_cons.mp hl
    obtain ⟨m1, m2⟩ := List.pairwise_cons.mp hm
    have e : a = b := by
      rcases List.mem_cons.mp ((h a).mp List.mem_cons_self) with e | q
      · exact e
      · rcases List.mem_cons.mp ((h b).mpr List.mem_cons_self) with e | p
        · exact e.symm
        · have h1 := l1 b p
          have h2 := m1 a q
          omega
    subst e
    rw [rises_eq l2 m2 fun k => ⟨fun q => ?_, fun q => ?_⟩]
    · rcases List.mem_cons.mp ((h k).mp (List.mem_cons_of_mem _ q)) with e | z
      · have h1 := l1 k q
        omega
      · exact z
    · rcases List.mem_cons.mp ((h k).mpr (List.mem_cons_of_mem _ q)) with e | z
      · have h1 := m1 k q
        omega
      · exact z
theorem ints_rise {l : List Nat} (h : l.Pairwise (· < ·)) : (Kzx1.ints l).Pairwise (· < ·) := by
  unfold Kzx1.ints
  rw [List.pairwise_map]
  exact h.imp fun q => by omega
theorem mem_ints {l : List Nat} {k : Int} : k ∈ Kzx1.ints l ↔ ∃ a ∈ l, k = (a : Int) := by
  unfold Kzx1.ints
  rw [List.mem_map]
  exact ⟨fun ⟨a, h, e⟩ => ⟨a, h, e.symm⟩, fun ⟨a, h, e⟩ => ⟨a, h, e.symm⟩⟩
theorem sets_rise (n : Nat) (p : Nat → Bool) : ((Kzx1.sets n).filter p).Pairwise (· < ·) := List.Pairwise.filter p List.pairwise_lt_range
theorem mem_sets {n : Nat} {p : Nat → Bool} {a : Nat} : a ∈ (Kzx1.sets n).filter p ↔ a < 2 ^ n ∧ p a = true := by
  unfold Kzx1.sets
  rw [List.mem_filter, List.mem_range]
/-- a rising row with just these members is the row that the specification tells -/
theorem told_sets {n : Nat} {p : Nat → Bool} {ks : List Int} (up : ks.Pairwise (· < ·)) (mem : ∀ k, k ∈ ks ↔ ∃ a : Nat, a < 2 ^ n ∧ p a = true ∧ k = (a : Int)) :
    ks = Kzx1.ints ((Kzx1.sets n).filter p) := by
  refine rises_eq up (ints_rise (sets_rise n p)) fun k => ?_
  rw [mem, mem_ints]
  constructor
  · rintro ⟨a, h1, h2, e⟩
    exact ⟨a, mem_sets.mpr ⟨h1, h2⟩, e⟩
  · rintro ⟨a, h, e⟩
    exact ⟨a, (mem_sets.mp h).1, (mem_sets.mp h).2, e⟩
theorem told_family {n : Nat} {l : List Nat} {ks : List Int} (up : ks.Pairwise (· < ·)) (mem : ∀ k, k ∈ ks ↔ ∃ a ∈ l, k = (a : Int)) (lt : ∀ a ∈ l, a < 2 ^ n) :
    ks = Kzx1.ints (Kzx1.family n l) := by
  refine told_sets up fun k => ?_
  rw [mem]
  constructor
  · rintro ⟨a, h, e⟩
    exact ⟨a, lt a h, List.contains_iff_mem.mpr h, e⟩
  · rintro ⟨a, _, h, e⟩
    exact ⟨a, List.contains_iff_mem.mp h, e⟩

/-! ### a family, number by number -/
/-- what the loop of is_family does with the rest -/
def famGo (b : Int) : Int → List Int → Bool
  | _, [] => true
  | l, a :: r => if (decide (a < l) || decide (b ≤ a)) = true then false else famGo b (a + 1) r
theorem famGo_tail {B : Nat} {b : Int} (hb : b = (B : Int)) : ∀ (r : List Int) (a : Int), 0 ≤ a → (∀ z ∈ r, 0 ≤ z) →
    famGo b (a + 1) r = (Kzx1.rising (a.toNat :: natsOf r) && (natsOf r).all fun s => decide (s < B))
  | [], _, _, _ => rfl
  | c :: r, a, ha, h => by
    have hc : 0 ≤ c := h c List.mem_cons_self
    have ih := famGo_tail hb r c hc fun z q => h z (List.mem_cons_of_mem _ q)
    show (if (decide (c < a + 1) || decide (b ≤ c)) = true then false else famGo b (c + 1) r) =
      ((decide (a.toNat < c.toNat) && Kzx1.rising (c.toNat :: natsOf r)) && (decide (c.toNat < B) && (natsOf r).all fun s => decide (s < B)))
    rw [ih]
    by_cases h1 : c < a + 1
    · have e : ¬ a.toNat < c.toNat := by omega
      simp [h1, e]
    · by_cases h2 : b ≤ c
      · have e : ¬ c.toNat < B := by omega
        simp [h2, e]
      · have e1 : a.toNat < c.toNat := by omega
        have e2 : c.toNat < B := by omega
        simp [h1, h2, e1, e2]
theorem famGo_is {n : Nat} {b : Int} (hb : b = ((2 ^ n : Nat) : Int)) {ns : List Int} (h : ∀ z ∈ ns, 0 ≤ z) : famGo b 0 ns = Kzx1.okFamily n (natsOf ns) := by
  cases ns with
  | nil => rfl
  | cons c r =>
    have hc : 0 ≤ c := h c List.mem_cons_self
    have ih := famGo_tail hb r c hc fun z q => h z (List.mem_cons_of_mem _ q)
    show (if (decide (c < 0) || decide (b ≤ c)) = true then false else famGo b (c + 1) r) =
      (Kzx1.rising (c.toNat :: natsOf r) && (decide (c.toNat < 2 ^ n) && (natsOf r).all fun s => decide (s < 2 ^ n)))
    have h1 : ¬ c < 0 := by omega
    by_cases h2 : b ≤ c
    · have e : ¬ c.toNat < 2 ^ n := by omega
      simp [h2, e]
    · have e2 : c.toNat < 2 ^ n := by omega
      rw [ih]
      simp [h1, h2, e2]
/-- n things, ns a family -/
def isFam (n : Int) (ns : List Int) : Bool := Kzx1.okN n.toNat && Kzx1.okFamily n.toNat (natsOf ns)
theorem okN_iff {n : Nat} : Kzx1.okN n = true ↔ 1 ≤ n ∧ n ≤ 5 := by
  unfold Kzx1.okN
  simp only [Bool.and_eq_true, decide_eq_true_eq]
theorem isFam_n {n : Int} {ns : List Int} (h : isFam n ns = true) : 1 ≤ n ∧ n ≤ 5 := by
  unfold isFam at h
  rw [Bool.and_eq_true, okN_iff] at h
  omega
theorem isFam_lt {n : Int} {ns : List Int} (h : isFam n ns = true) (h0 : ∀ z ∈ ns, 0 ≤ z) : ∀ z ∈ ns, 0 ≤ z ∧ z < ((2 ^ n.toNat : Nat) : Int) := fun z hz => by
  unfold isFam Kzx1.okFamily at h
  rw [Bool.and_eq_true, Bool.and_eq_true, List.all_eq_true] at h
  have q := h.2.2 z.toNat (List.mem_map.mpr ⟨z, hz, rfl⟩)
  rw [decide_eq_true_eq] at q
  have := h0 z hz
  omega
theorem pow_le {n : Int} (h : n ≤ 5) : (2 ^ n.toNat : Nat) ≤ 32 := by
  have q : n.toNat ≤ 5 := by omega
  exact Nat.pow_le_pow_right (by decide) q
theorem natsOf_mem {ns : List Int} {a : Nat} (h0 : ∀ z ∈ ns, 0 ≤ z) : a ∈ natsOf ns ↔ (a : Int) ∈ ns := by
  unfold natsOf
  rw [List.mem_map]
  constructor
  · rintro ⟨z, hz, e⟩
    have := h0 z hz
    have e2 : (a : Int) = z := by omega
    rw [e2]
    exact hz
  · intro h
    exact ⟨_, h, by omega⟩

/-! ### the answers -/
section
variable (n : Int) (ns ms : List Int)
theorem say22 : ((Kzx1.say (-22)).value :: (Kzx1.say (-22)).nums) = [-22] := rfl
/-- an answer that needs two families -/
theorem two_no {h : Unit → Kzx1.Ans} (e : (isFam n ns && isFam n ms) = false) : (Kzx1.withXY n.toNat (natsOf ns) (natsOf ms) h).value :: (Kzx1.withXY n.toNat (natsOf ns) (natsOf ms) h).nums = [-22] := by
  unfold Kzx1.withXY
  rw [if_pos]
  · rfl
  · unfold isFam at e
    cases h1 : Kzx1.okN n.toNat <;> cases h2 : Kzx1.okFamily n.toNat (natsOf ns) <;> cases h3 : Kzx1.okFamily n.toNat (natsOf ms) <;> rw [h1, h2, h3] at e <;> simp_all
theorem two_yes {h : Unit → Kzx1.Ans} (e1 : isFam n ns = true) (e2 : isFam n ms = true) : Kzx1.withXY n.toNat (natsOf ns) (natsOf ms) h = h () := by
  unfold Kzx1.withXY
  unfold isFam at e1 e2
  simp only [Bool.and_eq_true] at e1 e2
  rw [if_neg]
  rw [e1.1, e1.2, e2.2]
  simp
theorem one_no {h : Unit → Kzx1.Ans} (e : isFam n ns = false) : (Kzx1.withX n.toNat (natsOf ns) h).value :: (Kzx1.withX n.toNat (natsOf ns) h).nums = [-22] := by
  unfold Kzx1.withX
  rw [if_pos]
  · rfl
  · unfold isFam at e
    cases h1 : Kzx1.okN n.toNat <;> cases h2 : Kzx1.okFamily n.toNat (natsOf ns) <;> rw [h1, h2] at e <;> simp_all
theorem one_yes {h : Unit → Kzx1.Ans} (e1 : isFam n ns = true) : Kzx1.withX n.toNat (natsOf ns) h = h () := by
  unfold Kzx1.withX
  unfold isFam at e1
  rw [Bool.and_eq_true] at e1
  rw [if_neg]
  rw [e1.1, e1.2]
  simp
theorem join_is : PyKzx1.join n ns ms = (Kzx1.answer (.join n.toNat (natsOf ns) (natsOf ms))).value :: (Kzx1.answer (.join n.toNat (natsOf ns) (natsOf ms))).nums := rfl
theorem meet_is : PyKzx1.meet n ns ms = (Kzx1.answer (.meet n.toNat (natsOf ns) (natsOf ms))).value :: (Kzx1.answer (.meet n.toNat (natsOf ns) (natsOf ms))).nums := rfl
theorem less_is : PyKzx1.less n ns ms = (Kzx1.answer (.less n.toNat (natsOf ns) (natsOf ms))).value :: (Kzx1.answer (.less n.toNat (natsOf ns) (natsOf ms))).nums := rfl
theorem below_is : PyKzx1.below n ns = (Kzx1.answer (.below n.toNat (natsOf ns))).value :: (Kzx1.answer (.below n.toNat (natsOf ns))).nums := rfl
theorem above_is : PyKzx1.above n ns = (Kzx1.answer (.above n.toNat (natsOf ns))).value :: (Kzx1.answer (.above n.toNat (natsOf ns))).nums := rfl
theorem kind_is : PyKzx1.kind n ns = (Kzx1.answer (.kind n.toNat (natsOf ns))).value :: (Kzx1.answer (.kind n.toNat (natsOf ns))).nums := rfl
theorem both_is : PyKzx1.both n ns ms = (Kzx1.answer (.both n.toNat (natsOf ns) (natsOf ms))).value :: (Kzx1.answer (.both n.toNat (natsOf ns) (natsOf ms))).nums := rfl
theorem apart_is : PyKzx1.apart n ns ms = (Kzx1.answer (.apart n.toNat (natsOf ns) (natsOf ms))).value :: (Kzx1.answer (.apart n.toNat (natsOf ns) (natsOf ms))).nums := rfl
theorem shown_is (w : Int) : PyKzx1.shown n w ns ms = (Kzx1.answer (.shown n.toNat w.toNat (natsOf ns) (natsOf ms))).value :: (Kzx1.answer (.shown n.toNat w.toNat (natsOf ns) (natsOf ms))).nums := rfl
theorem pressed_is : PyKzx1.pressed n ns = (Kzx1.answer (.pressed n.toNat (natsOf ns))).value :: (Kzx1.answer (.pressed n.toNat (natsOf ns))).nums := rfl
theorem shattered_is : PyKzx1.shattered n ns = (Kzx1.answer (.shattered n.toNat (natsOf ns))).value :: (Kzx1.answer (.shattered n.toNat (natsOf ns))).nums := rfl
/-- how many, then these -/
def tel (ks : List Int) : List Int := (ks.length : Int) :: ks
theorem tell_is (l : List Nat) : (Kzx1.tell l).value :: (Kzx1.tell l).nums = tel (Kzx1.ints l) := rfl
end

/-! ### two families, pair by pair -/
def pairs (g : Int → Int → Int) (ns ms : List Int) : List Int := ns.flatMap fun a => ms.map fun b => g a b
theorem mem_pairs {g : Int → Int → Int} {ns ms : List Int} {k : Int} : k ∈ pairs g ns ms ↔ ∃ a ∈ ns, ∃ b ∈ ms, k = g a b := by
  unfold pairs
  rw [List.mem_flatMap]
  constructor
  · rintro ⟨a, ha, h⟩
    obtain ⟨b, hb, e⟩ := List.mem_map.mp h
    exact ⟨a, ha, b, hb, e.symm⟩
  · rintro ⟨a, ha, b, hb, e⟩
    exact ⟨a, ha, List.mem_map.mpr ⟨b, hb, e.symm⟩⟩
theorem pairs_length (g : Int → Int → Int) : ∀ (ns ms : List Int), (pairs g ns ms).length = ns.length * ms.length
  | [], ms => by simp [pairs]
  | a :: ns, ms => by
    have ih := pairs_length g ns ms
    unfold pairs at ih ⊢
    rw [List.flatMap_cons, List.length_append, ih, List.length_map, List.length_cons, Nat.add_mul, Nat.one_mul, Nat.add_comm]
theorem pairs_snoc (g : Int → Int → Int) (ns ms : List Int) (z : Int) : pairs g (ns ++ [z]) ms = pairs g ns ms ++ ms.map (g z) := by
  unfold pairs
  rw [List.flatMap_append, List.flatMap_cons, List.flatMap_nil, List.append_nil]
theorem pairs_family {n : Int} {g : Int → Int → Int} {f : Nat → Nat → Nat} {ns ms ks : List Int} (x0 : ∀ z ∈ ns, 0 ≤ z ∧ z < ((2 ^ n.toNat : Nat) : Int)) (y0 : ∀ z ∈ ms, 0 ≤ z ∧ z < ((2 ^ n.toNat : Nat) : Int))
    (hg : ∀ a b : Int, 0 ≤ a → 0 ≤ b → g a b = (f a.toNat b.toNat : Int)) (hf : ∀ a b : Nat, a < 2 ^ n.toNat → b < 2 ^ n.toNat → f a b < 2 ^ n.toNat)
    (up : ks.Pairwise (· < ·)) (mem : ∀ k, k ∈ ks ↔ k ∈ pairs g ns ms) : ks = Kzx1.ints (Kzx1.family n.toNat ((natsOf ns).flatMap fun a => (natsOf ms).map fun b => f a b)) := by
  refine told_family up (fun k => ?_) fun c hc => ?_
  · rw [mem, mem_pairs]
    constructor
    · rintro ⟨a, ha, b, hb, e⟩
      refine ⟨f a.toNat b.toNat, ?_, by rw [e, hg a b (x0 a ha).1 (y0 b hb).1]⟩
      exact List.mem_flatMap.mpr ⟨a.toNat, List.mem_map.mpr ⟨a, ha, rfl⟩, List.mem_map.mpr ⟨b.toNat, List.mem_map.mpr ⟨b, hb, rfl⟩, rfl⟩⟩
    · rintro ⟨c, hc, e⟩
      obtain ⟨a, ha, h⟩ := List.mem_flatMap.mp hc
      obtain ⟨b, hb, e2⟩ := List.mem_map.mp h
      obtain ⟨a', ha', rfl⟩ := List.mem_map.mp ha
      obtain ⟨b', hb', rfl⟩ := List.mem_map.mp hb
      exact ⟨a', ha', b', hb', by rw [e, ← e2, hg a' b' (x0 a' ha').1 (y0 b' hb').1]⟩
  · obtain ⟨a, ha, h⟩ := List.mem_flatMap.mp hc
    obtain ⟨b, hb, e2⟩ := List.mem_map.mp h
    obtain ⟨a', ha', rfl⟩ := List.mem_map.mp ha
    obtain ⟨b', hb', rfl⟩ := List.mem_map.mp hb
    have h1 := x0 a' ha'
    have h2 := y0 b' hb'
    rw [← e2]
    exact hf _ _ (by omega) (by omega)

/-! ### signs -/
open PySem (Builtin)
theorem or_is {a b : Int} (ha : 0 ≤ a) (hb : 0 ≤ b) : PySem.Builtin.bitOr a b = (Nat.lor a.toNat b.toNat : Int) := by
  have e : PySem.Builtin.bitAnd a b = ((a.toNat &&& b.toNat : Nat) : Int) := PyProof.Rows.bitAnd_pp ha hb
  have e2 := PyProof.Rows.nat_or_add_and a.toNat b.toNat
  rw [PyProof.Rows.bitOr_and, e]
  show a + b - ((a.toNat &&& b.toNat : Nat) : Int) = ((a.toNat ||| b.toNat : Nat) : Int)
  omega
theorem and_is {a b : Int} (ha : 0 ≤ a) (hb : 0 ≤ b) : PySem.Builtin.bitAnd a b = (Nat.land a.toNat b.toNat : Int) := PyProof.Rows.bitAnd_pp ha hb
theorem andnot_is {a b : Int} (ha : 0 ≤ a) (hb : 0 ≤ b) : PySem.Builtin.bitAnd a (PySem.Builtin.bitNot b) = ((a.toNat - Nat.land a.toNat b.toNat : Nat) : Int) := by
  rw [PyProof.Rows.bitAnd_not, and_is ha hb]
  have h : Nat.land a.toNat b.toNat ≤ a.toNat := Nat.and_le_left
  omega

/-! ### kind -/
theorem ints_natsOf : ∀ {ns : List Int}, (∀ z ∈ ns, 0 ≤ z) → Kzx1.ints (natsOf ns) = ns
  | [], _ => rfl
  | a :: r, h => by
    have ih := ints_natsOf (ns := r) fun z q => h z (List.mem_cons_of_mem _ q)
    have ha := h a List.mem_cons_self
    show ((a.toNat : Nat) : Int) :: Kzx1.ints (natsOf r) = a :: r
    rw [ih, Int.toNat_of_nonneg ha]
theorem ints_inj : ∀ {l m : List Nat}, Kzx1.ints l = Kzx1.ints m → l = m
  | [], [], _ => rfl
  | [], _ :: _, h => by cases h
  | _ :: _, [], h => by cases h
  | a :: l, b :: m, h => by
    have q : ((a : Nat) : Int) :: Kzx1.ints l = ((b : Nat) : Int) :: Kzx1.ints m := h
    rw [List.cons.injEq] at q
    have e : a = b := by omega
    rw [e, ints_inj q.2]
theorem same_ints {ns : List Int} (x0 : ∀ z ∈ ns, 0 ≤ z) (l : List Nat) : decide (Kzx1.ints l = ns) = (l == natsOf ns) := by
  apply Bool.eq_iff_iff.mpr
  rw [decide_eq_true_eq, beq_iff_eq]
  constructor
  · intro h
    exact ints_inj (by rw [h, ints_natsOf x0])
  · intro h
    rw [h, ints_natsOf x0]
theorem above_yes {n : Int} {ns : List Int} (e1 : isFam n ns = true) : PyKzx1.above n ns = tel (Kzx1.ints (Kzx1.above n.toNat (natsOf ns))) := by
  rw [above_is, show Kzx1.answer (.above n.toNat (natsOf ns)) = Kzx1.tell (Kzx1.above n.toNat (natsOf ns)) from one_yes (h := fun _ => Kzx1.tell (Kzx1.above n.toNat (natsOf ns))) n ns e1, tell_is]
theorem below_yes {n : Int} {ns : List Int} (e1 : isFam n ns = true) : PyKzx1.below n ns = tel (Kzx1.ints (Kzx1.below n.toNat (natsOf ns))) := by
  rw [below_is, show Kzx1.answer (.below n.toNat (natsOf ns)) = Kzx1.tell (Kzx1.below n.toNat (natsOf ns)) from one_yes (h := fun _ => Kzx1.tell (Kzx1.below n.toNat (natsOf ns))) n ns e1, tell_is]
theorem kind_yes {n : Int} {ns : List Int} (e1 : isFam n ns = true) (x0 : ∀ z ∈ ns, 0 ≤ z) :
    PyKzx1.kind n ns = [(if decide (Kzx1.ints (Kzx1.above n.toNat (natsOf ns)) = ns) = true then 1 else 0) + (if decide (Kzx1.ints (Kzx1.below n.toNat (natsOf ns)) = ns) = true then 2 else 0)] := by
  rw [kind_is, show Kzx1.answer (.kind n.toNat (natsOf ns)) = Kzx1.say ((if Kzx1.isUp n.toNat (natsOf ns) then 1 else 0) + (if Kzx1.isDown n.toNat (natsOf ns) then 2 else 0)) from
    one_yes (h := fun _ => Kzx1.say ((if Kzx1.isUp n.toNat (natsOf ns) then 1 else 0) + (if Kzx1.isDown n.toNat (natsOf ns) then 2 else 0))) n ns e1, same_ints x0, same_ints x0]
  rfl
theorem no_kind (n : Int) (ns : List Int) (e : isFam n ns = false) : PyKzx1.kind n ns = [-22] := one_no n ns e

/-! ### both -/
theorem contains_nats {ms : List Int} (y0 : ∀ z ∈ ms, 0 ≤ z) {a : Nat} : (natsOf ms).contains a = decide ((a : Int) ∈ ms) := by
  apply Bool.eq_iff_iff.mpr
  rw [decide_eq_true_eq, List.contains_iff_mem, natsOf_mem y0]
theorem both_len {ms : List Int} (y0 : ∀ z ∈ ms, 0 ≤ z) : ∀ {ns : List Int}, (∀ z ∈ ns, 0 ≤ z) → (Kzx1.both (natsOf ns) (natsOf ms)).length = (ns.filter fun a => decide (a ∈ ms)).length
  | [], _ => rfl
  | a :: r, h => by
    have ih := both_len y0 (ns := r) fun z q => h z (List.mem_cons_of_mem _ q)
    have ha := h a List.mem_cons_self
    have e : (natsOf ms).contains a.toNat = decide (a ∈ ms) := by rw [contains_nats y0, Int.toNat_of_nonneg ha]
    unfold Kzx1.both at ih ⊢
    show ((a.toNat :: natsOf r).filter _).length = _
    rw [List.filter_cons, List.filter_cons, e]
    cases decide (a ∈ ms) with
    | true => simpa using ih
    | false => simpa using ih
theorem both_yes {n : Int} {ns ms : List Int} (e1 : isFam n ns = true) (e2 : isFam n ms = true) (x0 : ∀ z ∈ ns, 0 ≤ z) (y0 : ∀ z ∈ ms, 0 ≤ z) :
    PyKzx1.both n ns ms = [((ns.filter fun a => decide (a ∈ ms)).length : Int)] := by
  rw [both_is, show Kzx1.answer (.both n.toNat (natsOf ns) (natsOf ms)) = Kzx1.say ((Kzx1.both (natsOf ns) (natsOf ms)).length : Nat) from
    two_yes (h := fun _ => Kzx1.say ((Kzx1.both (natsOf ns) (natsOf ms)).length : Nat)) n ns ms e1 e2, both_len y0 x0]
  rfl
theorem no_both (n : Int) (ns ms : List Int) (e : (isFam n ns && isFam n ms) = false) : PyKzx1.both n ns ms = [-22] := two_no n ns ms e

/-! ### apart -/
/-- all sets like w at k's things are in ns -/
def hal (n : Int) (ns : List Int) (w k : Int) : Bool := ((List.range (2 ^ n.toNat)).filter fun (b : Nat) => decide (PySem.Builtin.bitAnd (b : Int) k = PySem.Builtin.bitAnd w k)).all fun (b : Nat) => decide ((b : Int) ∈ ns)
theorem all_eq {l : List Nat} {p q : Nat → Bool} (h : ∀ b ∈ l, p b = q b) : l.all p = l.all q := by
  induction l with
  | nil => rfl
  | cons a r ih => rw [List.all_cons, List.all_cons, h a List.mem_cons_self, ih fun b hb => h b (List.mem_cons_of_mem _ hb)]
theorem hal_sure {n : Int} {ns : List Int} (x0 : ∀ z ∈ ns, 0 ≤ z) {k : Int} {w j : Nat} (h : ∀ b : Nat, b < 2 ^ n.toNat → (PySem.Builtin.bitAnd (b : Int) k = PySem.Builtin.bitAnd (w : Int) k ↔ Nat.land b j = Nat.land w j)) :
    hal n ns (w : Int) k = Kzx1.sure n.toNat (natsOf ns) w j := by
  unfold hal Kzx1.sure Kzx1.like Kzx1.sets
  rw [List.filter_congr (q := fun b => Nat.land b j == Nat.land w j)]
  · exact all_eq fun b _ => (contains_nats x0).symm
  · intro b hb
    apply Bool.eq_iff_iff.mpr
    rw [decide_eq_true_eq, beq_iff_eq]
    exact h b (List.mem_range.mp hb)
theorem hal_at {n : Int} {ns : List Int} (x0 : ∀ z ∈ ns, 0 ≤ z) {w k : Nat} : hal n ns (w : Int) (k : Int) = Kzx1.sure n.toNat (natsOf ns) w k :=
  hal_sure x0 fun b _ => by
    rw [and_is (Int.natCast_nonneg b) (Int.natCast_nonneg k), and_is (Int.natCast_nonneg w) (Int.natCast_nonneg k), Int.toNat_natCast, Int.toNat_natCast, Int.toNat_natCast]
    omega
theorem other_tab : ∀ n : Nat, n < 6 → ∀ k : Nat, k < 2 ^ n → ∀ b : Nat, b < 2 ^ n → b - Nat.land b k = Nat.land b (2 ^ n - 1 - k) := by decide +kernel
theorem hal_other {n : Int} {ns : List Int} (x0 : ∀ z ∈ ns, 0 ≤ z) (n5 : n ≤ 5) {w k : Nat} (hw : w < 2 ^ n.toNat) (hk : k < 2 ^ n.toNat) :
    hal n ns (w : Int) (PySem.Builtin.bitNot (k : Int)) = Kzx1.sure n.toNat (natsOf ns) w (2 ^ n.toNat - 1 - k) :=
  hal_sure x0 fun b hb => by
    rw [andnot_is (Int.natCast_nonneg b) (Int.natCast_nonneg k), andnot_is (Int.natCast_nonneg w) (Int.natCast_nonneg k), Int.toNat_natCast, Int.toNat_natCast, Int.toNat_natCast]
    rw [other_tab n.toNat (by omega) k hk b hb, other_tab n.toNat (by omega) k hk w hw]
    omega
/-- in both apart for k's things -/
def iaf (n : Int) (ns ms : List Int) (w k : Int) : Bool := hal n ns w k && hal n ms w (PySem.Builtin.bitNot k)
theorem iaf_is {n : Int} {ns ms : List Int} (x0 : ∀ z ∈ ns, 0 ≤ z) (y0 : ∀ z ∈ ms, 0 ≤ z) (n5 : n ≤ 5) {w k : Nat} (hw : w < 2 ^ n.toNat) (hk : k < 2 ^ n.toNat) :
    iaf n ns ms (w : Int) (k : Int) = (Kzx1.sure n.toNat (natsOf ns) w k && Kzx1.sure n.toNat (natsOf ms) w (2 ^ n.toNat - 1 - k)) := by
  unfold iaf
  rw [hal_at x0, hal_other y0 n5 hw hk]
/-- in both apart -/
def isAp (n : Int) (ns ms : List Int) (w : Int) : Bool := (List.range (2 ^ n.toNat)).any fun k => iaf n ns ms w (k : Int)
theorem isAp_is {n : Int} {ns ms : List Int} (x0 : ∀ z ∈ ns, 0 ≤ z) (y0 : ∀ z ∈ ms, 0 ≤ z) (n5 : n ≤ 5) {w : Nat} (hw : w < 2 ^ n.toNat) : isAp n ns ms (w : Int) = (Kzx1.shown n.toNat (natsOf ns) (natsOf ms) w).isSome := by
  unfold isAp Kzx1.shown Kzx1.sets
  apply Bool.eq_iff_iff.mpr
  rw [List.any_eq_true, List.find?_isSome]
  constructor
  · rintro ⟨k, hk, e⟩
    exact ⟨k, hk, by rw [← iaf_is x0 y0 n5 hw (List.mem_range.mp hk)]; exact e⟩
  · rintro ⟨k, hk, e⟩
    exact ⟨k, hk, by rw [iaf_is x0 y0 n5 hw (List.mem_range.mp hk)]; exact e⟩
theorem sure_self {n : Nat} {x : List Nat} {w k : Nat} (hw : w < 2 ^ n) (h : Kzx1.sure n x w k = true) : w ∈ x := by
  unfold Kzx1.sure Kzx1.like Kzx1.sets at h
  rw [List.all_eq_true] at h
  have q := h w (by rw [List.mem_filter, List.mem_range]; exact ⟨hw, beq_self_eq_true _⟩)
  exact List.contains_iff_mem.mp q
theorem yes_apart (n : Int) (ns ms ks : List Int) (e1 : isFam n ns = true) (e2 : isFam n ms = true) (x0 : ∀ z ∈ ns, 0 ≤ z) (y0 : ∀ z ∈ ms, 0 ≤ z) (up : ks.Pairwise (· < ·)) (mem : ∀ k, k ∈ ks ↔ k ∈ ns.filter (isAp n ns ms)) :
    PyKzx1.apart n ns ms = tel ks := by
  rw [apart_is, show Kzx1.answer (.apart n.toNat (natsOf ns) (natsOf ms)) = Kzx1.tell (Kzx1.apart n.toNat (natsOf ns) (natsOf ms)) from two_yes (h := fun _ => Kzx1.tell (Kzx1.apart n.toNat (natsOf ns) (natsOf ms))) n ns ms e1 e2, tell_is]
  have n5 := (isFam_n e1).2
  have xl := isFam_lt e1 x0
  have q : ks = Kzx1.ints (Kzx1.apart n.toNat (natsOf ns) (natsOf ms)) := by
    refine told_sets up fun k => ?_
    rw [mem, List.mem_filter]
    constructor
    · rintro ⟨h1, h2⟩
      have h3 := xl k h1
      have e : ((k.toNat : Nat) : Int) = k := Int.toNat_of_nonneg h3.1
      refine ⟨k.toNat, by omega, ?_, e.symm⟩
      rw [← isAp_is x0 y0 n5 (by omega), e]
      exact h2
    · rintro ⟨a, h1, h2, rfl⟩
      refine ⟨?_, by rw [isAp_is x0 y0 n5 h1]; exact h2⟩
      unfold Kzx1.shown at h2
      rw [List.find?_isSome] at h2
      obtain ⟨k, _, h3⟩ := h2
      rw [Bool.and_eq_true] at h3
      exact (natsOf_mem x0).mp (sure_self h1 h3.1)
  rw [q]
theorem no_apart (n : Int) (ns ms : List Int) (e : (isFam n ns && isFam n ms) = false) : PyKzx1.apart n ns ms = [-22] := two_no n ns ms e
end Fam

set_option Elab.async false
set_option maxRecDepth 100000
/-! A word that the layer lacks: set(xs) of a list of ints, whatever stands in it twice. -/
namespace Fam
open PySem PySem.Spec PyProof.Rows L2
/-- the empty set as the world makes it -/
abbrev noSet (w : World) : Obj := { cls := .type "set", dict := none, data := .set #[] 0 (.fresh 0 0 (!w.params.followText "set-order")) }
section
variable {P : Program} {w : World} {A : Around} {s : Shared} {E : Value → Shared → Prop}
set_option maxHeartbeats 4100000 in
theorem set_of_list {l : Addr} {its : Array Value} (ks : List Int) {Q : Value → Shared → Prop} (calm : A.handled = none) (at_l : s.heap.IsList l its) (nums : IntsAre its.toList ks) (few : ks.length + 1 < scanBound)
    (fin : ∀ (g : Heap) (tk c : Nat), SetR w g s.heap.objs.size (fun j => decide (j ∈ ks)) c → c ≤ ks.length → (∀ b o, s.heap.get? b = some o → g.get? b = some o) →
      Q (.ref s.heap.objs.size) { s with heap := g, toks := tk }) : wpAny (model P w) A (call (.type "set") [.ref l]) Q E s := by
  have size_is : its.size = ks.length := by have q := nums.length; rwa [Array.length_toList] at q
  obtain ⟨_, _, mro_is⟩ := PySem.F.called_set.mro
  have made_is := PySem.F.called_set.made; have sub_is := PySem.F.called_set.sub
  refine wpAny_call (codeAny_of_tree (show wpAny _ _ (callAny (.type "set") _) _ _ _ from ?_))
  refine wpAny_pure ⟨Code.quiet_builtin _ (by decide +kernel),
    codeAny_builtin PySem.F.entry_type_call ?_⟩
  rw [Around.under_plain (weight_type_call_type "set" [.ref l] []) (by rfl)]
  have no_type := PySem.F.called_set.notType; have can := PySem.F.called_set.canCreate; have one_arg := PySem.F.typeCall_set_1 (.ref l)
  repeat any_goals first | assumption | wp_step
  refine codeAny_mono (code_set_led1 (.ref l) (E := E) (Q₁ := fun v z => v = .ref s.heap.objs.size ∧ z = { s with heap := s.heap.push (noSet w) }) ⟨rfl, rfl⟩) fun r z hr => ?_
  match r, hr with
  | .error e, hr => exact hr
  | .ok (.ret v), hr =>
    obtain ⟨rfl, rfl⟩ := hr
    have set_at : (s.heap.push (noSet w)).get? s.heap.objs.size = some (noSet w) := Heap.get?_push_size _ rfl
    have type_is : Shared.TypeIs { s with heap := s.heap.push (noSet w) } (.ref s.heap.objs.size) "set" := ⟨_, set_at, rfl⟩
    have look_is := PySem.F.called_set.init.lookup; have bind_is := PySem.F.called_set.init.bind (.ref s.heap.objs.size)
    repeat any_goals first | assumption | wp_step
    refine codeAny_mono (codeAny_call_builtin (R := wants (fun v z => v = .none ∧ ∃ g tk c, z = { s with heap := g, toks := tk } ∧
      SetR w g s.heap.objs.size (fun j => decide (j ∈ ks)) c ∧ c ≤ ks.length ∧ (∀ b o, s.heap.get? b = some o → g.get? b = some o)) E)
        PySem.F.called_set.init.plain PySem.F.entry_set_init (check_set_init_1 type_is ?_)) fun r2 z2 hr2 => ?_
    · obtain ⟨⟨oc, od, odt, osl⟩, get_l, cls_l, nl, data_l⟩ := at_l
      simp only at cls_l data_l
      subst cls_l data_l
      have get_l2 : (s.heap.push (noSet w)).get? l = some { cls := .type "list", dict := od, data := .seq its nl, slots := osl } := Heap.get?_push_of_some _ get_l
      have no1 := PySem.F.sub_list_set; have no2 := PySem.F.sub_list_frozenset
      have no3 : (Value.type "list" == Value.type "dict") = false := by decide
      have at_l2 : (s.heap.push (noSet w)).IsList l its := ⟨_, get_l2, rfl, nl, rfl⟩
      unfold Builtin.«set.__init__» Builtin.Frozenset.updateFrom noKeywords
      generalize hide : pyIter = hidden
      wp_walk
      subst hide
      refine wpAny_pyIter_list at_l2 (wpAny_bind (wpAny_runValue ?_))
      have lt_l : l < s.heap.objs.size := Heap.lt_size get_l
      have calm3 : A.in1.in1.in1.handled = none := by simp [calm]
      have more : (s.heap.push (noSet w)).objs.size = s.heap.objs.size + 1 := Heap.size_push ..
      have ne_it : l ≠ (s.heap.push (noSet w)).objs.size := by rw [more]; exact Nat.ne_of_lt (Nat.lt_succ_of_lt lt_l)
      have off : s.heap.objs.size ∉ [(s.heap.push (noSet w)).objs.size, l] := fun q => by
        rcases List.mem_cons.mp q with q | q
        · rw [more] at q; exact Nat.ne_of_lt (Nat.lt_succ_self _) q
        · exact Nat.ne_of_gt lt_l (List.mem_singleton.mp q)
      have vals : ∀ (i : Nat) (v : Value), its[i]? = some v → ∃ k t, ks[i]? = some k ∧ v = .int k t := fun i v hv => by
        have lt_i : i < ks.length := by have := (Array.getElem?_eq_some_iff.mp hv).1; omega
        obtain ⟨t, e⟩ := nums.int_at i v (by rw [Array.getElem?_toList]; exact hv)
        exact ⟨ks[i], t, List.getElem?_eq_getElem lt_i, by rw [e, List.getD_eq_getElem?_getD, List.getElem?_eq_getElem lt_i] <;> rfl⟩
      refine set_update_ints ((Walks.list calm3 _ l ne_it its).toS) s.heap.objs.size off ks size_is few vals (its.size - 0) 0 _ (by omega) (Nat.zero_le _) ⟨⟨_, Heap.get?_push_size _ rfl, rfl, rfl⟩, at_l2.push _⟩ ?_ ?_
      · exact ⟨0, Nat.le_refl 0, setR_new_at (Heap.get?_push_of_some _ set_at)⟩
      · rintro ⟨g, gs, dr, tk, os⟩ c moved le_c new
        have e1 : gs = s.gens := moved.gens
        have e2 : dr = s.drawn := moved.drawn
        have e3 : os = s.os := moved.os
        subst e1 e2 e3
        refine wpAny_pure (show wpAny _ _ (ret Value.none) _ _ _ from wpAny_pure ⟨rfl, g, tk, c, rfl, new, by omega, fun b o e => ?_⟩)
        have lt_b : b < s.heap.objs.size := Heap.lt_size e
        refine moved.heap b o (fun q => ?_) (Heap.get?_push_of_some _ (Heap.get?_push_of_some _ e))
        rcases List.mem_cons.mp q with q | q
        · exact Nat.ne_of_lt lt_b q
        · have q2 := List.mem_singleton.mp q; rw [more] at q2; exact Nat.ne_of_lt (Nat.lt_succ_of_lt lt_b) q2
    · match r2, hr2 with
      | .error e, hr2 => exact hr2
      | .ok (.ret v), hr2 =>
        obtain ⟨rfl, g, tk, c, rfl, new, le_c, kept⟩ := hr2
        repeat any_goals first | assumption | wp_step
        exact fin g tk c new le_c kept
end
/-- no more members than numbers below B -/
theorem count_le : ∀ (B : Nat) (l : List Int), l.Nodup → (∀ k ∈ l, 0 ≤ k ∧ k < (B : Int)) → l.length ≤ B
  | 0, [], _, _ => Nat.le_refl 0
  | 0, a :: l, _, h => by have := h a List.mem_cons_self; omega
  | B + 1, l, nd, h => by
    have ih := count_le B (l.erase (B : Int)) (nd.erase _) fun k hk => by
      have h1 := h k (List.mem_of_mem_erase hk)
      have h2 : k ≠ (B : Int) := fun e => by
        rw [e] at hk
        exact (List.Nodup.not_mem_erase nd) hk
      omega
    have h3 : l.length ≤ (l.erase (B : Int)).length + 1 := by
      rw [List.length_erase]
      split <;> omega
    omega
theorem setR_few {w : World} {g : Heap} {a : Addr} {ks : List Int} {c B : Nat} (R : SetR w g a (fun j => decide (j ∈ ks)) c) (h : ∀ k ∈ ks, 0 ≤ k ∧ k < (B : Int)) : c ≤ B := by
  obtain ⟨o, es, ep, t, _, _, _, _, nd, mem, _, _, e, _⟩ := R
  have q := count_le B _ nd fun k hk => h k (by have := (mem k).mpr hk; rwa [decide_eq_true_eq] at this)
  rw [List.length_map, Array.length_toList, e] at q
  exact q
section
variable {X : Cx}
/-- set(xs), xs a list of ints from 0 to B - 1, at most 4,000 of them -/
def rSetL (K : PySem.W.Frag) (w : World) : List V → Hp → VK → Prop := fun vs H Q => ∃ (l : Addr) (ks : List Int) (B : Nat), vs = [V.ref l] ∧ SqL K H l (ks.map V.int) ∧ ks.length ≤ 4000 ∧ (∀ k ∈ ks, 0 ≤ k ∧ k < (B : Int)) ∧
  ∀ (p : Addr) (c : Nat), H p = none → c ≤ B → Q (.ref p) (upd H p (SetO w p (fun j => decide (j ∈ ks)) c))
theorem cr_setL (hc : X.calm = true) : CallR X (.type "set") (rSetL X.K X.w) := by
  intro ps s σ H vs us Q I r h
  obtain ⟨l, ks, B, rfl, hq, few, lt, q⟩ := h
  rw [Vals.ref1 r]
  obtain ⟨its, rv, pl, _⟩ := I.list hq
  have nums : IntsAre its.toArray.toList ks := by simpa using ints_of_vals rv
  refine set_of_list ks (I.ok.hd hc) pl.isList nums (by unfold scanBound; omega) fun g tk c new _ kept => ?_
  have J := I.laid (o := SetO X.w s.heap.objs.size (fun j => decide (j ∈ ks)) c) (t' := tk) kept (Nat.le_refl _) (setO_new new)
  exact ⟨.ref s.heap.objs.size, _, J, rfl, q _ c (I.hok.fresh (Nat.le_refl _)) (setR_few new lt)⟩
end
end Fam

set_option Elab.async false
set_option maxRecDepth 100000
set_option maxHeartbeats 2000000
/-! The defs' readings (what each text asks, from the left) and that the promises give them. -/
namespace Fam
open PySem PySem.Spec PyProof.Rows L2
open Kzx1Neutral (natsOf)
theorem take_more {α : Type} {l : List α} {i : Nat} {x : α} (h : l[i]? = some x) : l.take (i + 1) = l.take i ++ [x] := by
  rw [List.take_add_one, h] <;> rfl
theorem drop_more {α : Type} {l : List α} {i : Nat} {x : α} (h : l[i]? = some x) : l.drop i = x :: l.drop (i + 1) := by
  obtain ⟨h1, h2⟩ := List.getElem?_eq_some_iff.mp h
  rw [← h2, List.drop_eq_getElem_cons h1]
theorem int_item {ns : List Int} {i : Nat} {y : V} (hi : (ns.map V.int)[i]? = some y) : ∃ z, ns[i]? = some z ∧ y = V.int z := by
  rw [List.getElem?_map] at hi
  cases e : ns[i]? with
  | none => rw [e] at hi; cases hi
  | some z => rw [e] at hi; exact ⟨z, rfl, (Option.some.inj hi).symm⟩
/-! ### promises -/
/-- is_family(n, x) -/
def spIs (K : PySem.W.Frag) : Sp := fun vs H Q _ => ∃ (n : Int) (a : Addr) (ns : List Int), vs = [.int n, .ref a] ∧ 0 ≤ n ∧ SqL K H a (ns.map V.int) ∧ (∀ z ∈ ns, 0 ≤ z) ∧ Q (.bl (isFam n ns)) H
/-- counted(found) -/
def spCnt (_ : PySem.W.Frag) : Sp := fun vs H Q _ => ∃ (a : Addr) (ks : List Int), vs = [.ref a] ∧ H a = some (.lst (ks.map V.int)) ∧ ks.length ≤ 4000 ∧ (∀ k ∈ ks, 0 ≤ k ∧ k < 32) ∧
  ∀ (H' : Hp) (p : Addr) (out : List Int), Same H H' → H p = none → out.Pairwise (· < ·) → (∀ k, k ∈ out ↔ k ∈ ks) → H' p = some (.lst ((tel out).map V.int)) → Q (.ref p) H'
/-- a call of two families: f is the specification's -/
def sp2 (f : Int → List Int → List Int → List Int) (K : PySem.W.Frag) : Sp := fun vs H Q _ => ∃ (n : Int) (a b : Addr) (ns ms : List Int), vs = [.int n, .ref a, .ref b] ∧ 0 ≤ n ∧ SqL K H a (ns.map V.int) ∧ SqL K H b (ms.map V.int) ∧
  ns.length ≤ 40 ∧ ms.length ≤ 40 ∧ (∀ z ∈ ns, 0 ≤ z) ∧ (∀ z ∈ ms, 0 ≤ z) ∧ ∀ (H' : Hp) (p : Addr), H' p = some (.lst ((f n ns ms).map V.int)) → Q (.ref p) H'
/-- a call of one family -/
def sp1 (f : Int → List Int → List Int) (K : PySem.W.Frag) : Sp := fun vs H Q _ => ∃ (n : Int) (a : Addr) (ns : List Int), vs = [.int n, .ref a] ∧ 0 ≤ n ∧ SqL K H a (ns.map V.int) ∧
  ns.length ≤ 40 ∧ (∀ z ∈ ns, 0 ≤ z) ∧ ∀ (H' : Hp) (p : Addr), Same H H' → H' p = some (.lst ((f n ns).map V.int)) → Q (.ref p) H'
theorem same_upd {H : Hp} {p : Addr} {o : HO} (np : H p = none) : Same H (upd H p o) := fun b o e => by rw [upd_ne (ne_of_none e np)]; exact e
/-- a def of the program's that keeps its promise, as its callers want it -/
structure Def (P : Program) (w : World) (K : PySem.W.Frag) (mg : Str → Option Value) (base : Heap) (k : Nat) (f : Addr) (fd : FuncData) (ps : List Str) (sp : Sp) : Prop where
  ok : FnOk P w K mg base CX0 k f fd ps sp
  kp : PySem.W.keepIn K (.ref f) = true
  b : Binds K fd ps []
/-! ### readings -/
def ltI : R2 := rI0 fun i j => .bl (decide (i < j))
def gtI : R2 := rI0 fun i j => .bl (decide (j < i))
def geI : R2 := rI0 fun i j => .bl (decide (j ≤ i))
def rPlus : R2 := rI0 fun i j => .int (i + j)
def rShl : R2 := rI CPow fun i j => V.int (i * 2 ^ j.toNat)
/-- slots: n, x, beyond, least, a -/
def t_is (K : PySem.W.Frag) : TS :=
  tSeq (tIfS (tOr (tTest (tOp ltI (tVar 0) (tC (.int 1)))) (tTest (tOp gtI (tVar 0) (tC (.int 5))))) (tRet (tC (.bl false))) tNext)
  (tSeq (tAsg (tOp rShl (tC (.int 1)) (tVar 0)) (gName 2))
  (tSeq (tAsg (tC (.int 0)) (gName 3))
  (tSeq (tFor (iList K (tVar 1)) (gName 4)
    (tSeq (tIfS (tOr (tTest (tOp ltI (tVar 4) (tVar 3))) (tTest (tOp geI (tVar 4) (tVar 2)))) (tRet (tC (.bl false))) tNext)
      (tAsg (tOp rPlus (tVar 4) (tC (.int 1))) (gName 3))))
  (tRet (tC (.bl true))))))
theorem pow_cast (n : Nat) : (1 : Int) * 2 ^ n = ((2 ^ n : Nat) : Int) := by
  rw [Int.one_mul, Int.natCast_pow]
  rfl
theorem isFam_small {n : Int} {ns : List Int} (h : n < 1 ∨ 5 < n) : isFam n ns = false := by
  cases e : isFam n ns with
  | false => rfl
  | true => have := isFam_n e; omega
theorem isFam_go {n : Int} {ns : List Int} (h1 : 1 ≤ n) (h2 : n ≤ 5) (x0 : ∀ z ∈ ns, 0 ≤ z) : isFam n ns = famGo (1 * 2 ^ n.toNat) 0 ns := by
  rw [famGo_is (pow_cast _) x0]
  have e : Kzx1.okN n.toNat = true := okN_iff.mpr (by omega)
  unfold isFam
  rw [e, Bool.true_and]
section
variable {K : PySem.W.Frag}
theorem pure_is {N : List Str} (hN : N.length = 5) {vs : List V} {H : Hp} {Q : VK} {E : XK} (h : spIs K vs H Q E) : t_is K { nx := fun _ H' => Q .non H', rt := Q } (start N vs) H := by
  obtain ⟨n, a, ns, rfl, n0, hS, x0, k⟩ := h
  obtain ⟨N0, N1, N2, N3, N4, rfl⟩ : ∃ a b c d e, N = [a, b, c, d, e] := by
    match N, hN with
    | [a, b, c, d, e], _ => exact ⟨a, b, c, d, e, rfl⟩
  refine ⟨_, rfl, _, _, rfl, rfl, _, rfl, ?_⟩
  refine ite2 (fun c => ?_) (fun c => ?_)
  · refine iteT ?_
    rw [decide_eq_true_eq] at c
    show Q (.bl false) H
    rw [isFam_small (.inl c)] at k
    exact k
  refine ⟨_, rfl, _, _, rfl, rfl, _, rfl, ?_⟩
  refine ite2 (fun d => ?_) (fun d => ?_)
  · rw [decide_eq_true_eq] at d
    show Q (.bl false) H
    rw [isFam_small (.inr d)] at k
    exact k
  rw [decide_eq_true_eq] at c d
  rw [isFam_go (by omega) (by omega) x0] at k
  refine ⟨_, rfl, _, _, rfl, rfl, ⟨n0, by omega, by decide⟩, ?_⟩
  refine ⟨_, rfl, a, rfl, ⟨_, hS⟩, for_list (K := K) (a := a) (xs := ns.map V.int) (fun i σ H' => H' = H ∧ ∃ (v : Option V) (l : Int), σ = [some (.int n), some (.ref a), some (.int (1 * 2 ^ n.toNat)), some (.int l), v] ∧
    famGo (1 * 2 ^ n.toNat) 0 ns = famGo (1 * 2 ^ n.toNat) l (ns.drop i)) ⟨rfl, none, 0, rfl, rfl⟩ (fun i σ H' _ ⟨e, _⟩ => by rw [e]; exact hS) ?_ ?_⟩
  · rintro i y σ H' hi ⟨rfl, v, l, rfl, e⟩
    obtain ⟨z, hz, rfl⟩ := int_item hi
    rw [drop_more hz] at e
    refine ⟨_, rfl, _, rfl, _, _, rfl, rfl, _, rfl, ?_⟩
    refine ite2 (fun c1 => ?_) (fun c1 => ?_)
    · refine iteT ?_
      show Q (.bl false) H'
      rw [e, show famGo (1 * 2 ^ n.toNat) l (z :: ns.drop (i + 1)) = false by unfold famGo; rw [c1, Bool.true_or, if_pos rfl]] at k
      exact k
    refine ⟨_, rfl, _, rfl, _, _, rfl, rfl, _, rfl, ?_⟩
    refine ite2 (fun c2 => ?_) (fun c2 => ?_)
    · show Q (.bl false) H'
      rw [e, show famGo (1 * 2 ^ n.toNat) l (z :: ns.drop (i + 1)) = false by unfold famGo; rw [c2, Bool.or_true, if_pos rfl]] at k
      exact k
    refine ⟨_, rfl, _, _, rfl, rfl, rfl, some (.int z), z + 1, rfl, ?_⟩
    rw [e]
    show (if (decide (z < l) || decide (1 * 2 ^ n.toNat ≤ z)) = true then false else famGo (1 * 2 ^ n.toNat) (z + 1) (ns.drop (i + 1))) = _
    rw [Bool.eq_false_iff.mpr c1, Bool.eq_false_iff.mpr c2]
    rfl
  · rintro σ H' ⟨rfl, v, l, rfl, e⟩
    show Q (.bl true) H'
    rw [List.length_map, List.drop_length] at e
    rw [e] at k
    exact k

/-! ### counted -/
def rLen (K : PySem.W.Frag) : List V → Hp → VK → Prop := fun xs H Q => ∃ p ys, xs = [.ref p] ∧ (SqL K H p ys ∨ SqT K H p ys) ∧ Q (.int ys.length) H
/-- slots: found, sets -/
def t_cnt (K : PySem.W.Frag) (w : World) : TS :=
  tSeq (tAsg (tCB (rSortedSet w) (tCons (tCB (rSetL K w) (tCons (tVar 0) tNil)) tNil)) (gName 1))
  (tRet (tOp rCat (tLst (tCons (tCB (rLen K) (tCons (tVar 1) tNil)) tNil)) (tVar 1)))
theorem pure_cnt {w : World} {N : List Str} (hN : N.length = 2) {vs : List V} {H : Hp} {Q : VK} {E : XK} (h : spCnt K vs H Q E) : t_cnt K w { nx := fun _ H' => Q .non H', rt := Q } (start N vs) H := by
  obtain ⟨a, ks, rfl, hL, few, lt, k⟩ := h
  obtain ⟨N0, N1, rfl⟩ : ∃ a b, N = [a, b] := by
    match N, hN with
    | [a, b], _ => exact ⟨a, b, rfl⟩
  refine ⟨_, rfl, a, ks, 32, rfl, SqL.of hL, few, lt, fun p c np hc => ?_⟩
  refine ⟨p, _, c, rfl, upd_same, by omega, fun out q up mem _ nq => ?_⟩
  have s1 : Same H (upd H p (SetO w p (fun j => decide (j ∈ ks)) c)) := fun b o e => by rw [upd_ne (ne_of_none e np)]; exact e
  have s2 : Same _ (upd (upd H p (SetO w p (fun j => decide (j ∈ ks)) c)) q (.lst (out.map V.int))) := fun b o e => by rw [upd_ne (ne_of_none e nq)]; exact e
  have few2 : out.length ≤ 32 := count_le 32 out (up.imp fun q => by omega) fun z hz => lt z (by have := (mem z).mp hz; rwa [decide_eq_true_eq] at this)
  have line : sizeLine = 16777216 := sizeLine_eq
  refine ⟨_, rfl, q, _, rfl, .inl (SqL.of upd_same), ?_⟩
  refine ⟨by show 1 ≤ sizeLine; omega, fun r nr => ?_⟩
  have s3 : Same _ (upd (upd (upd H p (SetO w p (fun j => decide (j ∈ ks)) c)) q (.lst (out.map V.int))) r (.lst [.int ((out.map V.int).length : Nat)])) := fun b o e => by rw [upd_ne (ne_of_none e nr)]; exact e
  refine ⟨_, rfl, r, q, _, _, rfl, rfl, upd_same, s3 _ _ upd_same, ?_, fun t nt => ?_⟩
  · rw [List.length_map]
    show 1 + out.length ≤ sizeLine
    omega
  · have s123 := (s1.trans s2).trans s3
    refine k _ t out (fun b o e => by rw [upd_ne (ne_of_none (s123 _ _ e) nt)]; exact s123 _ _ e) (s123.free nt) up (fun z => by rw [mem]; exact decide_eq_true_iff) ?_
    rw [upd_same, List.length_map]
    rfl

/-! ### two families, pair by pair -/
/-- x or y is no family: the refusal. Slots: n, x, y, .. -/
def t_two (spI : Sp) : TS := tIfS (tOr (tNot (tB (tCall spI [] E0 (tCons (tVar 0) (tCons (tVar 1) tNil))))) (tNot (tB (tCall spI [] E0 (tCons (tVar 0) (tCons (tVar 2) tNil))))))
  (tRet (tLst (tCons (tC (.int (-22))) tNil))) tNext
/-- slots: n, x, y, found, a, b -/
def t_pairs (K : PySem.W.Frag) (spI spC : Sp) (te : TE) : TS :=
  tSeq (t_two spI)
  (tSeq (tAsg (tLst tNil) (gName 3))
  (tSeq (tFor (iList K (tVar 1)) (gName 4) (tFor (iList K (tVar 2)) (gName 5) (tDrop (tBM K "list" rAppend (tVar 3) (tCons te tNil)))))
  (tRet (tCall spC [] E0 (tCons (tVar 3) tNil)))))
/-- the refusal of two, at any slots -/
theorem pure_two {D : Ends} {n : Int} {a b : Addr} {ns ms : List Int} {r : List (Option V)} {H : Hp} (n0 : 0 ≤ n) (hS : SqL K H a (ns.map V.int)) (hT : SqL K H b (ms.map V.int)) (x0 : ∀ z ∈ ns, 0 ≤ z) (y0 : ∀ z ∈ ms, 0 ≤ z)
    (no : (isFam n ns && isFam n ms) = false → ∀ p, H p = none → D.rt (.ref p) (upd H p (.lst [.int (-22)])))
    (yes : isFam n ns = true → isFam n ms = true → D.nx (some (.int n) :: some (.ref a) :: some (.ref b) :: r) H) :
    t_two (spIs K) D (some (.int n) :: some (.ref a) :: some (.ref b) :: r) H := by
  have line : 1 ≤ sizeLine := by rw [sizeLine_eq]; decide
  refine ⟨_, rfl, _, rfl, n, a, ns, rfl, n0, hS, x0, _, rfl, ?_⟩
  cases e1 : isFam n ns with
  | false =>
    refine iteT (iteT ⟨line, fun p hp => ?_⟩)
    exact no (by rw [e1, Bool.false_and]) p hp
  | true =>
    refine iteF ⟨_, rfl, _, rfl, n, b, ms, rfl, n0, hT, y0, _, rfl, ?_⟩
    cases e2 : isFam n ms with
    | false => exact iteT ⟨line, fun p hp => no (by rw [e2, Bool.and_false]) p hp⟩
    | true => exact iteF (yes e1 e2)
theorem pure_pairs {f : Int → List Int → List Int → List Int} {g : Int → Int → Int} {te : TE} {N : List Str} (hN : N.length = 6) {vs : List V} {H : Hp} {Q : VK} {E : XK}
    (hte : ∀ (u0 u1 u2 u3 : Option V) (a b : Int) (H : Hp) (Q : VK), Q (.int (g a b)) H → te [u0, u1, u2, u3, some (.int a), some (.int b)] H Q)
    (rg : ∀ (n : Nat) (a b : Int), 0 ≤ a ∧ a < ((2 ^ n : Nat) : Int) → 0 ≤ b ∧ b < ((2 ^ n : Nat) : Int) → 0 ≤ g a b ∧ g a b < ((2 ^ n : Nat) : Int))
    (no : ∀ n ns ms, (isFam n ns && isFam n ms) = false → f n ns ms = [-22])
    (yes : ∀ n ns ms ks, isFam n ns = true → isFam n ms = true → (∀ z ∈ ns, 0 ≤ z) → (∀ z ∈ ms, 0 ≤ z) → ks.Pairwise (· < ·) → (∀ k, k ∈ ks ↔ k ∈ pairs g ns ms) → f n ns ms = tel ks)
    (h : sp2 f K vs H Q E) : t_pairs K (spIs K) (spCnt K) te { nx := fun _ H' => Q .non H', rt := Q } (start N vs) H := by
  obtain ⟨n, a, b, ns, ms, rfl, n0, hS, hT, len1, len2, x0, y0, k⟩ := h
  obtain ⟨N0, N1, N2, N3, N4, N5, rfl⟩ : ∃ a b c d e f, N = [a, b, c, d, e, f] := by
    match N, hN with
    | [a, b, c, d, e, f], _ => exact ⟨a, b, c, d, e, f, rfl⟩
  refine pure_two (r := [none, none, none]) n0 hS hT x0 y0 (fun e p hp => ?_) (fun e1 e2 => ?_)
  · refine k _ p ?_
    rw [no _ _ _ e, upd_same]
    rfl
  have line : sizeLine = 16777216 := sizeLine_eq
  have xl := isFam_lt e1 x0
  have yl := isFam_lt e2 y0
  have n5 := isFam_n e1
  -- found = []
  refine ⟨Nat.zero_le _, fun l nl => ?_⟩
  have s0 : Same H (upd H l (.lst [])) := fun c o e => by rw [upd_ne (ne_of_none e nl)]; exact e
  refine ⟨_, rfl, a, rfl, ⟨_, s0.seq hS⟩, for_list (K := K) (a := a) (xs := ns.map V.int) (fun i σ H' => Same H H' ∧ ∃ (u v : Option V), σ = [some (.int n), some (.ref a), some (.ref b), some (.ref l), u, v] ∧ H' l = some (.lst ((pairs g (ns.take i) ms).map V.int)))
    ⟨s0, none, none, rfl, upd_same⟩ (fun i σ H' _ ⟨s1, _⟩ => s1.seq hS) ?_ ?_⟩
  · rintro i y σ H1 hi ⟨s1, u, v, rfl, h1⟩
    obtain ⟨z, hz, rfl⟩ := int_item hi
    have hi2 : i < ns.length := (List.getElem?_eq_some_iff.mp hz).1
    refine ⟨_, rfl, b, rfl, ⟨_, s1.seq hT⟩, for_list (K := K) (a := b) (xs := ms.map V.int) (fun j σ H' => Same H H' ∧ ∃ (v : Option V), σ = [some (.int n), some (.ref a), some (.ref b), some (.ref l), some (.int z), v] ∧
      H' l = some (.lst ((pairs g (ns.take i) ms ++ (ms.take j).map (g z)).map V.int))) ⟨s1, v, rfl, by rw [List.take_zero, List.map_nil, List.append_nil]; exact h1⟩ (fun i σ H' _ ⟨s2, _⟩ => s2.seq hT) ?_ ?_⟩
    · rintro j y σ H2 hj ⟨s2, v, rfl, h2⟩
      obtain ⟨c, hc, rfl⟩ := int_item hj
      have hj2 : j < ms.length := (List.getElem?_eq_some_iff.mp hc).1
      refine ⟨_, rfl, .inl ⟨rfl, _, SqL.of h2⟩, hte _ _ _ _ _ _ _ _ ⟨l, _, _, rfl, rfl, h2, ?_, ?_⟩⟩
      · have q : (pairs g (ns.take i) ms ++ (ms.take j).map (g z)).length ≤ 40 * 40 + 40 := by
          rw [List.length_append, List.length_map, pairs_length]
          have h3 : (ns.take i).length * ms.length ≤ 40 * 40 := Nat.mul_le_mul (by rw [List.length_take]; omega) len2
          have h4 : (ms.take j).length ≤ 40 := by rw [List.length_take]; omega
          omega
        rw [List.length_map]
        omega
      · refine ⟨fun c o e => ?_, some (.int c), rfl, ?_⟩
        · rw [upd_ne (ne_of_none e nl)]
          exact s2 _ _ e
        · rw [upd_same, take_more hc, List.map_append, List.map_append, List.map_append, List.map_append, List.append_assoc]
          rfl
    · rintro σ H2 ⟨s2, v, rfl, h2⟩
      refine ⟨s2, some (.int z), v, rfl, ?_⟩
      rw [h2, List.length_map, List.take_length, take_more hz, pairs_snoc]
  · rintro σ H1 ⟨s1, u, v, rfl, h1⟩
    rw [List.length_map, List.take_length] at h1
    refine ⟨_, rfl, l, _, rfl, h1, ?_, fun z hz => ?_, fun H' p out s2 np up mem hp => ?_⟩
    · rw [pairs_length]
      exact Nat.le_trans (Nat.mul_le_mul len1 len2) (by decide)
    · obtain ⟨c, hc, d, hd, e⟩ := mem_pairs.mp hz
      have q := rg n.toNat c d (xl c hc) (yl d hd)
      have q2 := pow_le n5.2
      rw [e]
      omega
    · refine k H' p ?_
      rw [hp, yes n ns ms out e1 e2 x0 y0 up mem]
end

/-! ### the three calls of that kind -/
def rOrI : R2 := rI0 fun i j => .int (Builtin.bitOr i j)
def rAndI : R2 := rI0 fun i j => .int (Builtin.bitAnd i j)
def rNotI : V → Hp → VK → Prop := rU fun i => .int (Builtin.bitNot i)
def te_join : TE := tOp rOrI (tVar 4) (tVar 5)
def te_meet : TE := tOp rAndI (tVar 4) (tVar 5)
def te_less : TE := tOp rAndI (tVar 4) (tUn rNotI (tVar 5))
def gLess (a b : Int) : Int := Builtin.bitAnd a (Builtin.bitNot b)
theorem hte_join (u0 u1 u2 u3 : Option V) (a b : Int) (H : Hp) (Q : VK) (h : Q (.int (Builtin.bitOr a b)) H) : te_join [u0, u1, u2, u3, some (.int a), some (.int b)] H Q := ⟨_, rfl, _, rfl, _, _, rfl, rfl, h⟩
theorem hte_meet (u0 u1 u2 u3 : Option V) (a b : Int) (H : Hp) (Q : VK) (h : Q (.int (Builtin.bitAnd a b)) H) : te_meet [u0, u1, u2, u3, some (.int a), some (.int b)] H Q := ⟨_, rfl, _, rfl, _, _, rfl, rfl, h⟩
theorem hte_less (u0 u1 u2 u3 : Option V) (a b : Int) (H : Hp) (Q : VK) (h : Q (.int (gLess a b)) H) : te_less [u0, u1, u2, u3, some (.int a), some (.int b)] H Q := ⟨_, rfl, _, rfl, _, rfl, _, _, rfl, rfl, h⟩
theorem or_lt {n a b : Nat} (ha : a < 2 ^ n) (hb : b < 2 ^ n) : Nat.lor a b < 2 ^ n := Nat.or_lt_two_pow ha hb
theorem and_lt {n a b : Nat} (hb : b < 2 ^ n) : Nat.land a b < 2 ^ n := Nat.and_lt_two_pow a hb
theorem rg_join (n : Nat) (a b : Int) (ha : 0 ≤ a ∧ a < ((2 ^ n : Nat) : Int)) (hb : 0 ≤ b ∧ b < ((2 ^ n : Nat) : Int)) : 0 ≤ Builtin.bitOr a b ∧ Builtin.bitOr a b < ((2 ^ n : Nat) : Int) := by
  have q := or_lt (n := n) (a := a.toNat) (b := b.toNat) (by omega) (by omega)
  rw [or_is ha.1 hb.1]
  omega
theorem rg_meet (n : Nat) (a b : Int) (ha : 0 ≤ a ∧ a < ((2 ^ n : Nat) : Int)) (hb : 0 ≤ b ∧ b < ((2 ^ n : Nat) : Int)) : 0 ≤ Builtin.bitAnd a b ∧ Builtin.bitAnd a b < ((2 ^ n : Nat) : Int) := by
  have q := and_lt (n := n) (a := a.toNat) (b := b.toNat) (by omega)
  rw [and_is ha.1 hb.1]
  omega
theorem rg_less (n : Nat) (a b : Int) (ha : 0 ≤ a ∧ a < ((2 ^ n : Nat) : Int)) (hb : 0 ≤ b ∧ b < ((2 ^ n : Nat) : Int)) : 0 ≤ gLess a b ∧ gLess a b < ((2 ^ n : Nat) : Int) := by
  unfold gLess
  rw [andnot_is ha.1 hb.1]
  omega
theorem no_join (n : Int) (ns ms : List Int) (e : (isFam n ns && isFam n ms) = false) : PyKzx1.join n ns ms = [-22] := two_no n ns ms e
theorem no_meet (n : Int) (ns ms : List Int) (e : (isFam n ns && isFam n ms) = false) : PyKzx1.meet n ns ms = [-22] := two_no n ns ms e
theorem no_less (n : Int) (ns ms : List Int) (e : (isFam n ns && isFam n ms) = false) : PyKzx1.less n ns ms = [-22] := two_no n ns ms e
theorem yes_join (n : Int) (ns ms ks : List Int) (e1 : isFam n ns = true) (e2 : isFam n ms = true) (x0 : ∀ z ∈ ns, 0 ≤ z) (y0 : ∀ z ∈ ms, 0 ≤ z) (up : ks.Pairwise (· < ·)) (mem : ∀ k, k ∈ ks ↔ k ∈ pairs Builtin.bitOr ns ms) :
    PyKzx1.join n ns ms = tel ks := by
  rw [join_is, show Kzx1.answer (.join n.toNat (natsOf ns) (natsOf ms)) = Kzx1.tell (Kzx1.join n.toNat (natsOf ns) (natsOf ms)) from two_yes (h := fun _ => Kzx1.tell (Kzx1.join n.toNat (natsOf ns) (natsOf ms))) n ns ms e1 e2, tell_is,
    pairs_family (f := Nat.lor) (isFam_lt e1 x0) (isFam_lt e2 y0) (fun a b ha hb => or_is ha hb) (fun a b ha hb => or_lt ha hb) up mem]
  rfl
theorem yes_meet (n : Int) (ns ms ks : List Int) (e1 : isFam n ns = true) (e2 : isFam n ms = true) (x0 : ∀ z ∈ ns, 0 ≤ z) (y0 : ∀ z ∈ ms, 0 ≤ z) (up : ks.Pairwise (· < ·)) (mem : ∀ k, k ∈ ks ↔ k ∈ pairs Builtin.bitAnd ns ms) :
    PyKzx1.meet n ns ms = tel ks := by
  rw [meet_is, show Kzx1.answer (.meet n.toNat (natsOf ns) (natsOf ms)) = Kzx1.tell (Kzx1.meet n.toNat (natsOf ns) (natsOf ms)) from two_yes (h := fun _ => Kzx1.tell (Kzx1.meet n.toNat (natsOf ns) (natsOf ms))) n ns ms e1 e2, tell_is,
    pairs_family (f := Nat.land) (isFam_lt e1 x0) (isFam_lt e2 y0) (fun a b ha hb => and_is ha hb) (fun a b ha hb => and_lt hb) up mem]
  rfl
theorem yes_less (n : Int) (ns ms ks : List Int) (e1 : isFam n ns = true) (e2 : isFam n ms = true) (x0 : ∀ z ∈ ns, 0 ≤ z) (y0 : ∀ z ∈ ms, 0 ≤ z) (up : ks.Pairwise (· < ·)) (mem : ∀ k, k ∈ ks ↔ k ∈ pairs gLess ns ms) :
    PyKzx1.less n ns ms = tel ks := by
  rw [less_is, show Kzx1.answer (.less n.toNat (natsOf ns) (natsOf ms)) = Kzx1.tell (Kzx1.less n.toNat (natsOf ns) (natsOf ms)) from two_yes (h := fun _ => Kzx1.tell (Kzx1.less n.toNat (natsOf ns) (natsOf ms))) n ns ms e1 e2, tell_is,
    pairs_family (f := fun a b => a - Nat.land a b) (isFam_lt e1 x0) (isFam_lt e2 y0) (fun a b ha hb => andnot_is ha hb) (fun a b ha hb => by omega) up mem]
  rfl

/-! ### one family, set by set -/
def pickd (q : Nat → Bool) (i : Nat) : List Int := ((List.range i).filter q).map fun (m : Nat) => (m : Int)
theorem pickd_more (q : Nat → Bool) (i : Nat) : pickd q (i + 1) = if q i = true then pickd q i ++ [(i : Int)] else pickd q i := by
  unfold pickd
  rw [List.range_succ, List.filter_append, List.map_append]
  cases h : q i with
  | true => simp [h]
  | false => simp [h]
theorem pickd_len (q : Nat → Bool) (i : Nat) : (pickd q i).length ≤ i := by
  unfold pickd
  rw [List.length_map]
  exact Nat.le_trans (List.length_filter_le _ _) (by rw [List.length_range]; exact Nat.le_refl _)
theorem mem_pickd {q : Nat → Bool} {i : Nat} {k : Int} : k ∈ pickd q i ↔ ∃ a : Nat, a < i ∧ q a = true ∧ k = (a : Int) := by
  unfold pickd
  rw [List.mem_map]
  constructor
  · rintro ⟨a, h, e⟩
    rw [List.mem_filter, List.mem_range] at h
    exact ⟨a, h.1, h.2, e.symm⟩
  · rintro ⟨a, h1, h2, e⟩
    exact ⟨a, by rw [List.mem_filter, List.mem_range]; exact ⟨h1, h2⟩, e.symm⟩
/-- x is no family: the refusal. Slots: n, x, .. -/
def t_one (spI : Sp) : TS := tIfS (tNot (tB (tCall spI [] E0 (tCons (tVar 0) (tCons (tVar 1) tNil))))) (tRet (tLst (tCons (tC (.int (-22))) tNil))) tNext
/-- slots: n, x, found, b; a -/
def t_pick (K : PySem.W.Frag) (spI spC : Sp) (te : TE) : TS :=
  tSeq (t_one spI)
  (tSeq (tAsg (tLst tNil) (gName 2))
  (tSeq (tFor (iRng1 (tCons (tOp rShl (tC (.int 1)) (tVar 0)) tNil)) (gName 3)
    (tIfS (tB (tCB (rAny K) (tCons (tLc (iList K (tVar 1)) (gName 4) tYes te [4]) tNil))) (tDrop (tBM K "list" rAppend (tVar 2) (tCons (tVar 3) tNil))) tNext))
  (tRet (tCall spC [] E0 (tCons (tVar 2) tNil)))))
section
variable {K : PySem.W.Frag}
theorem pure_one {D : Ends} {n : Int} {a : Addr} {ns : List Int} {r : List (Option V)} {H : Hp} (n0 : 0 ≤ n) (hS : SqL K H a (ns.map V.int)) (x0 : ∀ z ∈ ns, 0 ≤ z)
    (no : isFam n ns = false → ∀ p, H p = none → D.rt (.ref p) (upd H p (.lst [.int (-22)])))
    (yes : isFam n ns = true → D.nx (some (.int n) :: some (.ref a) :: r) H) : t_one (spIs K) D (some (.int n) :: some (.ref a) :: r) H := by
  have line : 1 ≤ sizeLine := by rw [sizeLine_eq]; decide
  refine ⟨_, rfl, _, rfl, n, a, ns, rfl, n0, hS, x0, _, rfl, ?_⟩
  cases e1 : isFam n ns with
  | false => exact iteT ⟨line, fun p hp => no e1 p hp⟩
  | true => exact iteF (yes e1)
theorem pure_pick {f : Int → List Int → List Int} {p : Int → Int → Bool} {te : TE} {N : List Str} (hN : N.length = 5) {vs : List V} {H : Hp} {Q : VK} {E : XK}
    (hte : ∀ (u0 u1 u2 : Option V) (a b : Int) (H : Hp) (Q : VK), Q (.bl (p a b)) H → te [u0, u1, u2, some (.int b), some (.int a)] H Q)
    (no : ∀ n ns, isFam n ns = false → f n ns = [-22])
    (yes : ∀ n ns ks, isFam n ns = true → (∀ z ∈ ns, 0 ≤ z) → ks.Pairwise (· < ·) → (∀ k, k ∈ ks ↔ k ∈ pickd (fun m => ns.any fun a => p a (m : Int)) (2 ^ n.toNat)) → f n ns = tel ks)
    (h : sp1 f K vs H Q E) : t_pick K (spIs K) (spCnt K) te { nx := fun _ H' => Q .non H', rt := Q } (start N vs) H := by
  obtain ⟨n, a, ns, rfl, n0, hS, len1, x0, k⟩ := h
  obtain ⟨N0, N1, N2, N3, N4, rfl⟩ : ∃ a b c d e, N = [a, b, c, d, e] := by
    match N, hN with
    | [a, b, c, d, e], _ => exact ⟨a, b, c, d, e, rfl⟩
  refine pure_one (r := [none, none, none]) n0 hS x0 (fun e p hp => ?_) (fun e1 => ?_)
  · refine k _ p (same_upd hp) ?_
    rw [no _ _ e, upd_same]
    rfl
  have line : sizeLine = 16777216 := sizeLine_eq
  have n5 := isFam_n e1
  have p32 := pow_le n5.2
  have pc := pow_cast n.toNat
  have turns : ((1 : Int) * 2 ^ n.toNat).toNat = 2 ^ n.toNat := by rw [pc]; exact Int.toNat_natCast _
  refine ⟨Nat.zero_le _, fun l nl => ?_⟩
  have s0 : Same H (upd H l (.lst [])) := fun c o e => by rw [upd_ne (ne_of_none e nl)]; exact e
  refine ⟨_, rfl, _, _, rfl, rfl, ⟨n0, by omega, by decide⟩, _, rfl, by omega, by omega, ?_⟩
  rw [turns]
  refine for_range (lo := 0) (n := 2 ^ n.toNat) (fun i σ H' => Same H H' ∧ ∃ (u v : Option V), σ = [some (.int n), some (.ref a), some (.ref l), u, v] ∧ H' l = some (.lst ((pickd (fun m => ns.any fun a => p a (m : Int)) i).map V.int)))
    ⟨s0, none, none, rfl, upd_same⟩ ?_ ?_
  · rintro i σ H1 hi ⟨s1, u, v, rfl, h1⟩
    rw [Int.zero_add]
    refine ⟨_, rfl, a, rfl, ⟨_, s1.seq hS⟩, fun D nD => ?_⟩
    have sD : Same H1 (upd H1 D (.lst [])) := fun c o e => by rw [upd_ne (ne_of_none e nD)]; exact e
    refine lc_list (K := K) (a := a) (xs := ns.map V.int) (fun j H' => Same H1 H' ∧ H' D = some (.lst (((ns.take j).map fun a => p a (i : Int)).map V.bl))) ⟨sD, upd_same⟩ (fun j H' _ ⟨s2, _⟩ => s2.seq (s1.seq hS)) ?_ ?_
    · rintro j y H2 hj ⟨s2, h2⟩
      obtain ⟨z, hz, rfl⟩ := int_item hj
      refine ⟨rfl, ?_⟩
      dsimp only [tYes]
      rw [if_pos rfl]
      refine hte _ _ _ _ _ _ _ ⟨_, h2, ?_, fun c o e => ?_, ?_⟩
      · rw [List.length_map, List.length_map, List.length_take]
        omega
      · rw [upd_ne (ne_of_none e nD)]
        exact s2 _ _ e
      · rw [upd_same, take_more hz, List.map_append, List.map_append]
        rfl
    · rintro H2 ⟨s2, h2⟩
      rw [List.length_map, List.take_length] at h2
      refine ⟨D, _, rfl, SqL.of h2, _, rfl, ?_⟩
      have e : ((ns.map fun a => p a (i : Int)).any id) = (ns.any fun a => p a (i : Int)) := by rw [List.any_map]; rfl
      rw [e]
      cases c : (ns.any fun a => p a (i : Int)) with
      | true =>
        refine iteT ⟨_, rfl, .inl ⟨rfl, _, SqL.of (s2 _ _ h1)⟩, _, rfl, l, _, _, rfl, rfl, s2 _ _ h1, ?_, fun c o e => ?_, some (.int i), v, rfl, ?_⟩
        · have q := pickd_len (fun m => ns.any fun a => p a (m : Int)) i
          rw [List.length_map]
          omega
        · rw [upd_ne (ne_of_none e nl)]
          exact s2 _ _ (s1 _ _ e)
        · rw [upd_same, pickd_more, if_pos c, List.map_append]
          rfl
      | false =>
        refine iteF ⟨s1.trans s2, some (.int i), v, rfl, ?_⟩
        rw [pickd_more, if_neg (by rw [c]; exact Bool.false_ne_true)]
        exact s2 _ _ h1
  · rintro σ H1 ⟨s1, u, v, rfl, h1⟩
    refine ⟨_, rfl, l, _, rfl, h1, ?_, fun z hz => ?_, fun H' q out s2 nq up mem hq => ?_⟩
    · have q := pickd_len (fun m => ns.any fun a => p a (m : Int)) (2 ^ n.toNat)
      omega
    · obtain ⟨c, hc, _, e⟩ := mem_pickd.mp hz
      omega
    · refine k H' q (s1.trans s2) ?_
      rw [hq, yes n ns out e1 x0 up mem]
end
/-- a & b == b, a & b == a -/
def te_below : TE := tOp rEq (tOp rAndI (tVar 4) (tVar 3)) (tVar 3)
def pBelow (a b : Int) : Bool := decide (V.int (Builtin.bitAnd a b) = V.int b)
theorem hte_below (u0 u1 u2 : Option V) (a b : Int) (H : Hp) (Q : VK) (h : Q (.bl (pBelow a b)) H) : te_below [u0, u1, u2, some (.int b), some (.int a)] H Q := ⟨_, rfl, _, rfl, _, _, rfl, rfl, _, rfl, rfl, h⟩
theorem no_below (n : Int) (ns : List Int) (e : isFam n ns = false) : PyKzx1.below n ns = [-22] := one_no n ns e
theorem any_nats {ns : List Int} {p : Int → Bool} {q : Nat → Bool} (x0 : ∀ z ∈ ns, 0 ≤ z) (h : ∀ z : Int, 0 ≤ z → p z = q z.toNat) : ns.any p = (natsOf ns).any q := by
  unfold natsOf
  rw [List.any_map]
  induction ns with
  | nil => rfl
  | cons a r ih =>
    rw [List.any_cons, List.any_cons, ih fun z hz => x0 z (List.mem_cons_of_mem _ hz), h a (x0 a List.mem_cons_self)]
    rfl
theorem pBelow_is {a : Int} {m : Nat} (ha : 0 ≤ a) : pBelow a (m : Int) = Kzx1.within m a.toNat := by
  unfold pBelow Kzx1.within
  rw [and_is ha (Int.natCast_nonneg m), Int.toNat_natCast]
  have c : Nat.land m a.toNat = Nat.land a.toNat m := Nat.and_comm _ _
  rw [c]
  apply Bool.eq_iff_iff.mpr
  rw [decide_eq_true_eq, beq_iff_eq, V.int.injEq]
  omega
theorem yes_below (n : Int) (ns ks : List Int) (e1 : isFam n ns = true) (x0 : ∀ z ∈ ns, 0 ≤ z) (up : ks.Pairwise (· < ·)) (mem : ∀ k, k ∈ ks ↔ k ∈ pickd (fun m => ns.any fun a => pBelow a (m : Int)) (2 ^ n.toNat)) :
    PyKzx1.below n ns = tel ks := by
  rw [below_is, show Kzx1.answer (.below n.toNat (natsOf ns)) = Kzx1.tell (Kzx1.below n.toNat (natsOf ns)) from one_yes (h := fun _ => Kzx1.tell (Kzx1.below n.toNat (natsOf ns))) n ns e1, tell_is]
  have q : ks = Kzx1.ints (Kzx1.below n.toNat (natsOf ns)) := by
    refine told_sets up fun k => ?_
    rw [mem, mem_pickd]
    refine ⟨fun ⟨a, h1, h2, e⟩ => ⟨a, h1, ?_, e⟩, fun ⟨a, h1, h2, e⟩ => ⟨a, h1, ?_, e⟩⟩
    · rw [← h2]
      exact (any_nats x0 fun z hz => pBelow_is hz).symm
    · rw [← h2]
      exact any_nats x0 fun z hz => pBelow_is hz
  rw [q]

/-! ### the request -/
section
open PySem.W (WData Codec)
variable {K : PySem.W.Frag} {H : Hp}
theorem arg_int {xs : List V} {i : Int} {ds : List WData} (h : DwAll K H xs (.int i :: ds)) : ∃ r, xs = .int i :: r ∧ DwAll K H r ds := by
  cases h with
  | cons h1 h2 => cases h1; exact ⟨_, rfl, h2⟩
theorem arg_lst {xs : List V} {ns : List Int} {ds : List WData} (h : DwAll K H xs (.list (ns.map WData.int) :: ds)) : ∃ a r, xs = .ref a :: r ∧ SqL K H a (ns.map V.int) ∧ DwAll K H r ds := by
  cases h with
  | cons h1 h2 =>
    cases h1 with
    | lst hs ha =>
      have e := ints_dw ns _ ha
      subst e
      exact ⟨_, _, rfl, hs, h2⟩
theorem arg_nil {xs : List V} (h : DwAll K H xs []) : xs = [] := by cases h; rfl
def big : Int := Int.ofNat 4294967295
theorem in_lst {ns : List Int} (h : (Codec.inLen 0 40 ns && ns.all (Codec.inInt (Int.ofNat 0) big)) = true) : ns.length ≤ 40 ∧ ∀ z ∈ ns, 0 ≤ z := by
  rw [Bool.and_eq_true, List.all_eq_true] at h
  refine ⟨(Codec.inNat_iff.mp h.1).2, fun z hz => ?_⟩
  have q := h.2 z hz
  unfold Codec.inInt at q
  rw [Bool.and_eq_true, decide_eq_true_eq] at q
  exact q.1
theorem in_int {n : Int} (h : Codec.inInt (Int.ofNat 0) big n = true) : 0 ≤ n := by
  unfold Codec.inInt at h
  simp only [Bool.and_eq_true, decide_eq_true_eq] at h
  exact h.1
/-- a request of a number and two lists -/
theorem req2 {f : Int → List Int → List Int → List Int} {xs : List V} {n : Int} {ns ms : List Int} (hx : DwAll K H xs [.int n, .list (ns.map WData.int), .list (ms.map WData.int)])
    (hw : (Codec.inInt (Int.ofNat 0) big n && ((Codec.inLen 0 40 ns && ns.all (Codec.inInt (Int.ofNat 0) big)) && ((Codec.inLen 0 40 ms && ms.all (Codec.inInt (Int.ofNat 0) big)) && true))) = true) {E : XK} :
    sp2 f K xs H (fun v H' => Dw K H' v (.list ((f n ns ms).map WData.int))) E := by
  obtain ⟨r, rfl, hx1⟩ := arg_int hx
  obtain ⟨a, r, rfl, hS, hx2⟩ := arg_lst hx1
  obtain ⟨b, r, rfl, hT, hx3⟩ := arg_lst hx2
  have e := arg_nil hx3
  subst e
  obtain ⟨w1, w2⟩ := Bool.and_eq_true_iff.mp hw
  obtain ⟨w3, w4⟩ := Bool.and_eq_true_iff.mp w2
  have h1 := in_lst w3
  have h2 := in_lst (Bool.and_eq_true_iff.mp w4).1
  exact ⟨n, a, b, ns, ms, rfl, in_int w1, hS, hT, h1.1, h2.1, h1.2, h2.2, fun H' p hp => .lst (SqL.of hp) (dw_ints _)⟩
/-- a request of a number and one list -/
theorem req1 {f : Int → List Int → List Int} {xs : List V} {n : Int} {ns : List Int} (hx : DwAll K H xs [.int n, .list (ns.map WData.int)])
    (hw : (Codec.inInt (Int.ofNat 0) big n && ((Codec.inLen 0 40 ns && ns.all (Codec.inInt (Int.ofNat 0) big)) && true)) = true) {E : XK} :
    sp1 f K xs H (fun v H' => Dw K H' v (.list ((f n ns).map WData.int))) E := by
  obtain ⟨r, rfl, hx1⟩ := arg_int hx
  obtain ⟨a, r, rfl, hS, hx2⟩ := arg_lst hx1
  have e := arg_nil hx2
  subst e
  obtain ⟨w1, w2⟩ := Bool.and_eq_true_iff.mp hw
  have h1 := in_lst (Bool.and_eq_true_iff.mp w2).1
  exact ⟨n, a, ns, rfl, in_int w1, hS, h1.1, h1.2, fun H' p _ hp => .lst (SqL.of hp) (dw_ints _)⟩
end
end Fam

set_option Elab.async false
set_option maxRecDepth 100000
set_option maxHeartbeats 2000000
/-! More of the defs' readings: above, kind, both, apart. -/
namespace Fam
open PySem PySem.Spec PyProof.Rows L2
open Kzx1Neutral (natsOf)
/-! ### above -/
def te_above : TE := tOp rEq (tOp rAndI (tVar 4) (tVar 3)) (tVar 4)
def pAbove (a b : Int) : Bool := decide (V.int (Builtin.bitAnd a b) = V.int a)
theorem hte_above (u0 u1 u2 : Option V) (a b : Int) (H : Hp) (Q : VK) (h : Q (.bl (pAbove a b)) H) : te_above [u0, u1, u2, some (.int b), some (.int a)] H Q := ⟨_, rfl, _, rfl, _, _, rfl, rfl, _, rfl, rfl, h⟩
theorem no_above (n : Int) (ns : List Int) (e : isFam n ns = false) : PyKzx1.above n ns = [-22] := one_no n ns e
theorem pAbove_is {a : Int} {m : Nat} (ha : 0 ≤ a) : pAbove a (m : Int) = Kzx1.within a.toNat m := by
  unfold pAbove Kzx1.within
  rw [and_is ha (Int.natCast_nonneg m), Int.toNat_natCast]
  apply Bool.eq_iff_iff.mpr
  rw [decide_eq_true_eq, beq_iff_eq, V.int.injEq]
  omega
theorem yes_above (n : Int) (ns ks : List Int) (e1 : isFam n ns = true) (x0 : ∀ z ∈ ns, 0 ≤ z) (up : ks.Pairwise (· < ·)) (mem : ∀ k, k ∈ ks ↔ k ∈ pickd (fun m => ns.any fun a => pAbove a (m : Int)) (2 ^ n.toNat)) :
    PyKzx1.above n ns = tel ks := by
  rw [above_yes e1]
  have q : ks = Kzx1.ints (Kzx1.above n.toNat (natsOf ns)) := by
    refine told_sets up fun k => ?_
    rw [mem, mem_pickd]
    refine ⟨fun ⟨a, h1, h2, e⟩ => ⟨a, h1, ?_, e⟩, fun ⟨a, h1, h2, e⟩ => ⟨a, h1, ?_, e⟩⟩
    · rw [← h2]
      exact (any_nats (p := fun z => pAbove z (a : Int)) (q := fun z => Kzx1.within z a) x0 fun z hz => pAbove_is hz).symm
    · rw [← h2]
      exact any_nats (p := fun z => pAbove z (a : Int)) (q := fun z => Kzx1.within z a) x0 fun z hz => pAbove_is hz
  rw [q]

/-! ### lists of ints: ==, in -/
theorem dp_ints {K : PySem.W.Frag} {H : Hp} : ∀ ns : List Int, DpAll K H (ns.map V.int) (ns.map PyData.int)
  | [] => .nil
  | a :: r => .cons (.int a) (dp_ints r)
theorem lay_ints : ∀ ns : List Int, PyData.canLayAll0 (ns.map PyData.int) = true
  | [] => by simp [PyData.canLayAll0]
  | a :: r => by simp [PyData.canLayAll0, PyData.canLay0, lay_ints r]
theorem depth_ints : ∀ ns : List Int, PyData.depthAll (ns.map PyData.int) = 0
  | [] => by simp [PyData.depthAll]
  | a :: r => by simp [PyData.depthAll, PyData.depth, depth_ints r]
theorem shaped_ints (ns : List Int) : SeqAt.shaped (.list (ns.map PyData.int)) = true := by
  unfold SeqAt.shaped
  simp [PyData.canLay0, lay_ints, PyData.depth, depth_ints]
theorem in_ints {z : Int} {ms : List Int} : inV (.int z) (ms.map V.int) = decide (z ∈ ms) := by
  unfold inV
  rw [List.any_map]
  apply Bool.eq_iff_iff.mpr
  rw [List.any_eq_true, decide_eq_true_eq]
  constructor
  · rintro ⟨y, hy, e⟩
    have e2 : y = z := eq_of_beq e
    rw [← e2]
    exact hy
  · intro h
    exact ⟨z, h, beq_self_eq_true z⟩
theorem flat_ints (ms : List Int) : (ms.map V.int).all flatV = true := by
  rw [List.all_map, List.all_eq_true]
  intro z _
  rfl
theorem cut_tail (l : List Int) : cutV ((tel l).map V.int) (some 1) none = l.map V.int := by
  unfold cutV tel
  rw [show (some (1 : Int)) = some ((1 : Nat) : Int) from rfl, HT.sIx_nat, HT.sIx_none]
  rw [List.map_cons, List.length_cons, Nat.min_eq_left (by omega), List.drop_succ_cons, List.drop_zero, List.take_of_length_le (by omega)]

/-! ### kind -/
/-- f(n, x)[1:] == x -/
def tSame (K : PySem.W.Frag) (sp : Sp) : TT := tTest (tOp (rEqD K) (tSl (rSlL K) (tCall sp [] E0 (tCons (tVar 0) (tCons (tVar 1) tNil))) (tPart (tC (.int 1))) tNoPart) (tVar 1))
/-- slots: n, x, told -/
def t_kind (K : PySem.W.Frag) (spI spA spB : Sp) : TS :=
  tSeq (t_one spI)
  (tSeq (tAsg (tC (.int 0)) (gName 2))
  (tSeq (tIfS (tSame K spA) (tAug 2 (tC (.int 1)) (ipI fun i j => i + j)) tNext)
  (tSeq (tIfS (tSame K spB) (tAug 2 (tC (.int 2)) (ipI fun i j => i + j)) tNext)
  (tRet (tLst (tCons (tVar 2) tNil))))))
section
variable {K : PySem.W.Frag}
theorem pure_same {f : Int → List Int → List Int} {n : Int} {a : Addr} {ns l : List Int} {r : List (Option V)} {H : Hp} {Q : Bool → Hp → Prop} (n0 : 0 ≤ n) (hS : SqL K H a (ns.map V.int)) (len : ns.length ≤ 40) (x0 : ∀ z ∈ ns, 0 ≤ z) (hf : f n ns = tel l)
    (k : ∀ H', Same H H' → Q (decide (l = ns)) H') : tSame K (sp1 f K) (some (.int n) :: some (.ref a) :: r) H Q := by
  refine ⟨_, rfl, _, rfl, n, a, ns, rfl, n0, hS, len, x0, fun H' p s1 hp => ?_⟩
  rw [hf] at hp
  refine ⟨1, rfl, p, _, rfl, SqL.of hp, fun q nq => ?_⟩
  rw [cut_tail]
  have s2 : Same H (upd H' q (.lst (l.map V.int))) := s1.trans (same_upd nq)
  refine ⟨_, rfl, .list (l.map PyData.int), .list (ns.map PyData.int), .lst (SqL.of upd_same) (dp_ints l), .lst (s2.seq hS) (dp_ints ns), shaped_ints l, shaped_ints ns, _, rfl, ?_⟩
  have e : PyData.eqv (.list (l.map PyData.int)) (.list (ns.map PyData.int)) = decide (l = ns) := by rw [PyData.eqv, PySem.W.ked_eqvAll]
  rw [e]
  exact k _ s2
theorem pure_kind {N : List Str} (hN : N.length = 3) {vs : List V} {H : Hp} {Q : VK} {E : XK} (h : sp1 PyKzx1.kind K vs H Q E) :
    t_kind K (spIs K) (sp1 PyKzx1.above K) (sp1 PyKzx1.below K) { nx := fun _ H' => Q .non H', rt := Q } (start N vs) H := by
  obtain ⟨n, a, ns, rfl, n0, hS, len1, x0, k⟩ := h
  obtain ⟨N0, N1, N2, rfl⟩ : ∃ a b c, N = [a, b, c] := by
    match N, hN with
    | [a, b, c], _ => exact ⟨a, b, c, rfl⟩
  refine pure_one (r := [none]) n0 hS x0 (fun e p hp => ?_) (fun e1 => ?_)
  · refine k _ p (same_upd hp) ?_
    rw [no_kind _ _ e, upd_same]
    rfl
  have line : 1 ≤ sizeLine := by rw [sizeLine_eq]; decide
  have out : ∀ (H' : Hp) (p : Addr) (v : Int), Same H H' → H' p = none → PyKzx1.kind n ns = [v] → Q (.ref p) (upd H' p (.lst [.int v])) := fun H' p v s np e => by
    refine k _ p (s.trans (same_upd np)) ?_
    rw [upd_same, e]
    rfl
  rw [kind_yes e1 x0] at out
  refine pure_same (r := [some (.int 0)]) n0 hS len1 x0 (above_yes e1) fun H1 s1 => ?_
  cases c1 : decide (Kzx1.ints (Kzx1.above n.toNat (natsOf ns)) = ns) with
  | true =>
    refine iteT ⟨_, rfl, _, _, rfl, rfl, ?_⟩
    refine pure_same (r := [some (.int (0 + 1))]) n0 (s1.seq hS) len1 x0 (below_yes e1) fun H2 s2 => ?_
    cases c2 : decide (Kzx1.ints (Kzx1.below n.toNat (natsOf ns)) = ns) with
    | true => exact iteT ⟨_, rfl, _, _, rfl, rfl, _, rfl, line, fun p np => out H2 p _ (s1.trans s2) np (by rw [c1, c2]; rfl)⟩
    | false => exact iteF ⟨_, rfl, line, fun p np => out H2 p _ (s1.trans s2) np (by rw [c1, c2]; rfl)⟩
  | false =>
    refine iteF ?_
    refine pure_same (r := [some (.int 0)]) n0 (s1.seq hS) len1 x0 (below_yes e1) fun H2 s2 => ?_
    cases c2 : decide (Kzx1.ints (Kzx1.below n.toNat (natsOf ns)) = ns) with
    | true => exact iteT ⟨_, rfl, _, _, rfl, rfl, _, rfl, line, fun p np => out H2 p _ (s1.trans s2) np (by rw [c1, c2]; rfl)⟩
    | false => exact iteF ⟨_, rfl, line, fun p np => out H2 p _ (s1.trans s2) np (by rw [c1, c2]; rfl)⟩

/-! ### both -/
/-- slots: n, x, y; a -/
def t_both (K : PySem.W.Frag) (spI : Sp) : TS :=
  tSeq (t_two spI)
  (tRet (tLst (tCons (tCB (rLen K) (tCons (tLc (iList K (tVar 1)) (gName 3) (tTest (tOp (rIn K false) (tVar 3) (tVar 2))) (tVar 3) [3]) tNil)) tNil)))
theorem filter_more {ns : List Int} {i : Nat} {z : Int} (p : Int → Bool) (h : ns[i]? = some z) : (ns.take (i + 1)).filter p = if p z = true then (ns.take i).filter p ++ [z] else (ns.take i).filter p := by
  rw [take_more h, List.filter_append]
  cases c : p z with
  | true => simp [c]
  | false => simp [c]
theorem pure_both {N : List Str} (hN : N.length = 4) {vs : List V} {H : Hp} {Q : VK} {E : XK} (h : sp2 PyKzx1.both K vs H Q E) : t_both K (spIs K) { nx := fun _ H' => Q .non H', rt := Q } (start N vs) H := by
  obtain ⟨n, a, b, ns, ms, rfl, n0, hS, hT, len1, len2, x0, y0, k⟩ := h
  obtain ⟨N0, N1, N2, N3, rfl⟩ : ∃ a b c d, N = [a, b, c, d] := by
    match N, hN with
    | [a, b, c, d], _ => exact ⟨a, b, c, d, rfl⟩
  refine pure_two (r := [none]) n0 hS hT x0 y0 (fun e p hp => ?_) (fun e1 e2 => ?_)
  · refine k _ p ?_
    rw [no_both _ _ _ e, upd_same]
    rfl
  have line : sizeLine = 16777216 := sizeLine_eq
  refine ⟨_, rfl, a, rfl, ⟨_, hS⟩, fun D nD => ?_⟩
  refine lc_list (K := K) (a := a) (xs := ns.map V.int) (fun j H' => Same H H' ∧ H' D = some (.lst (((ns.take j).filter fun a => decide (a ∈ ms)).map V.int))) ⟨same_upd nD, upd_same⟩ (fun j H' _ ⟨s2, _⟩ => s2.seq hS) ?_ ?_
  · rintro j y H2 hj ⟨s2, h2⟩
    obtain ⟨z, hz, rfl⟩ := int_item hj
    refine ⟨rfl, _, rfl, _, rfl, b, _, rfl, .inl (s2.seq hT), rfl, flat_ints ms, _, rfl, ?_⟩
    have e := filter_more (fun a => decide (a ∈ ms)) hz
    show if inV (.int z) (ms.map V.int) = true then _ else _
    rw [in_ints]
    cases c : decide (z ∈ ms) with
    | true =>
      refine iteT ⟨_, rfl, _, h2, ?_, fun q o e2 => ?_, ?_⟩
      · have q : ((ns.take j).filter fun a => decide (a ∈ ms)).length ≤ (ns.take j).length := List.length_filter_le _ _
        rw [List.length_take] at q
        rw [List.length_map]
        omega
      · rw [upd_ne (ne_of_none e2 nD)]
        exact s2 _ _ e2
      · rw [upd_same, e, if_pos c, List.map_append]
        rfl
    | false =>
      refine iteF ⟨s2, ?_⟩
      rw [e, if_neg (by rw [c]; exact Bool.false_ne_true)]
      exact h2
  · rintro H2 ⟨s2, h2⟩
    rw [List.length_map, List.take_length] at h2
    refine ⟨D, _, rfl, .inl (SqL.of h2), by show 1 ≤ sizeLine; omega, fun p np => k _ p ?_⟩
    rw [upd_same, both_yes e1 e2 x0 y0, List.length_map]
    rfl

/-! ### apart -/
/-- has_all_like(n, x, a, things) -/
def spHal (K : PySem.W.Frag) : Sp := fun vs H Q _ => ∃ (n : Int) (a : Addr) (ns : List Int) (z k : Int), vs = [.int n, .ref a, .int z, .int k] ∧ 0 ≤ n ∧ n ≤ 5 ∧ SqL K H a (ns.map V.int) ∧ ∀ H', Same H H' → Q (.bl (hal n ns z k)) H'
/-- is_apart_for(n, x, y, a, things) -/
def spIaf (K : PySem.W.Frag) : Sp := fun vs H Q _ => ∃ (n : Int) (a b : Addr) (ns ms : List Int) (z k : Int), vs = [.int n, .ref a, .ref b, .int z, .int k] ∧ 0 ≤ n ∧ n ≤ 5 ∧ SqL K H a (ns.map V.int) ∧ SqL K H b (ms.map V.int) ∧
  ∀ H', Same H H' → Q (.bl (iaf n ns ms z k)) H'
/-- range(1 << n) -/
def iSets : TI := iRng1 (tCons (tOp rShl (tC (.int 1)) (tVar 0)) tNil)
/-- slots: n, x, a, things; b -/
def t_hal (K : PySem.W.Frag) : TS :=
  tRet (tCB (rAll K) (tCons (tLc iSets (gName 4) (tTest (tOp rEq (tOp rAndI (tVar 4) (tVar 3)) (tOp rAndI (tVar 2) (tVar 3)))) (tOp (rIn K false) (tVar 4) (tVar 1)) [4]) tNil))
/-- slots: n, x, y, a, things -/
def t_iaf (spH : Sp) : TS :=
  tRet (tAndV (tCall spH [] E0 (tCons (tVar 0) (tCons (tVar 1) (tCons (tVar 3) (tCons (tVar 4) tNil))))) (tCall spH [] E0 (tCons (tVar 0) (tCons (tVar 2) (tCons (tVar 3) (tCons (tUn rNotI (tVar 4)) tNil))))))
/-- slots: n, x, y, found, a; things -/
def t_apart (K : PySem.W.Frag) (spI spC spF : Sp) : TS :=
  tSeq (t_two spI)
  (tSeq (tAsg (tLst tNil) (gName 3))
  (tSeq (tFor (iList K (tVar 1)) (gName 4)
    (tIfS (tB (tCB (rAny K) (tCons (tLc iSets (gName 5) tYes (tCall spF [] E0 (tCons (tVar 0) (tCons (tVar 1) (tCons (tVar 2) (tCons (tVar 4) (tCons (tVar 5) tNil)))))) [5]) tNil)))
      (tDrop (tBM K "list" rAppend (tVar 3) (tCons (tVar 4) tNil))) tNext))
  (tRet (tCall spC [] E0 (tCons (tVar 3) tNil)))))
theorem dec_int (a b : Int) : decide (V.int a = V.int b) = decide (a = b) := by
  apply Bool.eq_iff_iff.mpr
  rw [decide_eq_true_eq, decide_eq_true_eq, V.int.injEq]
theorem sets_lo (n : Int) : -(2 ^ 62) ≤ (1 : Int) * 2 ^ n.toNat := by
  rw [pow_cast]
  exact Int.le_trans (by decide) (Int.natCast_nonneg _)
theorem sets_hi {n : Int} (h : n ≤ 5) : (1 : Int) * 2 ^ n.toNat < 2 ^ 62 := by
  have q := pow_le h
  rw [pow_cast]
  exact Int.lt_of_le_of_lt (Int.ofNat_le.mpr q) (by decide)
theorem turns_is (n : Int) : ((1 : Int) * 2 ^ n.toNat).toNat = 2 ^ n.toNat := by rw [pow_cast n.toNat]; exact Int.toNat_natCast _
theorem range_more {α : Type} (q : Nat → Bool) (g : Nat → α) (i : Nat) : ((List.range (i + 1)).filter q).map g = if q i = true then ((List.range i).filter q).map g ++ [g i] else ((List.range i).filter q).map g := by
  rw [List.range_succ, List.filter_append, List.map_append]
  cases h : q i with
  | true => simp [h]
  | false => simp [h]
theorem range_few (q : Nat → Bool) (i : Nat) : ((List.range i).filter q).length ≤ i := Nat.le_trans (List.length_filter_le _ _) (by rw [List.length_range]; exact Nat.le_refl _)
theorem pure_hal {N : List Str} (hN : N.length = 5) {vs : List V} {H : Hp} {Q : VK} {E : XK} (h : spHal K vs H Q E) : t_hal K { nx := fun _ H' => Q .non H', rt := Q } (start N vs) H := by
  obtain ⟨n, a, ns, z, k, rfl, n0, n5, hS, fin⟩ := h
  obtain ⟨N0, N1, N2, N3, N4, rfl⟩ : ∃ a b c d e, N = [a, b, c, d, e] := by
    match N, hN with
    | [a, b, c, d, e], _ => exact ⟨a, b, c, d, e, rfl⟩
  have line : sizeLine = 16777216 := sizeLine_eq
  have p32 := pow_le n5
  refine ⟨_, rfl, _, _, rfl, rfl, ⟨n0, by omega, by decide⟩, _, rfl, sets_lo n, sets_hi n5, ?_⟩
  rw [turns_is]
  intro D nD
  refine lc_range (lo := 0) (n := 2 ^ n.toNat) (fun i H' => Same H H' ∧ H' D = some (.lst ((((List.range i).filter fun (b : Nat) => decide (Builtin.bitAnd (b : Int) k = Builtin.bitAnd z k)).map fun (b : Nat) => decide ((b : Int) ∈ ns)).map V.bl))) ⟨same_upd nD, upd_same⟩ ?_ ?_
  · rintro i H2 hi ⟨s2, h2⟩
    rw [Int.zero_add]
    refine ⟨rfl, _, rfl, _, rfl, _, _, rfl, rfl, _, rfl, _, rfl, _, _, rfl, rfl, rfl, _, rfl, ?_⟩
    have e := range_more (fun (b : Nat) => decide (Builtin.bitAnd (b : Int) k = Builtin.bitAnd z k)) (fun (b : Nat) => decide ((b : Int) ∈ ns)) i
    rw [dec_int]
    cases c : decide (Builtin.bitAnd (i : Int) k = Builtin.bitAnd z k) with
    | true =>
      refine iteT ⟨_, rfl, _, rfl, a, _, rfl, .inl (s2.seq hS), rfl, flat_ints ns, _, h2, ?_, fun q o e2 => ?_, ?_⟩
      · have q := range_few (fun (b : Nat) => decide (Builtin.bitAnd (b : Int) k = Builtin.bitAnd z k)) i
        rw [List.length_map, List.length_map]
        omega
      · rw [upd_ne (ne_of_none e2 nD)]
        exact s2 _ _ e2
      · rw [upd_same, e, if_pos c, List.map_append]
        show some (HO.lst (_ ++ [V.bl (inV (.int i) (ns.map V.int))])) = _
        rw [in_ints]
        rfl
    | false =>
      refine iteF ⟨s2, ?_⟩
      rw [e, if_neg (by rw [c]; exact Bool.false_ne_true)]
      exact h2
  · rintro H2 ⟨s2, h2⟩
    refine ⟨D, _, rfl, SqL.of h2, ?_⟩
    rw [List.all_map]
    exact fin H2 s2
theorem pure_iaf {N : List Str} (hN : N.length = 5) {vs : List V} {H : Hp} {Q : VK} {E : XK} (h : spIaf K vs H Q E) : t_iaf (spHal K) { nx := fun _ H' => Q .non H', rt := Q } (start N vs) H := by
  obtain ⟨n, a, b, ns, ms, z, k, rfl, n0, n5, hS, hT, fin⟩ := h
  obtain ⟨N0, N1, N2, N3, N4, rfl⟩ : ∃ a b c d e, N = [a, b, c, d, e] := by
    match N, hN with
    | [a, b, c, d, e], _ => exact ⟨a, b, c, d, e, rfl⟩
  refine ⟨_, rfl, _, rfl, _, rfl, _, rfl, n, a, ns, z, k, rfl, n0, n5, hS, fun H1 s1 => ⟨_, rfl, ?_⟩⟩
  unfold iaf at fin
  cases c : hal n ns z k with
  | true =>
    refine iteT ⟨_, rfl, _, rfl, _, rfl, _, rfl, _, rfl, n, b, ms, z, _, rfl, n0, n5, s1.seq hT, fun H2 s2 => ?_⟩
    have q := fin H2 (s1.trans s2)
    rw [c, Bool.true_and] at q
    exact q
  | false =>
    have q := fin H1 s1
    rw [c, Bool.false_and] at q
    exact iteF q
theorem pure_apart {N : List Str} (hN : N.length = 6) {vs : List V} {H : Hp} {Q : VK} {E : XK} (h : sp2 PyKzx1.apart K vs H Q E) : t_apart K (spIs K) (spCnt K) (spIaf K) { nx := fun _ H' => Q .non H', rt := Q } (start N vs) H := by
  obtain ⟨n, a, b, ns, ms, rfl, n0, hS, hT, len1, len2, x0, y0, k⟩ := h
  obtain ⟨N0, N1, N2, N3, N4, N5, rfl⟩ : ∃ a b c d e f, N = [a, b, c, d, e, f] := by
    match N, hN with
    | [a, b, c, d, e, f], _ => exact ⟨a, b, c, d, e, f, rfl⟩
  refine pure_two (r := [none, none, none]) n0 hS hT x0 y0 (fun e p hp => ?_) (fun e1 e2 => ?_)
  · refine k _ p ?_
    rw [no_apart _ _ _ e, upd_same]
    rfl
  have line : sizeLine = 16777216 := sizeLine_eq
  have xl := isFam_lt e1 x0
  have n5 := (isFam_n e1).2
  have p32 := pow_le n5
  refine ⟨Nat.zero_le _, fun l nl => ?_⟩
  refine ⟨_, rfl, a, rfl, ⟨_, (same_upd nl).seq hS⟩, for_list (K := K) (a := a) (xs := ns.map V.int) (fun i σ H' => Same H H' ∧ ∃ (u v : Option V), σ = [some (.int n), some (.ref a), some (.ref b), some (.ref l), u, v] ∧
    H' l = some (.lst (((ns.take i).filter (isAp n ns ms)).map V.int))) ⟨same_upd nl, none, none, rfl, upd_same⟩ (fun i σ H' _ ⟨s1, _⟩ => s1.seq hS) ?_ ?_⟩
  · rintro i y σ H1 hi ⟨s1, u, v, rfl, h1⟩
    obtain ⟨z, hz, rfl⟩ := int_item hi
    have hi2 : i < ns.length := (List.getElem?_eq_some_iff.mp hz).1
    refine ⟨_, rfl, _, _, rfl, rfl, ⟨n0, by omega, by decide⟩, _, rfl, sets_lo n, sets_hi n5, ?_⟩
    rw [turns_is]
    intro D nD
    refine lc_range (lo := 0) (n := 2 ^ n.toNat) (fun j H' => Same H1 H' ∧ H' D = some (.lst (((List.range j).map fun (k : Nat) => iaf n ns ms z (k : Int)).map V.bl))) ⟨same_upd nD, upd_same⟩ ?_ ?_
    · rintro j H2 hj ⟨s2, h2⟩
      rw [Int.zero_add]
      refine ⟨rfl, ?_⟩
      dsimp only [tYes]
      rw [if_pos rfl]
      refine ⟨_, rfl, _, rfl, _, rfl, _, rfl, _, rfl, n, a, b, ns, ms, z, _, rfl, n0, n5, (s1.trans s2).seq hS, (s1.trans s2).seq hT, fun H3 s3 => ⟨_, s3 _ _ h2, ?_, fun q o e => ?_, ?_⟩⟩
      · rw [List.length_map, List.length_map, List.length_range]
        omega
      · rw [upd_ne (ne_of_none e nD)]
        exact s3 _ _ (s2 _ _ e)
      · rw [upd_same, List.range_succ, List.map_append, List.map_append]
        rfl
    · rintro H2 ⟨s2, h2⟩
      refine ⟨D, _, rfl, SqL.of h2, _, rfl, ?_⟩
      have e : (((List.range (2 ^ n.toNat)).map fun (k : Nat) => iaf n ns ms z (k : Int)).any id) = isAp n ns ms z := by rw [List.any_map]; rfl
      rw [e]
      have e3 := filter_more (isAp n ns ms) hz
      cases c : isAp n ns ms z with
      | true =>
        refine iteT ⟨_, rfl, .inl ⟨rfl, _, SqL.of (s2 _ _ h1)⟩, _, rfl, l, _, _, rfl, rfl, s2 _ _ h1, ?_, fun c o e => ?_, some (.int z), v, rfl, ?_⟩
        · have q : ((ns.take i).filter (isAp n ns ms)).length ≤ (ns.take i).length := List.length_filter_le _ _
          rw [List.length_take] at q
          rw [List.length_map]
          omega
        · rw [upd_ne (ne_of_none e nl)]
          exact s2 _ _ (s1 _ _ e)
        · rw [upd_same, e3, if_pos c, List.map_append]
          rfl
      | false =>
        refine iteF ⟨s1.trans s2, some (.int z), v, rfl, ?_⟩
        rw [e3, if_neg (by rw [c]; exact Bool.false_ne_true)]
        exact s2 _ _ h1
  · rintro σ H1 ⟨s1, u, v, rfl, h1⟩
    rw [List.length_map, List.take_length] at h1
    refine ⟨_, rfl, l, _, rfl, h1, ?_, fun z hz => ?_, fun H' p out s2 np up mem hp => ?_⟩
    · exact Nat.le_trans (List.length_filter_le _ _) (by omega)
    · have q := xl z (List.mem_filter.mp hz).1
      omega
    · refine k H' p ?_
      rw [hp, yes_apart n ns ms out e1 e2 x0 y0 up mem]
end
end Fam

set_option Elab.async false
set_option maxRecDepth 100000
set_option maxHeartbeats 2000000
/-! The last of the defs' readings: shown, pressed, shattered. -/
namespace Fam
open PySem PySem.Spec PyProof.Rows L2
open Kzx1Neutral (natsOf)

/-! ### shown: numbers -/
section
variable {n : Int} {ns ms : List Int}
theorem no_shown (w : Int) (e : (isFam n ns && isFam n ms) = false) : PyKzx1.shown n w ns ms = [-22] := two_no n ns ms e
theorem shown_yes (w : Int) (e1 : isFam n ns = true) (e2 : isFam n ms = true) :
    Kzx1.answer (.shown n.toNat w.toNat (natsOf ns) (natsOf ms)) = if 2 ^ n.toNat ≤ w.toNat then Kzx1.say (-2) else match Kzx1.shown n.toNat (natsOf ns) (natsOf ms) w.toNat with
      | some k => Kzx1.say (k : Nat)
      | none => Kzx1.say (-33) :=
  two_yes (h := fun _ => if 2 ^ n.toNat ≤ w.toNat then Kzx1.say (-2) else match Kzx1.shown n.toNat (natsOf ns) (natsOf ms) w.toNat with
      | some k => Kzx1.say (k : Nat)
      | none => Kzx1.say (-33)) n ns ms e1 e2
theorem big_shown {w : Int} (e1 : isFam n ns = true) (e2 : isFam n ms = true) (h : ((2 ^ n.toNat : Nat) : Int) ≤ w) : PyKzx1.shown n w ns ms = [-2] := by
  rw [shown_is, shown_yes w e1 e2, if_pos (by omega)]
  rfl
theorem at_shown {w k : Nat} (e1 : isFam n ns = true) (e2 : isFam n ms = true) (x0 : ∀ z ∈ ns, 0 ≤ z) (y0 : ∀ z ∈ ms, 0 ≤ z) (hw : w < 2 ^ n.toNat) (hk : k < 2 ^ n.toNat) (hit : iaf n ns ms (w : Int) (k : Int) = true)
    (nix : ∀ j : Nat, j < k → iaf n ns ms (w : Int) (j : Int) = false) : PyKzx1.shown n (w : Int) ns ms = [(k : Int)] := by
  have n5 := (isFam_n e1).2
  have q : Kzx1.shown n.toNat (natsOf ns) (natsOf ms) w = some k := by
    unfold Kzx1.shown Kzx1.sets
    rw [List.find?_range_eq_some]
    refine ⟨by rw [← iaf_is x0 y0 n5 hw hk]; exact hit, List.mem_range.mpr hk, fun j hj => ?_⟩
    rw [← iaf_is x0 y0 n5 hw (by omega), nix j hj]
    rfl
  rw [shown_is, shown_yes _ e1 e2, Int.toNat_natCast, if_neg (by omega), q]
  rfl
theorem nix_shown {w : Nat} (e1 : isFam n ns = true) (e2 : isFam n ms = true) (x0 : ∀ z ∈ ns, 0 ≤ z) (y0 : ∀ z ∈ ms, 0 ≤ z) (hw : w < 2 ^ n.toNat)
    (nix : ∀ j : Nat, j < 2 ^ n.toNat → iaf n ns ms (w : Int) (j : Int) = false) : PyKzx1.shown n (w : Int) ns ms = [-33] := by
  have n5 := (isFam_n e1).2
  have q : Kzx1.shown n.toNat (natsOf ns) (natsOf ms) w = none := by
    unfold Kzx1.shown Kzx1.sets
    rw [List.find?_range_eq_none]
    intro j hj
    rw [← iaf_is x0 y0 n5 hw hj, nix j hj]
    rfl
  rw [shown_is, shown_yes _ e1 e2, Int.toNat_natCast, if_neg (by omega), q]
  rfl
end

/-! ### shown: the reading -/
/-- a call of two families and a set -/
def sp3 (f : Int → Int → List Int → List Int → List Int) (K : PySem.W.Frag) : Sp := fun vs H Q _ => ∃ (n m : Int) (a b : Addr) (ns ms : List Int), vs = [.int n, .int m, .ref a, .ref b] ∧ 0 ≤ n ∧ 0 ≤ m ∧ SqL K H a (ns.map V.int) ∧ SqL K H b (ms.map V.int) ∧
  ns.length ≤ 40 ∧ ms.length ≤ 40 ∧ (∀ z ∈ ns, 0 ≤ z) ∧ (∀ z ∈ ms, 0 ≤ z) ∧ ∀ (H' : Hp) (p : Addr), H' p = some (.lst ((f n m ns ms).map V.int)) → Q (.ref p) H'
/-- slots: n, w, x, y, things -/
def t_shown (spI spF : Sp) : TS :=
  tSeq (tIfS (tOr (tNot (tB (tCall spI [] E0 (tCons (tVar 0) (tCons (tVar 2) tNil))))) (tNot (tB (tCall spI [] E0 (tCons (tVar 0) (tCons (tVar 3) tNil))))))
    (tRet (tLst (tCons (tC (.int (-22))) tNil))) tNext)
  (tSeq (tIfS (tTest (tOp geI (tVar 1) (tOp rShl (tC (.int 1)) (tVar 0)))) (tRet (tLst (tCons (tC (.int (-2))) tNil))) tNext)
  (tSeq (tFor iSets (gName 4)
    (tIfS (tB (tCall spF [] E0 (tCons (tVar 0) (tCons (tVar 2) (tCons (tVar 3) (tCons (tVar 1) (tCons (tVar 4) tNil))))))) (tRet (tLst (tCons (tVar 4) tNil))) tNext))
  (tRet (tLst (tCons (tC (.int (-33))) tNil)))))
section
variable {K : PySem.W.Frag}
theorem pure_shown {N : List Str} (hN : N.length = 5) {vs : List V} {H : Hp} {Q : VK} {E : XK} (h : sp3 PyKzx1.shown K vs H Q E) : t_shown (spIs K) (spIaf K) { nx := fun _ H' => Q .non H', rt := Q } (start N vs) H := by
  obtain ⟨n, m, a, b, ns, ms, rfl, n0, m0, hS, hT, len1, len2, x0, y0, k⟩ := h
  obtain ⟨N0, N1, N2, N3, N4, rfl⟩ : ∃ a b c d e, N = [a, b, c, d, e] := by
    match N, hN with
    | [a, b, c, d, e], _ => exact ⟨a, b, c, d, e, rfl⟩
  have line : 1 ≤ sizeLine := by rw [sizeLine_eq]; decide
  have out : ∀ (H' : Hp) (p : Addr) (v : Int), PyKzx1.shown n m ns ms = [v] → Q (.ref p) (upd H' p (.lst [.int v])) := fun H' p v e => by
    refine k _ p ?_
    rw [upd_same, e]
    rfl
  refine ⟨_, rfl, _, rfl, n, a, ns, rfl, n0, hS, x0, _, rfl, ?_⟩
  cases e1 : isFam n ns with
  | false => exact iteT (iteT ⟨line, fun p _ => out _ p _ (no_shown m (by rw [e1, Bool.false_and]))⟩)
  | true =>
  refine iteF ⟨_, rfl, _, rfl, n, b, ms, rfl, n0, hT, y0, _, rfl, ?_⟩
  cases e2 : isFam n ms with
  | false => exact iteT ⟨line, fun p _ => out _ p _ (no_shown m (by rw [e2, Bool.and_false]))⟩
  | true =>
  refine iteF ?_
  have n5 := isFam_n e1
  have pc := pow_cast n.toNat
  refine ⟨_, rfl, _, rfl, _, _, rfl, rfl, ⟨n0, by omega, by decide⟩, _, _, rfl, rfl, _, rfl, ?_⟩
  refine ite2 (fun c => ?_) (fun c => ?_)
  · rw [decide_eq_true_eq, pc] at c
    exact ⟨line, fun p _ => out _ p _ (big_shown e1 e2 c)⟩
  rw [decide_eq_true_eq, pc] at c
  obtain ⟨w, rfl⟩ : ∃ w : Nat, m = (w : Int) := ⟨m.toNat, (Int.toNat_of_nonneg m0).symm⟩
  have hw : w < 2 ^ n.toNat := by omega
  refine ⟨_, rfl, _, _, rfl, rfl, ⟨n0, by omega, by decide⟩, _, rfl, sets_lo n, sets_hi n5.2, ?_⟩
  rw [turns_is]
  refine for_range (lo := 0) (n := 2 ^ n.toNat) (fun i σ H' => Same H H' ∧ ∃ (u : Option V), σ = [some (.int n), some (.int w), some (.ref a), some (.ref b), u] ∧ ∀ j : Nat, j < i → iaf n ns ms (w : Int) (j : Int) = false)
    ⟨fun _ _ e => e, none, rfl, fun j hj => absurd hj (Nat.not_lt_zero j)⟩ ?_ ?_
  · rintro i σ H1 hi ⟨s1, u, rfl, nix⟩
    rw [Int.zero_add]
    refine ⟨_, rfl, _, rfl, _, rfl, _, rfl, _, rfl, n, a, b, ns, ms, _, _, rfl, n0, n5.2, s1.seq hS, s1.seq hT, fun H2 s2 => ⟨_, rfl, ?_⟩⟩
    cases c2 : iaf n ns ms (w : Int) (i : Int) with
    | true => exact iteT ⟨_, rfl, line, fun p _ => out _ p _ (at_shown e1 e2 x0 y0 hw hi c2 nix)⟩
    | false =>
      refine iteF ⟨s1.trans s2, some (.int i), rfl, fun j hj => ?_⟩
      rcases Nat.lt_succ_iff_lt_or_eq.mp hj with q | q
      · exact nix j q
      · rw [q]; exact c2
  · rintro σ H1 ⟨s1, u, rfl, nix⟩
    exact ⟨line, fun p _ => out _ p _ (nix_shown e1 e2 x0 y0 hw nix)⟩
end

/-! ### pressed: numbers -/
/-- the thing (by what it counts) taken out of a, where ns has not the set without it -/
def pOne (ns : List Int) (t a : Int) : Int := if decide (gLess a t ∈ ns) = true then a else gLess a t
def pAt (ns : List Int) (t : Int) : List Int := ns.map (pOne ns t)
def pGo (ns : List Int) : Nat → List Int
  | 0 => ns
  | i + 1 => pAt (pGo ns i) ((2 ^ i : Nat) : Int)
theorem pGo_len (ns : List Int) : ∀ i, (pGo ns i).length = ns.length
  | 0 => rfl
  | i + 1 => by
    show ((pGo ns i).map _).length = _
    rw [List.length_map, pGo_len ns i]
theorem out_tab : ∀ i : Nat, i < 5 → ∀ a : Nat, a < 32 → a - Nat.land a (2 ^ i) = if Kzx1.up a i = true then a - 2 ^ i else a := by decide +kernel
theorem pOne_is {l : List Int} {m : List Nat} {i a : Nat} (hi : i < 5) (ha : a < 32) (mem : ∀ z : Nat, (z : Int) ∈ l ↔ z ∈ m) : pOne l ((2 ^ i : Nat) : Int) (a : Int) = (Kzx1.pressAt m i a : Int) := by
  have g : gLess (a : Int) ((2 ^ i : Nat) : Int) = ((a - Nat.land a (2 ^ i) : Nat) : Int) := by
    unfold gLess
    rw [andnot_is (Int.natCast_nonneg a) (Int.natCast_nonneg _), Int.toNat_natCast, Int.toNat_natCast]
  unfold pOne Kzx1.pressAt
  rw [g, out_tab i hi a ha]
  cases c : Kzx1.up a i with
  | false =>
    rw [Bool.false_and, if_neg Bool.false_ne_true]
    split <;> rfl
  | true =>
    rw [if_pos rfl, Bool.true_and]
    by_cases d : a - 2 ^ i ∈ m
    · rw [if_pos (decide_eq_true ((mem _).mpr d)), List.contains_iff_mem.mpr d]
      rfl
    · rw [if_neg (by rw [decide_eq_true_eq, mem]; exact d), if_pos]
      rw [Bool.not_eq_true']
      exact Bool.eq_false_iff.mpr fun q => d (List.contains_iff_mem.mp q)
theorem pressAt_le (m : List Nat) (i a : Nat) : Kzx1.pressAt m i a ≤ a := by
  unfold Kzx1.pressAt
  split
  · exact Nat.sub_le _ _
  · exact Nat.le_refl _
theorem pAt_is {n : Nat} {l : List Int} {m : List Nat} {i : Nat} (n5 : n ≤ 5) (hi : i < n) (lt : ∀ z ∈ l, 0 ≤ z ∧ z < ((2 ^ n : Nat) : Int)) (mem : ∀ z : Nat, (z : Int) ∈ l ↔ z ∈ m) :
    (∀ z ∈ pAt l ((2 ^ i : Nat) : Int), 0 ≤ z ∧ z < ((2 ^ n : Nat) : Int)) ∧ ∀ z : Nat, (z : Int) ∈ pAt l ((2 ^ i : Nat) : Int) ↔ z ∈ Kzx1.press n m i := by
  have p32 : 2 ^ n ≤ 32 := Nat.pow_le_pow_right (n := 2) (by decide) n5
  have one : ∀ a : Nat, (a : Int) ∈ l → pOne l ((2 ^ i : Nat) : Int) (a : Int) = (Kzx1.pressAt m i a : Int) ∧ Kzx1.pressAt m i a < 2 ^ n := fun a ha => by
    have q := lt _ ha
    have q2 := pressAt_le m i a
    exact ⟨pOne_is (by omega) (by omega) mem, by omega⟩
  have back : ∀ z ∈ l, ∃ a : Nat, z = (a : Int) := fun z hz => ⟨z.toNat, (Int.toNat_of_nonneg (lt z hz).1).symm⟩
  constructor
  · intro z hz
    obtain ⟨y, hy, rfl⟩ := List.mem_map.mp hz
    obtain ⟨a, rfl⟩ := back y hy
    have q := one a hy
    rw [q.1]
    omega
  · intro z
    unfold Kzx1.press Kzx1.family
    rw [mem_sets, List.contains_iff_mem, List.mem_map]
    constructor
    · intro hz
      obtain ⟨y, hy, e⟩ := List.mem_map.mp hz
      obtain ⟨a, rfl⟩ := back y hy
      have q := one a hy
      rw [q.1] at e
      have e2 : Kzx1.pressAt m i a = z := by omega
      exact ⟨by omega, a, (mem a).mp hy, e2⟩
    · rintro ⟨_, a, ha, rfl⟩
      have hy := (mem a).mpr ha
      exact List.mem_map.mpr ⟨(a : Int), hy, (one a hy).1⟩
theorem pGo_is {n : Nat} {ns : List Int} (n5 : n ≤ 5) (lt : ∀ z ∈ ns, 0 ≤ z ∧ z < ((2 ^ n : Nat) : Int)) : ∀ i : Nat, i ≤ n →
    (∀ z ∈ pGo ns i, 0 ≤ z ∧ z < ((2 ^ n : Nat) : Int)) ∧ ∀ z : Nat, (z : Int) ∈ pGo ns i ↔ z ∈ (List.range i).foldl (Kzx1.press n) (natsOf ns)
  | 0, _ => ⟨lt, fun z => (natsOf_mem fun z hz => (lt z hz).1).symm⟩
  | i + 1, hi => by
    obtain ⟨h1, h2⟩ := pGo_is n5 lt i (by omega)
    rw [List.range_succ, List.foldl_append]
    exact pAt_is n5 (by omega) h1 h2
theorem no_pressed (n : Int) (ns : List Int) (e : isFam n ns = false) : PyKzx1.pressed n ns = [-22] := one_no n ns e
theorem yes_pressed (n : Int) (ns ks : List Int) (e1 : isFam n ns = true) (x0 : ∀ z ∈ ns, 0 ≤ z) (up : ks.Pairwise (· < ·)) (mem : ∀ k, k ∈ ks ↔ k ∈ pGo ns n.toNat) : PyKzx1.pressed n ns = tel ks := by
  rw [pressed_is, show Kzx1.answer (.pressed n.toNat (natsOf ns)) = Kzx1.tell (Kzx1.pressed n.toNat (natsOf ns)) from one_yes (h := fun _ => Kzx1.tell (Kzx1.pressed n.toNat (natsOf ns))) n ns e1, tell_is]
  have n5 := isFam_n e1
  obtain ⟨h1, h2⟩ := pGo_is (n := n.toNat) (by omega) (isFam_lt e1 x0) n.toNat (Nat.le_refl _)
  have rise : (Kzx1.pressed n.toNat (natsOf ns)).Pairwise (· < ·) := by
    unfold Kzx1.pressed
    obtain ⟨i, hi⟩ : ∃ i, n.toNat = i + 1 := ⟨n.toNat - 1, by omega⟩
    rw [show List.range n.toNat = List.range i ++ [i] by rw [hi, List.range_succ], List.foldl_append]
    exact sets_rise _ _
  have q : ks = Kzx1.ints (Kzx1.pressed n.toNat (natsOf ns)) := by
    refine rises_eq up (ints_rise rise) fun k => ?_
    rw [mem, mem_ints]
    constructor
    · intro hk
      have e : ((k.toNat : Nat) : Int) = k := Int.toNat_of_nonneg (h1 k hk).1
      exact ⟨k.toNat, (h2 _).mp (by rw [e]; exact hk), e.symm⟩
    · rintro ⟨a, ha, rfl⟩
      exact (h2 a).mpr ha
  rw [q]

/-! ### pressed: the readings -/
/-- pressed_at(x, thing) -/
def spAt (K : PySem.W.Frag) : Sp := fun vs H Q _ => ∃ (a : Addr) (ns : List Int) (t : Int), vs = [.ref a, .int t] ∧ SqL K H a (ns.map V.int) ∧ ns.length ≤ 40 ∧
  ∀ (H' : Hp) (p : Addr), Same H H' → H' p = some (.lst ((pAt ns t).map V.int)) → Q (.ref p) H'
/-- slots: x, thing, found, a, without -/
def t_at (K : PySem.W.Frag) : TS :=
  tSeq (tAsg (tLst tNil) (gName 2))
  (tSeq (tFor (iList K (tVar 0)) (gName 3)
    (tSeq (tAsg (tOp rAndI (tVar 3) (tUn rNotI (tVar 1))) (gName 4))
      (tDrop (tBM K "list" rAppend (tVar 2) (tCons (tIf (tTest (tOp (rIn K false) (tVar 4) (tVar 0))) (tVar 3) (tVar 4)) tNil)))))
  (tRet (tVar 2)))
/-- slots: n, x, found, v -/
def t_pressed (spI spC spA : Sp) : TS :=
  tSeq (t_one spI)
  (tSeq (tAsg (tVar 1) (gName 2))
  (tSeq (tFor (iRng1 (tCons (tVar 0) tNil)) (gName 3) (tAsg (tCall spA [] E0 (tCons (tVar 2) (tCons (tOp rShl (tC (.int 1)) (tVar 3)) tNil))) (gName 2)))
  (tRet (tCall spC [] E0 (tCons (tVar 2) tNil)))))
section
variable {K : PySem.W.Frag}
theorem pAt_more {ns : List Int} {i : Nat} {z : Int} (t : Int) (h : ns[i]? = some z) : (ns.take (i + 1)).map (pOne ns t) = (ns.take i).map (pOne ns t) ++ [pOne ns t z] := by
  rw [take_more h, List.map_append]
  rfl
theorem pure_at {N : List Str} (hN : N.length = 5) {vs : List V} {H : Hp} {Q : VK} {E : XK} (h : spAt K vs H Q E) : t_at K { nx := fun _ H' => Q .non H', rt := Q } (start N vs) H := by
  obtain ⟨a, ns, t, rfl, hS, len1, k⟩ := h
  obtain ⟨N0, N1, N2, N3, N4, rfl⟩ : ∃ a b c d e, N = [a, b, c, d, e] := by
    match N, hN with
    | [a, b, c, d, e], _ => exact ⟨a, b, c, d, e, rfl⟩
  have line : sizeLine = 16777216 := sizeLine_eq
  refine ⟨Nat.zero_le _, fun l nl => ?_⟩
  refine ⟨_, rfl, a, rfl, ⟨_, (same_upd nl).seq hS⟩, for_list (K := K) (a := a) (xs := ns.map V.int) (fun i σ H' => Same H H' ∧ ∃ (u v : Option V), σ = [some (.ref a), some (.int t), some (.ref l), u, v] ∧
    H' l = some (.lst (((ns.take i).map (pOne ns t)).map V.int))) ⟨same_upd nl, none, none, rfl, upd_same⟩ (fun i σ H' _ ⟨s1, _⟩ => s1.seq hS) ?_ ?_⟩
  · rintro i y σ H1 hi ⟨s1, u, v, rfl, h1⟩
    obtain ⟨z, hz, rfl⟩ := int_item hi
    have hi2 : i < ns.length := (List.getElem?_eq_some_iff.mp hz).1
    have fin : ∀ r : Int, r = pOne ns t z → ((((ns.take i).map (pOne ns t)).map V.int).length < sizeLine ∧ (Same H (upd H1 l (.lst (((ns.take i).map (pOne ns t)).map V.int ++ [.int r]))) ∧ ∃ (u v : Option V), [some (V.ref a), some (.int t), some (.ref l), some (.int z), some (.int (gLess z t))] = [some (.ref a), some (.int t), some (.ref l), u, v] ∧
        (upd H1 l (.lst (((ns.take i).map (pOne ns t)).map V.int ++ [.int r]))) l = some (.lst (((ns.take (i + 1)).map (pOne ns t)).map V.int)))) := fun r e => by
      refine ⟨?_, fun c o e => ?_, _, _, rfl, ?_⟩
      · rw [List.length_map, List.length_map, List.length_take]
        omega
      · rw [upd_ne (ne_of_none e nl)]
        exact s1 _ _ e
      · rw [upd_same, pAt_more t hz, List.map_append, e]
        rfl
    refine ⟨_, rfl, _, rfl, _, rfl, _, _, rfl, rfl, ?_⟩
    refine ⟨_, rfl, .inl ⟨rfl, _, SqL.of h1⟩, ?_⟩
    refine ⟨_, rfl, _, rfl, a, _, rfl, .inl (s1.seq hS), rfl, flat_ints ns, _, rfl, ?_⟩
    show if inV (.int (gLess z t)) (ns.map V.int) = true then _ else _
    rw [in_ints]
    cases c : decide (gLess z t ∈ ns) with
    | true => exact iteT ⟨_, rfl, l, _, _, rfl, rfl, h1, fin z (by unfold pOne; rw [if_pos c])⟩
    | false => exact iteF ⟨_, rfl, l, _, _, rfl, rfl, h1, fin _ (by unfold pOne; rw [if_neg (by rw [c]; exact Bool.false_ne_true)]; rfl)⟩
  · rintro σ H1 ⟨s1, u, v, rfl, h1⟩
    rw [List.length_map, List.take_length] at h1
    exact ⟨_, rfl, k H1 l s1 h1⟩
theorem pure_pressed {N : List Str} (hN : N.length = 4) {vs : List V} {H : Hp} {Q : VK} {E : XK} (h : sp1 PyKzx1.pressed K vs H Q E) : t_pressed (spIs K) (spCnt K) (spAt K) { nx := fun _ H' => Q .non H', rt := Q } (start N vs) H := by
  obtain ⟨n, a, ns, rfl, n0, hS, len1, x0, k⟩ := h
  obtain ⟨N0, N1, N2, N3, rfl⟩ : ∃ a b c d, N = [a, b, c, d] := by
    match N, hN with
    | [a, b, c, d], _ => exact ⟨a, b, c, d, rfl⟩
  refine pure_one (r := [none, none]) n0 hS x0 (fun e p hp => ?_) (fun e1 => ?_)
  · refine k _ p (same_upd hp) ?_
    rw [no_pressed _ _ e, upd_same]
    rfl
  have n5 := isFam_n e1
  have p32 := pow_le n5.2
  refine ⟨_, rfl, ?_⟩
  refine ⟨_, rfl, _, rfl, by omega, by omega, ?_⟩
  refine for_range (lo := 0) (n := n.toNat) (fun i σ H' => Same H H' ∧ ∃ (p : Addr) (u : Option V), σ = [some (.int n), some (.ref a), some (.ref p), u] ∧ SqL K H' p ((pGo ns i).map V.int) ∧ (0 < i → H' p = some (.lst ((pGo ns i).map V.int))))
    ⟨fun _ _ e => e, a, none, rfl, hS, fun q => absurd q (Nat.lt_irrefl 0)⟩ ?_ ?_
  · rintro i σ H1 hi ⟨s1, p, u, rfl, h1, _⟩
    rw [Int.zero_add]
    refine ⟨_, rfl, _, rfl, _, _, rfl, rfl, ⟨by omega, by omega, by decide⟩, ?_⟩
    refine ⟨p, pGo ns i, _, rfl, h1, by rw [pGo_len]; exact len1, fun H2 q s2 hq => ?_⟩
    have hq2 : H2 q = some (.lst ((pGo ns (i + 1)).map V.int)) := by
      rw [hq, Int.toNat_natCast, pow_cast]
      rfl
    exact ⟨s1.trans s2, q, _, rfl, SqL.of hq2, fun _ => hq2⟩
  · rintro σ H1 ⟨s1, p, u, rfl, _, h1⟩
    have h1 := h1 (by omega)
    obtain ⟨lt, _⟩ := pGo_is (n := n.toNat) (by omega) (isFam_lt e1 x0) n.toNat (Nat.le_refl _)
    refine ⟨_, rfl, p, _, rfl, h1, by rw [pGo_len]; omega, fun z hz => ?_, fun H' q out s2 nq up mem hq => ?_⟩
    · have q := lt z hz
      omega
    · refine k H' q (s1.trans s2) ?_
      rw [hq, yes_pressed n ns out e1 x0 up mem]
end

/-! ### shattered: numbers -/
/-- each set within k is what some set of ns has of k -/
def tld (n : Int) (ns : List Int) (k : Int) : Bool := ((List.range (2 ^ n.toNat)).filter fun (b : Nat) => decide (Builtin.bitAnd (b : Int) k = (b : Int))).all fun (b : Nat) => decide ((b : Int) ∈ ns.map fun a => Builtin.bitAnd a k)
theorem tld_is {n : Int} {ns : List Int} (x0 : ∀ z ∈ ns, 0 ≤ z) (k : Nat) : tld n ns (k : Int) = Kzx1.shatters n.toNat (natsOf ns) k := by
  unfold tld Kzx1.shatters Kzx1.sets
  rw [List.filter_congr (q := fun s => Kzx1.within s k)]
  · refine all_eq fun b _ => ?_
    apply Bool.eq_iff_iff.mpr
    rw [decide_eq_true_eq, List.mem_map, List.any_eq_true]
    constructor
    · rintro ⟨a, ha, e⟩
      rw [and_is (x0 a ha) (Int.natCast_nonneg k), Int.toNat_natCast] at e
      exact ⟨a.toNat, List.mem_map.mpr ⟨a, ha, rfl⟩, beq_iff_eq.mpr (by omega)⟩
    · rintro ⟨c, hc, e⟩
      obtain ⟨a, ha, rfl⟩ := List.mem_map.mp hc
      refine ⟨a, ha, ?_⟩
      rw [and_is (x0 a ha) (Int.natCast_nonneg k), Int.toNat_natCast, beq_iff_eq.mp e]
  · intro b _
    unfold Kzx1.within
    apply Bool.eq_iff_iff.mpr
    rw [decide_eq_true_eq, beq_iff_eq, and_is (Int.natCast_nonneg b) (Int.natCast_nonneg k), Int.toNat_natCast, Int.toNat_natCast]
    omega
theorem no_shattered (n : Int) (ns : List Int) (e : isFam n ns = false) : PyKzx1.shattered n ns = [-22] := one_no n ns e
theorem yes_shattered (n : Int) (ns ks : List Int) (e1 : isFam n ns = true) (x0 : ∀ z ∈ ns, 0 ≤ z) (up : ks.Pairwise (· < ·)) (mem : ∀ k, k ∈ ks ↔ k ∈ pickd (fun m => tld n ns (m : Int)) (2 ^ n.toNat)) : PyKzx1.shattered n ns = tel ks := by
  rw [shattered_is, show Kzx1.answer (.shattered n.toNat (natsOf ns)) = Kzx1.tell ((Kzx1.sets n.toNat).filter (Kzx1.shatters n.toNat (natsOf ns))) from
    one_yes (h := fun _ => Kzx1.tell ((Kzx1.sets n.toNat).filter (Kzx1.shatters n.toNat (natsOf ns)))) n ns e1, tell_is]
  have q : ks = Kzx1.ints ((Kzx1.sets n.toNat).filter (Kzx1.shatters n.toNat (natsOf ns))) := by
    refine told_sets up fun k => ?_
    rw [mem, mem_pickd]
    refine ⟨fun ⟨a, h1, h2, e⟩ => ⟨a, h1, ?_, e⟩, fun ⟨a, h1, h2, e⟩ => ⟨a, h1, ?_, e⟩⟩
    · rw [← tld_is x0]
      exact h2
    · rw [tld_is x0]
      exact h2
  rw [q]

/-! ### shattered: the readings -/
/-- is_told_apart(n, x, things) -/
def spTld (K : PySem.W.Frag) : Sp := fun vs H Q _ => ∃ (n : Int) (a : Addr) (ns : List Int) (k : Int), vs = [.int n, .ref a, .int k] ∧ 0 ≤ n ∧ n ≤ 5 ∧ SqL K H a (ns.map V.int) ∧ ns.length ≤ 40 ∧ ∀ H', Same H H' → Q (.bl (tld n ns k)) H'
/-- slots: n, x, things, had; a, b -/
def t_tld (K : PySem.W.Frag) : TS :=
  tSeq (tAsg (tLc (iList K (tVar 1)) (gName 4) tYes (tOp rAndI (tVar 4) (tVar 2)) [4]) (gName 3))
  (tRet (tCB (rAll K) (tCons (tLc iSets (gName 5) (tTest (tOp rEq (tOp rAndI (tVar 5) (tVar 2)) (tVar 5))) (tOp (rIn K false) (tVar 5) (tVar 3)) [5]) tNil)))
/-- slots: n, x; things -/
def t_shattered (spI spC spT : Sp) : TS :=
  tSeq (t_one spI)
  (tRet (tCall spC [] E0 (tCons (tLc iSets (gName 2) (tB (tCall spT [] E0 (tCons (tVar 0) (tCons (tVar 1) (tCons (tVar 2) tNil))))) (tVar 2) [2]) tNil)))
section
variable {K : PySem.W.Frag}
theorem pure_tld {N : List Str} (hN : N.length = 6) {vs : List V} {H : Hp} {Q : VK} {E : XK} (h : spTld K vs H Q E) : t_tld K { nx := fun _ H' => Q .non H', rt := Q } (start N vs) H := by
  obtain ⟨n, a, ns, k, rfl, n0, n5, hS, len1, fin⟩ := h
  obtain ⟨N0, N1, N2, N3, N4, N5, rfl⟩ : ∃ a b c d e f, N = [a, b, c, d, e, f] := by
    match N, hN with
    | [a, b, c, d, e, f], _ => exact ⟨a, b, c, d, e, f, rfl⟩
  have line : sizeLine = 16777216 := sizeLine_eq
  have p32 := pow_le n5
  refine ⟨_, rfl, a, rfl, ⟨_, hS⟩, fun L nL => ?_⟩
  refine lc_list (K := K) (a := a) (xs := ns.map V.int) (fun j H' => Same H H' ∧ H' L = some (.lst (((ns.take j).map fun a => Builtin.bitAnd a k).map V.int))) ⟨same_upd nL, upd_same⟩ (fun j H' _ ⟨s2, _⟩ => s2.seq hS) ?_ ?_
  · rintro j y H2 hj ⟨s2, h2⟩
    obtain ⟨z, hz, rfl⟩ := int_item hj
    refine ⟨rfl, ?_⟩
    dsimp only [tYes]
    rw [if_pos rfl]
    refine ⟨_, rfl, _, rfl, _, _, rfl, rfl, _, h2, ?_, fun c o e => ?_, ?_⟩
    · rw [List.length_map, List.length_map, List.length_take]
      omega
    · rw [upd_ne (ne_of_none e nL)]
      exact s2 _ _ e
    · rw [upd_same, take_more hz, List.map_append, List.map_append]
      rfl
  rintro H1 ⟨s1, h1⟩
  rw [List.length_map, List.take_length] at h1
  refine ⟨_, rfl, _, _, rfl, rfl, ⟨n0, by omega, by decide⟩, _, rfl, sets_lo n, sets_hi n5, ?_⟩
  rw [turns_is]
  intro D nD
  refine lc_range (lo := 0) (n := 2 ^ n.toNat) (fun i H' => Same H1 H' ∧ H' D = some (.lst ((((List.range i).filter fun (b : Nat) => decide (Builtin.bitAnd (b : Int) k = (b : Int))).map fun (b : Nat) => decide ((b : Int) ∈ ns.map fun a => Builtin.bitAnd a k)).map V.bl))) ⟨same_upd nD, upd_same⟩ ?_ ?_
  · rintro i H2 hi ⟨s2, h2⟩
    rw [Int.zero_add]
    refine ⟨rfl, _, rfl, _, rfl, _, _, rfl, rfl, _, rfl, rfl, _, rfl, ?_⟩
    have e := range_more (fun (b : Nat) => decide (Builtin.bitAnd (b : Int) k = (b : Int))) (fun (b : Nat) => decide ((b : Int) ∈ ns.map fun a => Builtin.bitAnd a k)) i
    rw [dec_int]
    cases c : decide (Builtin.bitAnd (i : Int) k = (i : Int)) with
    | true =>
      refine iteT ⟨_, rfl, _, rfl, L, _, rfl, .inl (SqL.of (s2 _ _ h1)), rfl, flat_ints _, _, h2, ?_, fun q o e2 => ?_, ?_⟩
      · have q := range_few (fun (b : Nat) => decide (Builtin.bitAnd (b : Int) k = (b : Int))) i
        rw [List.length_map, List.length_map]
        omega
      · rw [upd_ne (ne_of_none e2 nD)]
        exact s2 _ _ e2
      · rw [upd_same, e, if_pos c, List.map_append]
        show some (HO.lst (_ ++ [V.bl (inV (.int i) ((ns.map fun a => Builtin.bitAnd a k).map V.int))])) = _
        rw [in_ints]
        rfl
    | false =>
      refine iteF ⟨s2, ?_⟩
      rw [e, if_neg (by rw [c]; exact Bool.false_ne_true)]
      exact h2
  · rintro H2 ⟨s2, h2⟩
    refine ⟨D, _, rfl, SqL.of h2, ?_⟩
    rw [List.all_map]
    exact fin H2 (s1.trans s2)
theorem pure_shattered {N : List Str} (hN : N.length = 3) {vs : List V} {H : Hp} {Q : VK} {E : XK} (h : sp1 PyKzx1.shattered K vs H Q E) : t_shattered (spIs K) (spCnt K) (spTld K) { nx := fun _ H' => Q .non H', rt := Q } (start N vs) H := by
  obtain ⟨n, a, ns, rfl, n0, hS, len1, x0, k⟩ := h
  obtain ⟨N0, N1, N2, rfl⟩ : ∃ a b c, N = [a, b, c] := by
    match N, hN with
    | [a, b, c], _ => exact ⟨a, b, c, rfl⟩
  refine pure_one (r := [none]) n0 hS x0 (fun e p hp => ?_) (fun e1 => ?_)
  · refine k _ p (same_upd hp) ?_
    rw [no_shattered _ _ e, upd_same]
    rfl
  have line : sizeLine = 16777216 := sizeLine_eq
  have n5 := (isFam_n e1).2
  have p32 := pow_le n5
  refine ⟨_, rfl, _, _, rfl, rfl, ⟨n0, by omega, by decide⟩, _, rfl, sets_lo n, sets_hi n5, ?_⟩
  rw [turns_is]
  intro D nD
  refine lc_range (lo := 0) (n := 2 ^ n.toNat) (fun i H' => Same H H' ∧ H' D = some (.lst ((pickd (fun m => tld n ns (m : Int)) i).map V.int))) ⟨same_upd nD, upd_same⟩ ?_ ?_
  · rintro i H2 hi ⟨s2, h2⟩
    rw [Int.zero_add]
    refine ⟨rfl, _, rfl, _, rfl, _, rfl, n, a, ns, _, rfl, n0, n5, s2.seq hS, len1, fun H3 s3 => ⟨_, rfl, ?_⟩⟩
    cases c : tld n ns (i : Int) with
    | true =>
      refine iteT ⟨_, rfl, _, s3 _ _ h2, ?_, fun q o e2 => ?_, ?_⟩
      · have q := pickd_len (fun m => tld n ns (m : Int)) i
        rw [List.length_map]
        omega
      · rw [upd_ne (ne_of_none e2 nD)]
        exact s3 _ _ (s2 _ _ e2)
      · rw [upd_same, pickd_more, if_pos c, List.map_append]
        rfl
    | false =>
      refine iteF ⟨s2.trans s3, ?_⟩
      rw [pickd_more, if_neg (by rw [c]; exact Bool.false_ne_true)]
      exact s3 _ _ h2
  · rintro H2 ⟨s2, h2⟩
    refine ⟨D, _, rfl, h2, ?_, fun z hz => ?_, fun H' q out s3 nq up mem hq => ?_⟩
    · have q := pickd_len (fun m => tld n ns (m : Int)) (2 ^ n.toNat)
      omega
    · obtain ⟨c, hc, _, e⟩ := mem_pickd.mp hz
      omega
    · refine k H' q (s2.trans s3) ?_
      rw [hq, yes_shattered n ns out e1 x0 up mem]
end

/-! ### the request of shown -/
section
open PySem.W (WData Codec)
variable {K : PySem.W.Frag} {H : Hp}
/-- a request of two numbers and two lists -/
theorem req3 {f : Int → Int → List Int → List Int → List Int} {xs : List V} {n m : Int} {ns ms : List Int} (hx : DwAll K H xs [.int n, .int m, .list (ns.map WData.int), .list (ms.map WData.int)])
    (hw : (Codec.inInt (Int.ofNat 0) big n && (Codec.inInt (Int.ofNat 0) big m && ((Codec.inLen 0 40 ns && ns.all (Codec.inInt (Int.ofNat 0) big)) && ((Codec.inLen 0 40 ms && ms.all (Codec.inInt (Int.ofNat 0) big)) && true)))) = true) {E : XK} :
    sp3 f K xs H (fun v H' => Dw K H' v (.list ((f n m ns ms).map WData.int))) E := by
  obtain ⟨r, rfl, hx0⟩ := arg_int hx
  obtain ⟨r, rfl, hx1⟩ := arg_int hx0
  obtain ⟨a, r, rfl, hS, hx2⟩ := arg_lst hx1
  obtain ⟨b, r, rfl, hT, hx3⟩ := arg_lst hx2
  have e := arg_nil hx3
  subst e
  obtain ⟨w1, w2⟩ := Bool.and_eq_true_iff.mp hw
  obtain ⟨w5, w2⟩ := Bool.and_eq_true_iff.mp w2
  obtain ⟨w3, w4⟩ := Bool.and_eq_true_iff.mp w2
  have h1 := in_lst w3
  have h2 := in_lst (Bool.and_eq_true_iff.mp w4).1
  exact ⟨n, m, a, b, ns, ms, rfl, in_int w1, in_int w5, hS, hT, h1.1, h2.1, h1.2, h2.2, fun H' p hp => .lst (SqL.of hp) (dw_ints _)⟩
end
end Fam

set_option Elab.async false
set_option maxRecDepth 100000
set_option maxHeartbeats 2000000
namespace Fam
open PySem PySem.Spec PyProof.Rows L2
open PySem.W (Codec)
/-! ### the text by places -/
def top (i : Nat) : Stmt := PySem.Challenge.pw_setfamilies_s07_both.main.body.getD i (.Pass ⟨0, 0, 0, 0⟩)
abbrev s_is_family : Stmt := top 3
abbrev s_both : Stmt := top 4
/-- what the top has written -/
structure Txt (mg : Str → Option Value) (f_is_family f_both : Addr) : Prop where
  c_NO_FAMILY : ∃ t, mg "NO_FAMILY" = some (.int (-22) t)
  c_MOST_THINGS : ∃ t, mg "MOST_THINGS" = some (.int (5) t)
  d_is_family : mg "is_family" = some (.ref f_is_family)
  d_both : mg "both" = some (.ref f_both)
  b_len : mg "len" = none
section
variable {P : Program} {w : World} {K : PySem.W.Frag} {mg : Str → Option Value} {base : Heap} {f_is_family f_both : Addr}
theorem sc_is_family : FnScope ["n", "x", "beyond", "least", "a"] ["n", "x"] (defScope s_is_family) := ⟨rfl, rfl, rfl, by decide +kernel, rfl, by decide +kernel, by decide +kernel⟩
theorem ok_is_family {fd : FuncData} (F : Fun K "is_family" "is_family" s_is_family f_is_family fd) (T : Txt mg f_is_family f_both) :
    FnOk P w K mg base CX0 1 f_is_family fd ["n", "x"] (spIs K) := by
  obtain ⟨t_MOST_THINGS, h_MOST_THINGS⟩ := T.c_MOST_THINGS
  refine F.ok sc_is_family (fun vs H Q E h => ?_) (fun cdv A outer s H vs Q E hr h => ⟨t_is K, ?_, pure_is rfl h⟩)
  · obtain ⟨n, a, ns, rfl, _⟩ := h
    rfl
  · exact pss_cons (ps_if (PW.pt (pw_or (pt_cmpR op_lt (pv 0) pe_int (nomark _)) (pw_or1 (pt_cmpR op_gt (pv 0) (pe_glob (v := .int (5)) rfl h_MOST_THINGS ⟨_, rfl⟩) (nomark _))))) (pss_one (ps_ret pe_bl)) pss_nil)
      (pss_cons (ps_set (i := 2) sc_is_family.nd rfl (Or.inl rfl) (pe_op op_shl pe_int (pv 0)))
      (pss_cons (ps_set (i := 3) sc_is_family.nd rfl (Or.inl rfl) pe_int)
      (pss_cons (ps_for PassesOwn.never rfl (pi_list (pv 1)) (pg_name (i := 4) sc_is_family.nd rfl (Or.inl rfl))
        (pss_cons (ps_if (PW.pt (pw_or (pt_cmpR op_lt (pv 4) (pv 3) (nomark _)) (pw_or1 (pt_cmpR op_ge (pv 4) (pv 2) (nomark _))))) (pss_one (ps_ret pe_bl)) pss_nil)
          (pss_one (ps_set (i := 3) sc_is_family.nd rfl (Or.inl rfl) (pe_op op_add (pv 4) pe_int)))))
      (pss_one (ps_ret pe_bl)))))
theorem sc_both : FnScope ["n", "x", "y", "a"] ["n", "x", "y"] (defScope s_both) := ⟨rfl, rfl, rfl, by decide +kernel, rfl, by decide +kernel, by decide +kernel⟩
theorem ok_both {fd : FuncData} {fd_is_family : FuncData} (F : Fun K "both" "both" s_both f_both fd) (T : Txt mg f_is_family f_both) (G_is_family : Def P w K mg base 1 f_is_family fd_is_family ["n", "x"] (spIs K)) :
    FnOk P w K mg base CX0 2 f_both fd ["n", "x", "y"] (sp2 PyKzx1.both K) := by
  obtain ⟨t_NO_FAMILY, h_NO_FAMILY⟩ := T.c_NO_FAMILY
  refine F.ok sc_both (fun vs H Q E h => ?_) (fun cdv A outer s H vs Q E hr h => ⟨t_both K (spIs K), ?_, pure_both rfl h⟩)
  · obtain ⟨n, a, b, ns, ms, rfl, _⟩ := h
    rfl
  · exact pss_cons (ps_if (PW.pt (pw_or (pt_not (pt_val (pe_call G_is_family.ok hr rfl T.d_is_family G_is_family.kp G_is_family.b .nil pass0 (pa_cons (pv 0) (pa_cons (pv 1) pa_nil))))) (pw_or1 (pt_not (pt_val (pe_call G_is_family.ok hr rfl T.d_is_family G_is_family.kp G_is_family.b .nil pass0 (pa_cons (pv 0) (pa_cons (pv 2) pa_nil))))))))
        (pss_one (ps_ret (pe_lst (pa_cons (pe_glob (v := .int (-22)) rfl h_NO_FAMILY ⟨_, rfl⟩) pa_nil)))) pss_nil)
      (pss_one (ps_ret (pe_lst (pa_cons (pe_callB call_len_seq (by rfl) T.b_len (by decide +kernel) (pa_cons
        (pe_lc (own := [("a", 3)]) (g := gName 3) (tt := (tTest (tOp (rIn K false) (tVar 3) (tVar 2)))) rfl sc_both.nd (pi_list (pv 1)) (blkOk_by (own := [("a", 3)]) (N := ["n", "x", "y", "a"]) (sc := defScope s_both) (by decide +kernel)) (fun _ _ _ _ _ => pg_name (i := 3) sc_both.nd rfl (Or.inl rfl)) (fun _ _ _ _ _ => pts_one (pt_cmpR op_in_seq (pv 3) (pv 2) (by rfl))) (fun _ _ _ _ _ => pv 3)) pa_nil)) pa_nil))))
end
theorem all_mk {P : Program} {w : World} {K : PySem.W.Frag} {h : Heap} {mg : Str → Option Value} {fa f_is_family f_both : Addr} (X : K.In h) (G : h.Ns mainGlobals mg) (hfa : mg "both" = some (.ref fa))
    {od_is_family an_is_family od_both an_both : Option Addr} {sl_is_family sl_both : Array (Option Value)} {oc_is_family kV_is_family dc_is_family pm_is_family cd_is_family ct_is_family oc_both kV_both dc_both pm_both cd_both ct_both : Value} {t_NO_FAMILY t_MOST_THINGS : Tok}
    (v_NO_FAMILY : PySem.W.nsIn K mainGlobals "NO_FAMILY" = some (some (.int (-22) t_NO_FAMILY)))
    (v_MOST_THINGS : PySem.W.nsIn K mainGlobals "MOST_THINGS" = some (some (.int (5) t_MOST_THINGS)))
    (g_len : PySem.W.nsIn K mainGlobals "len" = some none)
    (a_is_family : PySem.W.nsIn K mainGlobals "is_family" = some (some (.ref f_is_family))) (l_is_family : K.lookup f_is_family = some ⟨oc_is_family, od_is_family, .func (PySem.W.fnOf "is_family" "is_family" (defArgs s_is_family) (defBody s_is_family) (defScope s_is_family) .none kV_is_family dc_is_family pm_is_family an_is_family cd_is_family ct_is_family), sl_is_family⟩) (c_is_family : PySem.W.codeIn K cd_is_family "is_family" = true) (k_is_family : PySem.W.keepIn K (.ref f_is_family) = true)
    (a_both : PySem.W.nsIn K mainGlobals "both" = some (some (.ref f_both))) (l_both : K.lookup f_both = some ⟨oc_both, od_both, .func (PySem.W.fnOf "both" "both" (defArgs s_both) (defBody s_both) (defScope s_both) .none kV_both dc_both pm_both an_both cd_both ct_both), sl_both⟩) (c_both : PySem.W.codeIn K cd_both "both" = true) (k_both : PySem.W.keepIn K (.ref f_both) = true) :
    ∃ fd : FuncData, (∀ (s : Shared) (us : List Value), us.length = (["n", "x", "y"] : List Str).length → BindsTo s fd ⟨us, []⟩ ((["n", "x", "y"] : List Str).zip us)) ∧ ∀ base : Heap, K.In base → base.Ns mainGlobals mg → FnOk P w K mg base CX0 2 fa fd ["n", "x", "y"] (sp2 PyKzx1.both K) := by
  have e := hfa.symm.trans (PySem.W.mg_of X G a_both)
  cases e
  have T : Txt mg f_is_family fa := ⟨⟨_, PySem.W.mg_of X G v_NO_FAMILY⟩, ⟨_, PySem.W.mg_of X G v_MOST_THINGS⟩, PySem.W.mg_of X G a_is_family, PySem.W.mg_of X G a_both, PySem.W.mg_none_of X G g_len⟩
  have F_is_family := fun_mk (st := s_is_family) l_is_family c_is_family k_is_family
  have F_both := fun_mk (st := s_both) l_both c_both k_both
  have b_is_family := F_is_family.binds (ps := ["n", "x"]) fun _ _ _ _ _ _ us hl => match us, hl with | [_, _], _ => rfl
  refine ⟨PySem.W.fnOf "both" "both" (defArgs s_both) (defBody s_both) (defScope s_both) .none kV_both dc_both pm_both an_both cd_both ct_both, fun s us hu => match us, hu with | [_, _, _], _ => .of_eq rfl, fun base _ _ => ?_⟩
  have G_is_family : Def P w K mg base 1 f_is_family _ ["n", "x"] (spIs K) := ⟨ok_is_family F_is_family T, F_is_family.kp, b_is_family⟩
  exact ok_both F_both T G_is_family
end Fam
open PySem PySem.W PyProof.Rows
set_option maxRecDepth 100000 in
set_option maxHeartbeats 0 in
theorem PySem.Challenge.cw_setfamilies_s07_both_holds : PySem.Challenge.rw_setfamilies_s07_both.Holds := by
  w_on; k_headS; (case hw => exact ⟨[.int 1, .list [], .list []], by decide +kernel, by decide +kernel⟩)
  k_fillS
  refine L2.walk_specK (r := PySem.Challenge.rw_setfamilies_s07_both) (k := 2) (CX := L2.CX0) (ps := ["n", "x", "y"]) (sp := fun K => Fam.sp2 PyKzx1.both K) (by decide +kernel) rfl rfl ⟨rfl, by decide, by decide⟩ (fun w h Y => PySem.W.kIn_of Y) ?F ?S (fun _ _ _ _ z => z)
  case F =>
    intro w mg fa h Y KX G hmg
    refine' Fam.all_mk KX G hmg ?v_NO_FAMILY ?v_MOST_THINGS ?g_len ?a_is_family ?l_is_family ?c_is_family ?k_is_family ?a_both ?l_both ?c_both ?k_both
    (case v_NO_FAMILY => k_is)
    (case v_MOST_THINGS => k_is)
    (case g_len => k_is)
    (case a_is_family => k_is)
    (case l_is_family => k_is)
    (case c_is_family => k_is)
    (case k_is_family => k_is)
    (case a_both => k_is)
    (case l_both => k_is)
    (case c_both => k_is)
    (case k_both => k_is)
  case S =>
    intro K H xs a hO hwi hask hx
    exact Fam.req2 (n := a.1) (ns := a.2.1) (ms := a.2.2.1) hx hwi
#print axioms PySem.Challenge.cw_setfamilies_s07_both_holds
