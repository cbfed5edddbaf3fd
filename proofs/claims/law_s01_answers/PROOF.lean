import PyProof.Rows.All
import Wide.All
import OpenK.AllK
import Wide.FinOn
import Open.SpecLaws
import KE.OsGo
import HandS.ForSpec
import HandS.Comp
import HandS.Iter
import HandS.Walk
import HandS.More
import PySem.Challenge.RW_cellskept_s01_answers
set_option Elab.async false
set_option linter.all false
set_option maxRecDepth 100000
set_option maxHeartbeats 4000000
namespace CK
/-! ### sums over 0 .. n-1 -/
def su : Nat → (Nat → Nat) → Nat
  | 0, _ => 0
  | n + 1, f => su n f + f n
theorem su_congr : ∀ {n : Nat} {f g : Nat → Nat}, (∀ i, i < n → f i = g i) → su n f = su n g
  | 0, _, _, _ => rfl
  | n + 1, f, g, h => by
    show su n f + f n = su n g + g n
    rw [su_congr (n := n) fun i hi => h i (Nat.lt_succ_of_lt hi), h n (Nat.lt_succ_self n)]
theorem su_le : ∀ {n : Nat} {f g : Nat → Nat}, (∀ i, i < n → f i ≤ g i) → su n f ≤ su n g
  | 0, _, _, _ => Nat.le_refl _
  | n + 1, f, g, h => by
    have := su_le (n := n) fun i hi => h i (Nat.lt_succ_of_lt hi)
    have := h n (Nat.lt_succ_self n)
    show su n f + f n ≤ su n g + g n
    omega
theorem su_add : ∀ (n : Nat) (f g : Nat → Nat), su n (fun i => f i + g i) = su n f + su n g
  | 0, _, _ => rfl
  | n + 1, f, g => by
    show su n (fun i => f i + g i) + (f n + g n) = (su n f + f n) + (su n g + g n)
    rw [su_add n f g]
    omega
theorem su_zero : ∀ {n : Nat} {f : Nat → Nat}, (∀ i, i < n → f i = 0) → su n f = 0
  | 0, _, _ => rfl
  | n + 1, f, h => by
    show su n f + f n = 0
    rw [su_zero (n := n) fun i hi => h i (Nat.lt_succ_of_lt hi), h n (Nat.lt_succ_self n)]
theorem su_one : ∀ {n i : Nat} (v : Nat), i < n → su n (fun k => if k = i then v else 0) = v
  | 0, i, v, h => absurd h (Nat.not_lt_zero _)
  | n + 1, i, v, h => by
    show su n (fun k => if k = i then v else 0) + (if n = i then v else 0) = v
    by_cases e : n = i
    · subst e
      rw [su_zero fun k hk => if_neg (by omega), if_pos rfl]
      omega
    · rw [if_neg e, su_one v (by omega)]
      omega
theorem su_mem : ∀ {n i : Nat} (f : Nat → Nat), i < n → f i ≤ su n f
  | 0, i, f, h => absurd h (Nat.not_lt_zero _)
  | n + 1, i, f, h => by
    show f i ≤ su n f + f n
    by_cases e : i = n
    · subst e; omega
    · have := su_mem f (show i < n by omega)
      omega
/-- a sum over some -/
def sb (n : Nat) (S : Nat → Bool) (f : Nat → Nat) : Nat := su n fun i => if S i = true then f i else 0
theorem sb_congr {n : Nat} {S T : Nat → Bool} {f g : Nat → Nat} (h : ∀ i, i < n → S i = T i) (h' : ∀ i, i < n → S i = true → f i = g i) : sb n S f = sb n T g := by
  refine su_congr fun i hi => ?_
  rw [← h i hi]
  by_cases c : S i = true
  · rw [if_pos c, if_pos c, h' i hi c]
  · rw [if_neg c, if_neg c]
theorem sb_le {n : Nat} {S T : Nat → Bool} {f : Nat → Nat} (h : ∀ i, i < n → S i = true → T i = true) : sb n S f ≤ sb n T f := by
  refine su_le fun i hi => ?_
  by_cases c : S i = true
  · rw [if_pos c, if_pos (h i hi c)]
    exact Nat.le_refl _
  · rw [if_neg c]
    exact Nat.zero_le _
/-- one taken less -/
theorem sb_less {n i v : Nat} {S : Nat → Bool} {f : Nat → Nat} (hi : i < n) (hv : v ≤ f i) (hS : S i = true) : sb n S (So02.lessAt f i v) + v = sb n S f := by
  have e := su_add n (fun k => if S k = true then So02.lessAt f i v k else 0) (fun k => if k = i then v else 0)
  rw [su_one v hi] at e
  show su n (fun k => if S k = true then So02.lessAt f i v k else 0) + v = su n fun k => if S k = true then f k else 0
  rw [← e]
  refine su_congr fun k _ => ?_
  by_cases c : k = i
  · subst c
    rw [if_pos hS, if_pos hS, if_pos rfl]
    show (if k = k then f k - v else f k) + v = f k
    rw [if_pos rfl]
    omega
  · rw [if_neg c]
    show (if S k = true then (if k = i then f k - v else f k) else 0) + 0 = _
    rw [if_neg c]
    rfl
theorem sb_same {n i v : Nat} {S : Nat → Bool} {f : Nat → Nat} (hS : S i = false) : sb n S (So02.lessAt f i v) = sb n S f := by
  refine su_congr fun k _ => ?_
  by_cases c : S k = true
  · rw [if_pos c, if_pos c]
    show (if k = i then f k - v else f k) = f k
    refine if_neg fun e => ?_
    rw [e, hS] at c
    cases c
  · rw [if_neg c, if_neg c]
theorem su_less {n i v : Nat} {f : Nat → Nat} (hi : i < n) (hv : v ≤ f i) : su n (So02.lessAt f i v) + v = su n f := by
  have := sb_less (S := fun _ => true) hi hv rfl
  exact this
theorem su_ge {n i : Nat} {f : Nat → Nat} (hi : i < n) : f i ≤ su n f := su_mem f hi
/-- union and meet -/
theorem sb_cup {n : Nat} (S T : Nat → Bool) (f : Nat → Nat) : sb n (fun i => S i || T i) f + sb n (fun i => S i && T i) f = sb n S f + sb n T f := by
  unfold sb
  rw [← su_add, ← su_add]
  refine su_congr fun i _ => ?_
  show (if (S i || T i) = true then f i else 0) + (if (S i && T i) = true then f i else 0) = (if S i = true then f i else 0) + (if T i = true then f i else 0)
  cases S i <;> cases T i <;> simp
/-! ### Hall's condition for sums -/
section
variable (r c : Nat) (ro co : Nat → Nat)
def Nb (h : List Nat) (S : Nat → Bool) (j : Nat) : Bool := h.any fun p => S (ro p) && co p == j
structure HC (h : List Nat) (a b : Nat → Nat) : Prop where
  tot : su r a = su c b
  all : ∀ S : Nat → Bool, sb r S a ≤ sb c (Nb ro co h S) b
end
def rs (ro : Nat → Nat) (h : List Nat) (x : Nat → Nat) (i : Nat) : Nat := So02.total ((h.filter fun p => ro p == i).map x)
theorem rs_nil {ro x : Nat → Nat} {i : Nat} : rs ro [] x i = 0 := rfl
theorem rs_cons {ro x : Nat → Nat} {p : Nat} {h : List Nat} {i : Nat} : rs ro (p :: h) x i = (if ro p = i then x p else 0) + rs ro h x i := by
  unfold rs
  rw [List.filter_cons]
  by_cases c : ro p = i
  · rw [if_pos c, if_pos (by simp [c])]
    rfl
  · rw [if_neg c, if_neg (by simp [c])]
    omega
theorem rs_congr {ro x y : Nat → Nat} : ∀ {h : List Nat}, (∀ p ∈ h, x p = y p) → ∀ i, rs ro h x i = rs ro h y i
  | [], _, _ => rfl
  | p :: h, e, i => by
    rw [rs_cons, rs_cons, rs_congr (h := h) (fun q hq => e q (List.mem_cons_of_mem _ hq)) i, e p List.mem_cons_self]
structure Fil (r c : Nat) (ro co : Nat → Nat) (h : List Nat) (a b x : Nat → Nat) : Prop where
  row : ∀ i, i < r → rs ro h x i = a i
  col : ∀ j, j < c → rs co h x j = b j
theorem least_ex (P : Nat → Prop) : (∃ n, P n) → ∃ n, P n ∧ ∀ m, P m → n ≤ m := by
  intro ⟨n, hn⟩
  refine Classical.byContradiction fun no => ?_
  have all : ∀ k m, m ≤ k → ¬ P m := by
    intro k
    induction k with
    | zero =>
      intro m hm pm
      exact no ⟨m, pm, fun q _ => by omega⟩
    | succ k ih =>
      intro m hm pm
      refine no ⟨m, pm, fun q pq => ?_⟩
      refine Classical.byContradiction fun lt => ih q (by omega) pq
  exact all n n (Nat.le_refl _) hn
section
variable {r c : Nat} {ro co : Nat → Nat}
theorem nb_cons {e : Nat} {h : List Nat} {S : Nat → Bool} {j : Nat} : Nb ro co (e :: h) S j = ((S (ro e) && co e == j) || Nb ro co h S j) := rfl
theorem nb_mono {h : List Nat} {S T : Nat → Bool} (hs : ∀ i, S i = true → T i = true) {j : Nat} (q : Nb ro co h S j = true) : Nb ro co h T j = true := by
  unfold Nb at *
  rw [List.any_eq_true] at *
  obtain ⟨p, hp, hq⟩ := q
  rw [Bool.and_eq_true] at hq
  exact ⟨p, hp, by rw [Bool.and_eq_true]; exact ⟨hs _ hq.1, hq.2⟩⟩
theorem nb_cup {h : List Nat} {S T : Nat → Bool} {j : Nat} : Nb ro co h (fun i => S i || T i) j = (Nb ro co h S j || Nb ro co h T j) := by
  unfold Nb
  induction h with
  | nil => rfl
  | cons p h ih =>
    simp only [List.any_cons, ih]
    cases S (ro p) <;> cases T (ro p) <;> cases (co p == j) <;> simp
/-- the least that e must be, with the others able to -/
theorem hall_step {e : Nat} {h : List Nat} {a b : Nat → Nat} (hr : ro e < r) (hc : co e < c) (H : HC r c ro co (e :: h) a b) :
    ∃ v, v ≤ a (ro e) ∧ v ≤ b (co e) ∧ HC r c ro co h (So02.lessAt a (ro e) v) (So02.lessAt b (co e) v) := by
  have nb_out : ∀ S : Nat → Bool, S (ro e) = false → ∀ j, Nb ro co (e :: h) S j = Nb ro co h S j := by
    intro S hS j
    rw [nb_cons, hS]
    rfl
  have nb_in : ∀ S : Nat → Bool, Nb ro co h S (co e) = true → ∀ j, Nb ro co (e :: h) S j = Nb ro co h S j := by
    intro S hS j
    rw [nb_cons]
    by_cases q : co e = j
    · rw [← q, hS]
      simp
    · simp [q]
  let P : Nat → Prop := fun v => ∀ S : Nat → Bool, S (ro e) = true → Nb ro co h S (co e) = false → sb r S a ≤ v + sb c (Nb ro co h S) b
  have Pa : P (a (ro e)) := by
    intro S hS hN
    let T : Nat → Bool := fun i => S i && (i != ro e)
    have h1 : sb r S a ≤ a (ro e) + sb r T a := by
      have e1 := su_add r (fun k => if k = ro e then a (ro e) else 0) (fun k => if T k = true then a k else 0)
      rw [su_one _ hr] at e1
      show sb r S a ≤ a (ro e) + su r (fun k => if T k = true then a k else 0)
      rw [← e1]
      refine su_le fun k _ => ?_
      by_cases q : k = ro e
      · rw [q, if_pos rfl, hS, if_pos rfl]
        exact Nat.le_add_right _ _
      · rw [if_neg q]
        have : T k = S k := by
          show (S k && (k != ro e)) = S k
          simp [q]
        rw [this]
        omega
    have h2 := H.all T
    have h3 : sb c (Nb ro co (e :: h) T) b ≤ sb c (Nb ro co h S) b := by
      refine sb_le fun j _ q => ?_
      rw [nb_out T (by show (S (ro e) && (ro e != ro e)) = false; simp)] at q
      exact nb_mono (S := T) (fun i z => by
        have z' : (S i && (i != ro e)) = true := z
        rw [Bool.and_eq_true] at z'
        exact z'.1) q
    omega
  have Pb : P (b (co e)) := by
    intro S hS hN
    have h2 := H.all S
    have h3 : sb c (Nb ro co (e :: h) S) b ≤ b (co e) + sb c (Nb ro co h S) b := by
      have e1 := su_add c (fun k => if k = co e then b (co e) else 0) (fun k => if Nb ro co h S k = true then b k else 0)
      rw [su_one _ hc] at e1
      show sb c (Nb ro co (e :: h) S) b ≤ b (co e) + su c (fun k => if Nb ro co h S k = true then b k else 0)
      rw [← e1]
      refine su_le fun k _ => ?_
      by_cases q : k = co e
      · subst q
        rw [if_pos rfl]
        split <;> omega
      · rw [if_neg q]
        have : Nb ro co (e :: h) S k = Nb ro co h S k := by
          rw [nb_cons]
          have : (co e == k) = false := by simp; exact fun z => q z.symm
          rw [this]
          simp
        rw [this]
        omega
    omega
  obtain ⟨v, Pv, hmin⟩ := least_ex P ⟨_, Pa⟩
  have va := hmin _ Pa
  have vb := hmin _ Pb
  refine ⟨v, va, vb, ⟨?_, ?_⟩⟩
  · have h1 := su_less hr va
    have h2 := su_less hc vb
    have := H.tot
    omega
  · intro T
    by_cases hT : T (ro e) = true
    · have h1 := sb_less (S := T) hr va hT
      by_cases hN : Nb ro co h T (co e) = true
      · have h2 := sb_less (S := Nb ro co h T) hc vb hN
        have h3 := H.all T
        rw [sb_congr (T := Nb ro co h T) (g := b) (fun j _ => nb_in T hN j) (fun _ _ _ => rfl)] at h3
        omega
      · have hN' : Nb ro co h T (co e) = false := by simpa using hN
        rw [sb_same (S := Nb ro co h T) hN']
        have := Pv T hT hN'
        omega
    · have hT' : T (ro e) = false := by simpa using hT
      rw [sb_same (S := T) hT']
      have h3 := H.all T
      rw [sb_congr (T := Nb ro co h T) (g := b) (fun j _ => nb_out T hT' j) (fun _ _ _ => rfl)] at h3
      by_cases hN : Nb ro co h T (co e) = true
      · have h2 := sb_less (S := Nb ro co h T) hc vb hN
        by_cases v0 : v = 0
        · omega
        · -- a tight set
          have np : ¬ P (v - 1) := fun q => by have := hmin _ q; omega
          have : ∃ S : Nat → Bool, S (ro e) = true ∧ Nb ro co h S (co e) = false ∧ v + sb c (Nb ro co h S) b ≤ sb r S a := by
            refine Classical.byContradiction fun no => np fun S hS hN2 => ?_
            refine Classical.byContradiction fun lt => no ⟨S, hS, hN2, by omega⟩
          obtain ⟨S, hS, hN2, tight⟩ := this
          have c1 := sb_cup (n := r) S T a
          have c2 := sb_cup (n := c) (Nb ro co h S) (Nb ro co h T) b
          have u1 := H.all fun i => S i || T i
          rw [sb_congr (T := fun j => Nb ro co h S j || Nb ro co h T j) (g := b) (fun j _ => by
            rw [nb_in _ (by rw [nb_cup, hN]; simp), nb_cup]) (fun _ _ _ => rfl)] at u1
          have u2 := H.all fun i => S i && T i
          have u3 : sb c (Nb ro co (e :: h) fun i => S i && T i) b ≤ sb c (fun j => Nb ro co h S j && Nb ro co h T j) b := by
            refine sb_le fun j _ q => ?_
            rw [nb_out _ (by simp [hT'])] at q
            rw [Bool.and_eq_true]
            exact ⟨nb_mono (fun i z => by rw [Bool.and_eq_true] at z; exact z.1) q, nb_mono (fun i z => by rw [Bool.and_eq_true] at z; exact z.2) q⟩
          omega
      · have hN' : Nb ro co h T (co e) = false := by simpa using hN
        rw [sb_same (S := Nb ro co h T) hN']
        exact h3
/-- one cell set, the others filled -/
theorem fil_cons {e v : Nat} {h : List Nat} {a b x : Nat → Nat} (ne : e ∉ h) (va : v ≤ a (ro e)) (vb : v ≤ b (co e))
    (F : Fil r c ro co h (So02.lessAt a (ro e) v) (So02.lessAt b (co e) v) x) : Fil r c ro co (e :: h) a b (fun p => if p = e then v else x p) := by
  have k : ∀ (f : Nat → Nat) (i : Nat), rs f h (fun p => if p = e then v else x p) i = rs f h x i := fun f i => rs_congr (fun p hp => if_neg fun (z : p = e) => ne (z ▸ hp)) i
  refine ⟨fun i hi => ?_, fun j hj => ?_⟩
  · rw [rs_cons, k, F.row i hi, if_pos rfl]
    show _ + (if i = ro e then a i - v else a i) = a i
    by_cases q : i = ro e
    · subst q
      rw [if_pos rfl, if_pos rfl]
      omega
    · rw [if_neg q, if_neg fun z => q z.symm]
      omega
  · rw [rs_cons, k, F.col j hj, if_pos rfl]
    show _ + (if j = co e then b j - v else b j) = b j
    by_cases q : j = co e
    · subst q
      rw [if_pos rfl, if_pos rfl]
      omega
    · rw [if_neg q, if_neg fun z => q z.symm]
      omega
theorem hall : ∀ {h : List Nat} {a b : Nat → Nat}, h.Nodup → (∀ p ∈ h, ro p < r ∧ co p < c) → HC r c ro co h a b → ∃ x, Fil r c ro co h a b x
  | [], a, b, _, _, H => by
    have za : ∀ i, i < r → a i = 0 := by
      intro i hi
      have h1 := H.all fun _ => true
      have h2 : sb c (Nb ro co [] fun _ => true) b = 0 := su_zero fun j _ => if_neg (by show ¬ false = true; simp)
      have h3 : sb r (fun _ => true) a = su r a := rfl
      have := su_mem a hi
      omega
    have zb : ∀ j, j < c → b j = 0 := by
      intro j hj
      have h1 : su r a = 0 := su_zero za
      have := H.tot
      have := su_mem b hj
      omega
    exact ⟨fun _ => 0, fun i hi => (za i hi).symm, fun j hj => (zb j hj).symm⟩
  | e :: h, a, b, nd, hin, H => by
    have he := hin e List.mem_cons_self
    obtain ⟨v, va, vb, H'⟩ := hall_step he.1 he.2 H
    rw [List.nodup_cons] at nd
    obtain ⟨x, F⟩ := hall nd.2 (fun p hp => hin p (List.mem_cons_of_mem _ hp)) H'
    exact ⟨_, fil_cons nd.1 va vb F⟩
/-- the other way: what is filled keeps the condition -/
theorem sb_rs {f : Nat → Nat} {n : Nat} {S : Nat → Bool} {x : Nat → Nat} : ∀ {h : List Nat}, (∀ p ∈ h, f p < n) → sb n S (rs f h x) = So02.total ((h.filter fun p => S (f p)).map x)
  | [], _ => su_zero fun i _ => by split <;> rfl
  | p :: h, q => by
    have hp := q p List.mem_cons_self
    have ih := sb_rs (S := S) (x := x) (h := h) fun p hp => q p (List.mem_cons_of_mem _ hp)
    have e1 : sb n S (rs f (p :: h) x) = (if S (f p) = true then x p else 0) + sb n S (rs f h x) := by
      have e2 := su_add n (fun k => if k = f p then (if S (f p) = true then x p else 0) else 0) (fun k => if S k = true then rs f h x k else 0)
      rw [su_one _ hp] at e2
      show _ = _ + su n (fun k => if S k = true then rs f h x k else 0)
      rw [← e2]
      refine su_congr fun k _ => ?_
      rw [rs_cons]
      by_cases z : k = f p
      · subst z
        rw [if_pos rfl, if_pos rfl]
        split <;> rfl
      · rw [if_neg z, if_neg (fun z' => z z'.symm : ¬ f p = k), Nat.zero_add, Nat.zero_add]
    rw [e1, ih, List.filter_cons]
    split
    · rfl
    · omega
theorem total_le {x : Nat → Nat} {A B : Nat → Bool} : ∀ {h : List Nat}, (∀ p ∈ h, A p = true → B p = true) → So02.total ((h.filter A).map x) ≤ So02.total ((h.filter B).map x)
  | [], _ => Nat.le_refl _
  | p :: h, q => by
    have ih := total_le (x := x) (A := A) (B := B) (h := h) fun p hp => q p (List.mem_cons_of_mem _ hp)
    rw [List.filter_cons, List.filter_cons]
    by_cases z : A p = true
    · rw [if_pos z, if_pos (q p List.mem_cons_self z)]
      exact Nat.add_le_add_left ih _
    · rw [if_neg z]
      split
      · exact Nat.le_trans ih (Nat.le_add_left _ _)
      · exact ih
theorem hall_back {h : List Nat} {a b x : Nat → Nat} (hin : ∀ p ∈ h, ro p < r ∧ co p < c) (F : Fil r c ro co h a b x) : HC r c ro co h a b := by
  have ea : ∀ S : Nat → Bool, sb r S a = So02.total ((h.filter fun p => S (ro p)).map x) := fun S => by
    rw [← sb_rs fun p hp => (hin p hp).1]
    exact sb_congr (fun _ _ => rfl) fun i hi _ => (F.row i hi).symm
  have eb : ∀ S : Nat → Bool, sb c S b = So02.total ((h.filter fun p => S (co p)).map x) := fun S => by
    rw [← sb_rs fun p hp => (hin p hp).2]
    exact sb_congr (fun _ _ => rfl) fun i hi _ => (F.col i hi).symm
  refine ⟨?_, fun S => ?_⟩
  · have h1 := ea fun _ => true
    have h2 := eb fun _ => true
    exact h1.trans h2.symm
  · rw [ea, eb]
    refine total_le fun p hp hS => ?_
    exact List.any_eq_true.mpr ⟨p, hp, by simp [hS]⟩
theorem hall_iff {h : List Nat} {a b : Nat → Nat} (nd : h.Nodup) (hin : ∀ p ∈ h, ro p < r ∧ co p < c) : HC r c ro co h a b ↔ ∃ x, Fil r c ro co h a b x :=
  ⟨hall nd hin, fun ⟨_, F⟩ => hall_back hin F⟩
end
end CK
namespace CK
open So02
/-! ### the specification's sums and subsets -/
theorem total_append : ∀ (l m : List Nat), total (l ++ m) = total l + total m
  | [], m => by show total m = 0 + total m; omega
  | x :: l, m => by
    show x + total (l ++ m) = x + total l + total m
    rw [total_append l m]
    omega
theorem total_range (n : Nat) (f : Nat → Nat) : total ((List.range n).map f) = su n f := by
  induction n with
  | zero => rfl
  | succ n ih =>
    rw [List.range_succ, List.map_append, total_append, ih]
    rfl
theorem total_pick (n : Nat) (S : Nat → Bool) (f : Nat → Nat) : total (((List.range n).filter S).map f) = sb n S f := by
  induction n with
  | zero => rfl
  | succ n ih =>
    rw [List.range_succ, List.filter_append, List.map_append, total_append, ih]
    show _ = sb n S f + (if S n = true then f n else 0)
    congr 1
    rw [List.filter_cons]
    split <;> rfl
theorem subs_filter (S : Nat → Bool) : ∀ l : List Nat, l.filter S ∈ subsets l
  | [] => by show [] ∈ [[]]; exact List.mem_singleton.mpr rfl
  | x :: l => by
    show (x :: l).filter S ∈ subsets l ++ (subsets l).map fun s => x :: s
    rw [List.filter_cons]
    split
    · exact List.mem_append.mpr (.inr (List.mem_map.mpr ⟨_, subs_filter S l, rfl⟩))
    · exact List.mem_append.mpr (.inl (subs_filter S l))
theorem subs_sub : ∀ {l s : List Nat}, s ∈ subsets l → ∀ x ∈ s, x ∈ l
  | [], s, h, x, hx => by
    have : s = [] := List.mem_singleton.mp h
    subst this
    exact hx
  | y :: l, s, h, x, hx => by
    have h' : s ∈ subsets l ++ (subsets l).map fun s => y :: s := h
    rcases List.mem_append.mp h' with h' | h'
    · exact List.mem_cons_of_mem _ (subs_sub h' x hx)
    · obtain ⟨s', hs', e⟩ := List.mem_map.mp h'
      subst e
      rcases List.mem_cons.mp hx with e | hx
      · subst e
        exact List.mem_cons_self
      · exact List.mem_cons_of_mem _ (subs_sub hs' x hx)
theorem subs_eq : ∀ {l s : List Nat}, l.Nodup → s ∈ subsets l → s = l.filter fun i => s.contains i
  | [], s, _, h => by
    have : s = [] := List.mem_singleton.mp h
    subst this
    rfl
  | y :: l, s, nd, h => by
    have h' : s ∈ subsets l ++ (subsets l).map fun s => y :: s := h
    rw [List.nodup_cons] at nd
    rw [List.filter_cons]
    rcases List.mem_append.mp h' with h' | h'
    · rw [if_neg (by rw [List.contains_iff_mem]; exact fun z => nd.1 (subs_sub h' y z))]
      exact subs_eq nd.2 h'
    · obtain ⟨s', hs', e⟩ := List.mem_map.mp h'
      subst e
      rw [if_pos (by simp)]
      congr 1
      have ih := subs_eq nd.2 hs'
      rw [ih]
      refine List.filter_congr fun i hi => ?_
      rw [← ih]
      have : i ≠ y := fun z => nd.1 (z ▸ hi)
      simp [this]
theorem subs_total {n : Nat} {s : List Nat} (f : Nat → Nat) (h : s ∈ subsets (List.range n)) : total (s.map f) = sb n s.contains f := by
  have e := subs_eq List.nodup_range h
  have e2 := congrArg (fun l => total (l.map f)) e
  exact e2.trans (total_pick n _ f)
/-- S and its list have the same neighbours, sums: what is told of all lists is told of all S -/
theorem all_subs {n : Nat} {P : (Nat → Bool) → Prop} (hP : ∀ S T : Nat → Bool, (∀ i, i < n → S i = T i) → P S → P T) : (∀ s ∈ subsets (List.range n), P s.contains) ↔ ∀ S, P S := by
  refine ⟨fun h S => ?_, fun h s _ => h _⟩
  refine hP _ S (fun i hi => ?_) (h _ (subs_filter S (List.range n)))
  rw [Bool.eq_iff_iff, List.contains_iff_mem, List.mem_filter, List.mem_range]
  exact ⟨fun z => z.2, fun z => ⟨hi, z⟩⟩
def inT (t : Table) (h : List Nat) : Prop := ∀ p ∈ h, rowOf t p < t.rows ∧ colOf t p < t.cols
abbrev HCt (t : Table) := HC t.rows t.cols (rowOf t) (colOf t)
abbrev Filt (t : Table) := Fil t.rows t.cols (rowOf t) (colOf t)
theorem nb_congr {n : Nat} {ro co : Nat → Nat} {h : List Nat} {S T : Nat → Bool} (hin : ∀ p ∈ h, ro p < n) (e : ∀ i, i < n → S i = T i) (j : Nat) : Nb ro co h S j = Nb ro co h T j := by
  unfold Nb
  rw [Bool.eq_iff_iff, List.any_eq_true, List.any_eq_true]
  refine ⟨fun ⟨p, hp, q⟩ => ⟨p, hp, ?_⟩, fun ⟨p, hp, q⟩ => ⟨p, hp, ?_⟩⟩
  · rw [← e _ (hin p hp)]; exact q
  · rw [e _ (hin p hp)]; exact q
theorem can_iff {t : Table} {h : List Nat} {a b : Nat → Nat} (hin : inT t h) : can t h a b = true ↔ HCt t h a b := by
  unfold can
  rw [Bool.and_eq_true, beq_iff_eq, total_range, total_range, List.all_eq_true]
  have k : (∀ s ∈ subsets (List.range t.rows), decide (total (s.map a) ≤ total (((List.range t.cols).filter fun j => h.any fun p => s.contains (rowOf t p) && colOf t p == j).map b)) = true) ↔
      ∀ S : Nat → Bool, sb t.rows S a ≤ sb t.cols (Nb (rowOf t) (colOf t) h S) b := by
    rw [← all_subs (n := t.rows)]
    · refine forall_congr' fun s => forall_congr' fun hs => ?_
      rw [decide_eq_true_iff, subs_total a hs, total_pick]
      rfl
    · intro S T e q
      rw [← sb_congr (f := a) e (fun _ _ _ => rfl), ← sb_congr (f := b) (fun j _ => nb_congr (fun p hp => (hin p hp).1) e j) (fun _ _ _ => rfl)]
      exact q
  rw [k]
  exact ⟨fun q => ⟨q.1, q.2⟩, fun q => ⟨q.1, q.2⟩⟩
/-! ### one cell set -/
def but (h : List Nat) (e : Nat) : List Nat := h.filter fun q => q != e
theorem mem_but {h : List Nat} {e p : Nat} : p ∈ but h e ↔ p ∈ h ∧ p ≠ e := by
  unfold but
  rw [List.mem_filter]
  simp
theorem nb_but {ro co : Nat → Nat} {h : List Nat} {e : Nat} (he : e ∈ h) (S : Nat → Bool) (j : Nat) : Nb ro co h S j = Nb ro co (e :: but h e) S j := by
  unfold Nb
  rw [Bool.eq_iff_iff, List.any_eq_true, List.any_eq_true]
  refine ⟨fun ⟨p, hp, q⟩ => ⟨p, ?_, q⟩, fun ⟨p, hp, q⟩ => ⟨p, ?_, q⟩⟩
  · by_cases z : p = e
    · subst z; exact List.mem_cons_self
    · exact List.mem_cons_of_mem _ (mem_but.mpr ⟨hp, z⟩)
  · rcases List.mem_cons.mp hp with z | z
    · subst z; exact he
    · exact (mem_but.mp z).1
section
variable {r c : Nat} {ro co : Nat → Nat}
theorem hc_but {h : List Nat} {e : Nat} {a b : Nat → Nat} (he : e ∈ h) : HC r c ro co h a b ↔ HC r c ro co (e :: but h e) a b := by
  refine ⟨fun q => ⟨q.tot, fun S => ?_⟩, fun q => ⟨q.tot, fun S => ?_⟩⟩
  · rw [← sb_congr (f := b) (fun j _ => nb_but he S j) (fun _ _ _ => rfl)]
    exact q.all S
  · rw [sb_congr (f := b) (g := b) (fun j _ => nb_but he S j) (fun _ _ _ => rfl)]
    exact q.all S
theorem rs_but {f x : Nat → Nat} {e : Nat} : ∀ {h : List Nat}, h.Nodup → e ∈ h → ∀ i, rs f h x i = (if f e = i then x e else 0) + rs f (but h e) x i
  | [], _, he, _ => absurd he (by simp)
  | p :: h, nd, he, i => by
    rw [List.nodup_cons] at nd
    rw [rs_cons]
    by_cases z : p = e
    · subst z
      have e1 : but (p :: h) p = h := by
        unfold but
        rw [List.filter_cons, if_neg (show ¬ (p != p) = true by simp), List.filter_eq_self.mpr]
        intro q hq
        have : q ≠ p := fun z => nd.1 (z ▸ hq)
        simp [this]
      rw [e1]
    · have e1 : but (p :: h) e = p :: but h e := by
        unfold but
        rw [List.filter_cons, if_pos (show (p != e) = true by simp [z])]
      rw [e1, rs_cons]
      have he' : e ∈ h := by
        rcases List.mem_cons.mp he with q | q
        · exact absurd q.symm z
        · exact q
      have ih := rs_but (f := f) (x := x) nd.2 he' i
      omega
theorem nodup_but {h : List Nat} (nd : h.Nodup) (e : Nat) : (but h e).Nodup := List.Pairwise.filter _ nd
theorem fil_but {h : List Nat} {e : Nat} {a b x : Nat → Nat} (nd : h.Nodup) (he : e ∈ h) (hr : ro e < r) (hc : co e < c) : Fil r c ro co h a b x ↔ (x e ≤ a (ro e) ∧ x e ≤ b (co e) ∧ Fil r c ro co (but h e) (lessAt a (ro e) (x e)) (lessAt b (co e) (x e)) x) := by
  constructor
  · intro F
    have h1 := F.row _ hr
    have h2 := F.col _ hc
    rw [rs_but nd he, if_pos rfl] at h1 h2
    refine ⟨by omega, by omega, ⟨fun i hi => ?_, fun j hj => ?_⟩⟩
    · have h3 := F.row _ hi
      rw [rs_but nd he] at h3
      show _ = if i = ro e then a i - x e else a i
      by_cases z : i = ro e
      · rw [if_pos z.symm] at h3
        rw [if_pos z]
        omega
      · rw [if_neg fun q => z q.symm] at h3
        rw [if_neg z]
        omega
    · have h3 := F.col _ hj
      rw [rs_but nd he] at h3
      show _ = if j = co e then b j - x e else b j
      by_cases z : j = co e
      · rw [if_pos z.symm] at h3
        rw [if_pos z]
        omega
      · rw [if_neg fun q => z q.symm] at h3
        rw [if_neg z]
        omega
  · intro ⟨va, vb, F⟩
    refine ⟨fun i hi => ?_, fun j hj => ?_⟩
    · rw [rs_but nd he, F.row i hi]
      show _ + (if i = ro e then a i - x e else a i) = a i
      by_cases z : i = ro e
      · subst z
        rw [if_pos rfl, if_pos rfl]
        omega
      · rw [if_neg z, if_neg fun q => z q.symm]
        omega
    · rw [rs_but nd he, F.col j hj]
      show _ + (if j = co e then b j - x e else b j) = b j
      by_cases z : j = co e
      · subst z
        rw [if_pos rfl, if_pos rfl]
        omega
      · rw [if_neg z, if_neg fun q => z q.symm]
        omega
/-- some filling has v at e, by the condition of the others -/
theorem fil_at {h : List Nat} {e v : Nat} {a b : Nat → Nat} (nd : h.Nodup) (hin : ∀ p ∈ h, ro p < r ∧ co p < c) (he : e ∈ h) :
    (∃ x, Fil r c ro co h a b x ∧ x e = v) ↔ (v ≤ a (ro e) ∧ v ≤ b (co e) ∧ HC r c ro co (but h e) (lessAt a (ro e) v) (lessAt b (co e) v)) := by
  have hb : ∀ p ∈ but h e, ro p < r ∧ co p < c := fun p hp => hin p (mem_but.mp hp).1
  constructor
  · rintro ⟨x, F, rfl⟩
    obtain ⟨h1, h2, F'⟩ := (fil_but nd he (hin e he).1 (hin e he).2).mp F
    exact ⟨h1, h2, hall_back hb F'⟩
  · rintro ⟨h1, h2, H⟩
    obtain ⟨x, F⟩ := hall (nodup_but nd e) hb H
    have k : ∀ p ∈ but h e, (fun p => if p = e then v else x p) p = x p := fun p hp => if_neg (mem_but.mp hp).2
    have ev : (fun p => if p = e then v else x p) e = v := if_pos rfl
    refine ⟨fun p => if p = e then v else x p, (fil_but nd he (hin e he).1 (hin e he).2).mpr ⟨?_, ?_, ?_⟩, ev⟩
    · show (fun p => if p = e then v else x p) e ≤ _
      rw [ev]; exact h1
    · show (fun p => if p = e then v else x p) e ≤ _
      rw [ev]; exact h2
    · show Fil r c ro co (but h e) (lessAt a (ro e) ((fun p => if p = e then v else x p) e)) (lessAt b (co e) ((fun p => if p = e then v else x p) e)) _
      rw [ev]
      exact ⟨fun i hi => (rs_congr k i).trans (F.row i hi), fun j hj => (rs_congr k j).trans (F.col j hj)⟩
/-- .. and by the bounds that its own condition gives -/
theorem hc_at {h : List Nat} {e v : Nat} {a b : Nat → Nat} (hr : ro e < r) (hc : co e < c) (he : e ∈ h) (H : HC r c ro co h a b) :
    (v ≤ a (ro e) ∧ v ≤ b (co e) ∧ HC r c ro co (but h e) (lessAt a (ro e) v) (lessAt b (co e) v)) ↔
      ((∀ S : Nat → Bool, S (ro e) = true → Nb ro co (but h e) S (co e) = false → sb r S a ≤ v + sb c (Nb ro co (but h e) S) b) ∧
       (v ≤ a (ro e) ∧ v ≤ b (co e) ∧ ∀ S : Nat → Bool, S (ro e) = false → Nb ro co (but h e) S (co e) = true → sb r S a + v ≤ sb c (Nb ro co (but h e) S) b)) := by
  have H' := (hc_but he).mp H
  have nb_out : ∀ S : Nat → Bool, S (ro e) = false → ∀ j, Nb ro co (e :: but h e) S j = Nb ro co (but h e) S j := by
    intro S hS j
    rw [nb_cons, hS]
    rfl
  have nb_in : ∀ S : Nat → Bool, Nb ro co (but h e) S (co e) = true → ∀ j, Nb ro co (e :: but h e) S j = Nb ro co (but h e) S j := by
    intro S hS j
    rw [nb_cons]
    by_cases q : co e = j
    · rw [← q, hS]
      simp
    · simp [q]
  constructor
  · rintro ⟨va, vb, Q⟩
    refine ⟨fun S hS hN => ?_, va, vb, fun S hS hN => ?_⟩
    · have h1 := Q.all S
      have h2 := sb_less (S := S) hr va hS
      rw [sb_same (S := Nb ro co (but h e) S) hN] at h1
      omega
    · have h1 := Q.all S
      have h2 := sb_less (S := Nb ro co (but h e) S) hc vb hN
      rw [sb_same (S := S) hS] at h1
      omega
  · rintro ⟨lo, va, vb, hi⟩
    refine ⟨va, vb, ⟨?_, fun T => ?_⟩⟩
    · have h1 := su_less hr va
      have h2 := su_less hc vb
      have := H.tot
      omega
    · have h3 := H'.all T
      by_cases hT : T (ro e) = true
      · have h1 := sb_less (S := T) hr va hT
        by_cases hN : Nb ro co (but h e) T (co e) = true
        · have h2 := sb_less (S := Nb ro co (but h e) T) hc vb hN
          rw [sb_congr (T := Nb ro co (but h e) T) (g := b) (fun j _ => nb_in T hN j) (fun _ _ _ => rfl)] at h3
          omega
        · have hN' : Nb ro co (but h e) T (co e) = false := by simpa using hN
          rw [sb_same (S := Nb ro co (but h e) T) hN']
          have := lo T hT hN'
          omega
      · have hT' : T (ro e) = false := by simpa using hT
        rw [sb_same (S := T) hT']
        rw [sb_congr (T := Nb ro co (but h e) T) (g := b) (fun j _ => nb_out T hT' j) (fun _ _ _ => rfl)] at h3
        by_cases hN : Nb ro co (but h e) T (co e) = true
        · have h2 := sb_less (S := Nb ro co (but h e) T) hc vb hN
          have := hi T hT' hN
          omega
        · have hN' : Nb ro co (but h e) T (co e) = false := by simpa using hN
          rw [sb_same (S := Nb ro co (but h e) T) hN']
          exact h3
end
/-! ### the specification's least and greatest -/
theorem foldr_max_le {v : Nat} : ∀ {l : List Nat}, l.foldr max 0 ≤ v ↔ ∀ x ∈ l, x ≤ v
  | [] => by simp
  | x :: l => by
    rw [List.foldr_cons, Nat.max_le, foldr_max_le (l := l)]
    simp
theorem le_foldr_min {v m : Nat} : ∀ {l : List Nat}, v ≤ l.foldr min m ↔ v ≤ m ∧ ∀ x ∈ l, v ≤ x
  | [] => by simp
  | x :: l => by
    rw [List.foldr_cons, Nat.le_min, le_foldr_min (l := l)]
    simp only [List.mem_cons, forall_eq_or_imp]
    exact ⟨fun ⟨a, b, c⟩ => ⟨b, a, c⟩, fun ⟨a, b, c⟩ => ⟨b, a, c⟩⟩
theorem reach_eq (t : Table) (h : List Nat) (e : Nat) (s : List Nat) : reach t h e s = (List.range t.cols).filter (Nb (rowOf t) (colOf t) (but h e) s.contains) := by
  unfold reach
  refine List.filter_congr fun j _ => ?_
  unfold Nb but
  rw [List.any_filter]
theorem reach_has {t : Table} {h : List Nat} {e : Nat} {s : List Nat} {j : Nat} (hj : j < t.cols) : (reach t h e s).contains j = Nb (rowOf t) (colOf t) (but h e) s.contains j := by
  rw [reach_eq, Bool.eq_iff_iff, List.contains_iff_mem, List.mem_filter, List.mem_range]
  exact ⟨fun z => z.2, fun z => ⟨hj, z⟩⟩
theorem reach_total {t : Table} {h : List Nat} {e : Nat} {s : List Nat} (f : Nat → Nat) : total ((reach t h e s).map f) = sb t.cols (Nb (rowOf t) (colOf t) (but h e) s.contains) f := by
  rw [reach_eq, total_pick]
theorem in_but {t : Table} {h : List Nat} (hin : inT t h) (e : Nat) : inT t (but h e) := fun p hp => hin p (mem_but.mp hp).1
theorem least_le {t : Table} {h : List Nat} {e v : Nat} (hin : inT t h) (he : e ∈ h) : least t h e ≤ v ↔
    ∀ S : Nat → Bool, S (rowOf t e) = true → Nb (rowOf t) (colOf t) (but h e) S (colOf t e) = false → sb t.rows S (rowLeft t h) ≤ v + sb t.cols (Nb (rowOf t) (colOf t) (but h e) S) (colLeft t h) := by
  unfold least
  rw [foldr_max_le]
  rw [← all_subs (n := t.rows)]
  · constructor
    · intro q s hs h1 h2
      have := q _ (List.mem_map.mpr ⟨s, hs, rfl⟩)
      dsimp only at this
      rw [if_pos ⟨h1, by rw [reach_has (hin e he).2]; exact h2⟩, subs_total _ hs, reach_total] at this
      omega
    · intro q x hx
      obtain ⟨s, hs, rfl⟩ := List.mem_map.mp hx
      dsimp only
      split
      · rename_i z
        rw [reach_has (hin e he).2] at z
        have := q s hs z.1 z.2
        rw [subs_total _ hs, reach_total]
        omega
      · exact Nat.zero_le _
  · intro S T eq q h1 h2
    have en : ∀ j, Nb (rowOf t) (colOf t) (but h e) S j = Nb (rowOf t) (colOf t) (but h e) T j := fun j => nb_congr (fun p hp => (in_but hin e p hp).1) eq j
    rw [← sb_congr (f := rowLeft t h) eq (fun _ _ _ => rfl), ← sb_congr (f := colLeft t h) (fun j _ => en j) (fun _ _ _ => rfl)]
    exact q (by rw [eq _ (hin e he).1]; exact h1) (by rw [en]; exact h2)
end CK
namespace CK
open So02
/-- the table's own numbers fill what its hidden cells leave -/
theorem fil_num (t : Table) (h : List Nat) : Filt t h (rowLeft t h) (colLeft t h) (num t) := ⟨fun _ _ => rfl, fun _ _ => rfl⟩
theorem hc_num {t : Table} {h : List Nat} (hin : inT t h) : HCt t h (rowLeft t h) (colLeft t h) := hall_back hin (fil_num t h)
theorem le_greatest {t : Table} {h : List Nat} {e v : Nat} (hin : inT t h) (he : e ∈ h) : v ≤ greatest t h e ↔
    v ≤ rowLeft t h (rowOf t e) ∧ v ≤ colLeft t h (colOf t e) ∧
    ∀ S : Nat → Bool, S (rowOf t e) = false → Nb (rowOf t) (colOf t) (but h e) S (colOf t e) = true → sb t.rows S (rowLeft t h) + v ≤ sb t.cols (Nb (rowOf t) (colOf t) (but h e) S) (colLeft t h) := by
  have H := (hc_but he).mp (hc_num hin)
  have nb_out : ∀ S : Nat → Bool, S (rowOf t e) = false → sb t.rows S (rowLeft t h) ≤ sb t.cols (Nb (rowOf t) (colOf t) (but h e) S) (colLeft t h) := by
    intro S hS
    have h3 := H.all S
    rw [sb_congr (T := Nb (rowOf t) (colOf t) (but h e) S) (g := colLeft t h) (fun j _ => by
      rw [nb_cons, hS]
      rfl) (fun _ _ _ => rfl)] at h3
    exact h3
  unfold greatest
  rw [le_foldr_min, Nat.le_min]
  rw [← all_subs (n := t.rows)]
  · constructor
    · rintro ⟨⟨q1, q2⟩, q⟩
      refine ⟨q1, q2, fun s hs h1 h2 => ?_⟩
      have := q _ (List.mem_map.mpr ⟨s, hs, rfl⟩)
      dsimp only at this
      rw [if_pos ⟨h1, by rw [reach_has (hin e he).2]; exact h2⟩, subs_total _ hs, reach_total] at this
      have := nb_out s.contains h1
      omega
    · rintro ⟨q1, q2, q⟩
      refine ⟨⟨q1, q2⟩, fun x hx => ?_⟩
      obtain ⟨s, hs, rfl⟩ := List.mem_map.mp hx
      dsimp only
      split
      · rename_i z
        rw [reach_has (hin e he).2] at z
        have := q s hs z.1 z.2
        rw [subs_total _ hs, reach_total]
        omega
      · exact Nat.le_min.mpr ⟨q1, q2⟩
  · intro S T eq q h1 h2
    have en : ∀ j, Nb (rowOf t) (colOf t) (but h e) S j = Nb (rowOf t) (colOf t) (but h e) T j := fun j => nb_congr (fun p hp => (in_but hin e p hp).1) eq j
    rw [← sb_congr (f := rowLeft t h) eq (fun _ _ _ => rfl), ← sb_congr (f := colLeft t h) (fun j _ => en j) (fun _ _ _ => rfl)]
    exact q (by rw [eq _ (hin e he).1]; exact h1) (by rw [en]; exact h2)
/-- **a hidden cell has v in some table that may be just if v is from the least to the greatest** -/
theorem range_iff {t : Table} {h : List Nat} {e v : Nat} (nd : h.Nodup) (hin : inT t h) (he : e ∈ h) :
    (∃ x, Filt t h (rowLeft t h) (colLeft t h) x ∧ x e = v) ↔ (least t h e ≤ v ∧ v ≤ greatest t h e) := by
  rw [fil_at nd hin he, hc_at (hin e he).1 (hin e he).2 he (hc_num hin), least_le hin he, le_greatest hin he]
theorem least_le_num {t : Table} {h : List Nat} {e : Nat} (nd : h.Nodup) (hin : inT t h) (he : e ∈ h) : least t h e ≤ num t e ∧ num t e ≤ greatest t h e :=
  (range_iff nd hin he).mp ⟨num t, fil_num t h, rfl⟩
/-! ### the first table -/
def lexLe : List Nat → List Nat → Prop
  | [], _ => True
  | _ :: _, [] => False
  | x :: l, y :: m => x < y ∨ (x = y ∧ lexLe l m)
theorem lexLe_refl : ∀ l : List Nat, lexLe l l
  | [] => trivial
  | _ :: l => .inr ⟨rfl, lexLe_refl l⟩
theorem lexLe_antisymm : ∀ {l m : List Nat}, l.length = m.length → lexLe l m → lexLe m l → l = m
  | [], [], _, _, _ => rfl
  | [], _ :: _, h, _, _ => by cases h
  | _ :: _, [], h, _, _ => by cases h
  | x :: l, y :: m, h, h1, h2 => by
    rcases h1 with h1 | ⟨e, h1⟩
    · rcases h2 with h2 | ⟨e, _⟩ <;> omega
    · subst e
      rcases h2 with h2 | ⟨_, h2⟩
      · omega
      · rw [lexLe_antisymm (Nat.succ.inj h) h1 h2]
/-- fillings with v at e, if e is among the cells -/
def Gd (t : Table) (e v : Nat) (l : List Nat) (a b x : Nat → Nat) : Prop := Filt t l a b x ∧ (e ∈ l → x e = v)
theorem find_least {n : Nat} {P : Nat → Bool} {u : Nat} (h : (List.range n).find? P = some u) : u < n ∧ P u = true ∧ ∀ w, w < u → P w = false := by
  have h1 := List.mem_of_find?_eq_some h
  have h2 := List.find?_some h
  refine ⟨List.mem_range.mp h1, h2, fun w hw => ?_⟩
  rw [List.find?_eq_some_iff_append] at h
  obtain ⟨_, as, bs, e, k⟩ := h
  have hlen : as.length = u := by
    have h3 : (List.range n)[as.length]? = some u := by
      rw [e]
      simp
    rw [List.getElem?_range (by
      have := congrArg List.length e
      simp at this
      omega)] at h3
    exact Option.some.inj h3
  have h4 : w ∈ as := by
    have h5 : (List.range n)[w]? = some w := List.getElem?_range (by have := List.mem_range.mp h1; omega)
    rw [e, List.getElem?_append_left (by omega)] at h5
    exact List.mem_of_getElem? h5
  have := k w h4
  simpa using this
section
variable {t : Table} {e v : Nat}
/-- what the specification asks of u at p -/
def okAt (t : Table) (e v : Nat) (l : List Nat) (a b : Nat → Nat) (p u : Nat) : Bool :=
  decide (u ≤ a (rowOf t p)) && (decide (u ≤ b (colOf t p)) && (can t l (lessAt a (rowOf t p) u) (lessAt b (colOf t p) u) && (p == e || !l.contains e || decide (v ≤ lessAt a (rowOf t p) u (rowOf t e)) && (decide (v ≤ lessAt b (colOf t p) u (colOf t e)) && can t (l.filter fun q => q != e) (lessAt (lessAt a (rowOf t p) u) (rowOf t e) v) (lessAt (lessAt b (colOf t p) u) (colOf t e) v)))))
theorem fill_cons {l : List Nat} {a b : Nat → Nat} {p : Nat} : fill t e v (p :: l) a b =
    match (if p = e then [v] else List.range (min (a (rowOf t p)) (b (colOf t p)) + 1)).find? (okAt t e v l a b p) with
    | none => none
    | some u => (fill t e v l (lessAt a (rowOf t p) u) (lessAt b (colOf t p) u)).map fun r => u :: r := rfl
/-- u at p is asked just if the rest can be filled -/
theorem ok_iff {l : List Nat} {a b : Nat → Nat} {p u : Nat} (nd : (p :: l).Nodup) (hin : inT t (p :: l)) (hu : p = e → u = v) :
    okAt t e v l a b p u = true ↔ (u ≤ a (rowOf t p) ∧ u ≤ b (colOf t p) ∧ ∃ x, Gd t e v l (lessAt a (rowOf t p) u) (lessAt b (colOf t p) u) x) := by
  rw [List.nodup_cons] at nd
  have hl : inT t l := fun q hq => hin q (List.mem_cons_of_mem _ hq)
  unfold okAt
  simp only [Bool.and_eq_true, decide_eq_true_iff]
  refine and_congr_right fun h1 => and_congr_right fun h2 => ?_
  by_cases he : e ∈ l
  · have pe : p ≠ e := fun z => nd.1 (z ▸ he)
    have k : (p == e || !l.contains e || decide (v ≤ lessAt a (rowOf t p) u (rowOf t e)) && (decide (v ≤ lessAt b (colOf t p) u (colOf t e)) && can t (l.filter fun q => q != e) (lessAt (lessAt a (rowOf t p) u) (rowOf t e) v) (lessAt (lessAt b (colOf t p) u) (colOf t e) v))) = true ↔
        ∃ x, Filt t l (lessAt a (rowOf t p) u) (lessAt b (colOf t p) u) x ∧ x e = v := by
      have z1 : (p == e) = false := by simpa using pe
      have z2 : l.contains e = true := List.contains_iff_mem.mpr he
      rw [z1, z2, fil_at nd.2 hl he]
      simp only [Bool.not_true, Bool.or_self, Bool.false_or, Bool.and_eq_true, decide_eq_true_iff]
      exact and_congr_right fun _ => and_congr_right fun _ => can_iff (in_but hl e)
    constructor
    · rintro ⟨_, q⟩
      obtain ⟨x, F, ev⟩ := k.mp q
      exact ⟨x, F, fun _ => ev⟩
    · rintro ⟨x, F, ev⟩
      exact ⟨(can_iff hl).mpr (hall_back hl F), k.mpr ⟨x, F, ev he⟩⟩
  · have z2 : l.contains e = false := by simpa using he
    rw [z2, can_iff hl]
    constructor
    · rintro ⟨q, _⟩
      obtain ⟨x, F⟩ := hall nd.2 hl q
      exact ⟨x, F, fun z => absurd z he⟩
    · rintro ⟨x, F, _⟩
      exact ⟨hall_back hl F, by simp⟩
/-- a filling of the whole is a number at p and a filling of the rest -/
theorem gd_cons {l : List Nat} {a b x : Nat → Nat} {p : Nat} (nd : (p :: l).Nodup) (hin : inT t (p :: l)) :
    Gd t e v (p :: l) a b x ↔ (x p ≤ a (rowOf t p) ∧ x p ≤ b (colOf t p) ∧ (p = e → x p = v) ∧ Gd t e v l (lessAt a (rowOf t p) (x p)) (lessAt b (colOf t p) (x p)) x) := by
  have hp := hin p List.mem_cons_self
  have nd' := List.nodup_cons.mp nd
  have eb : but (p :: l) p = l := by
    unfold but
    rw [List.filter_cons, if_neg (show ¬ (p != p) = true by simp), List.filter_eq_self.mpr]
    intro q hq
    have : q ≠ p := fun z => nd'.1 (z ▸ hq)
    simp [this]
  have k := fil_but (r := t.rows) (c := t.cols) (ro := rowOf t) (co := colOf t) (a := a) (b := b) (x := x) nd (List.mem_cons_self (a := p) (l := l)) hp.1 hp.2
  rw [eb] at k
  unfold Gd
  constructor
  · rintro ⟨F0, ev⟩
    obtain ⟨h1, h2, F⟩ := k.mp F0
    exact ⟨h1, h2, fun z => by rw [z]; exact ev (z ▸ List.mem_cons_self), F, fun z => ev (List.mem_cons_of_mem _ z)⟩
  · rintro ⟨h1, h2, h3, F, ev⟩
    refine ⟨k.mpr ⟨h1, h2, F⟩, fun z => ?_⟩
    rcases List.mem_cons.mp z with z | z
    · subst z; exact h3 rfl
    · exact ev z
theorem fill_some : ∀ {l : List Nat} {a b : Nat → Nat}, l.Nodup → inT t l → (∃ x, Gd t e v l a b x) →
    ∃ r, fill t e v l a b = some r ∧ (∃ x, Gd t e v l a b x ∧ l.map x = r) ∧ ∀ y, Gd t e v l a b y → lexLe r (l.map y)
  | [], a, b, _, _, ⟨x, g⟩ => ⟨[], rfl, ⟨x, g, rfl⟩, fun _ _ => trivial⟩
  | p :: l, a, b, nd, hin, ⟨x, g⟩ => by
    have nd' := List.nodup_cons.mp nd
    have hl : inT t l := fun q hq => hin q (List.mem_cons_of_mem _ hq)
    -- some u is found, and it is the least that a filling has at p
    have found : ∃ u, (if p = e then [v] else List.range (min (a (rowOf t p)) (b (colOf t p)) + 1)).find? (okAt t e v l a b p) = some u ∧ okAt t e v l a b p u = true ∧ (p = e → u = v) ∧ ∀ y, Gd t e v (p :: l) a b y → u ≤ y p := by
      obtain ⟨h1, h2, h3, g'⟩ := (gd_cons nd hin).mp g
      have okx : okAt t e v l a b p (x p) = true := (ok_iff nd hin h3).mpr ⟨h1, h2, x, g'⟩
      by_cases z : p = e
      · rw [if_pos z]
        rw [h3 z] at okx
        refine ⟨v, ?_, okx, fun _ => rfl, fun y gy => ?_⟩
        · rw [List.find?_cons_of_pos okx]
        · have := ((gd_cons nd hin).mp gy).2.2.1 z
          omega
      · rw [if_neg z]
        cases q : (List.range (min (a (rowOf t p)) (b (colOf t p)) + 1)).find? (okAt t e v l a b p) with
        | none =>
          rw [List.find?_eq_none] at q
          exact absurd okx (q (x p) (List.mem_range.mpr (by have := Nat.le_min.mpr ⟨h1, h2⟩; omega)))
        | some u =>
          obtain ⟨_, q2, q3⟩ := find_least q
          refine ⟨u, rfl, q2, fun w => absurd w z, fun y gy => ?_⟩
          refine Classical.byContradiction fun lt => ?_
          obtain ⟨y1, y2, y3, y4⟩ := (gd_cons nd hin).mp gy
          have := q3 (y p) (by omega)
          rw [(ok_iff nd hin y3).mpr ⟨y1, y2, y, y4⟩] at this
          cases this
    obtain ⟨u, q, okq, hu, hle⟩ := found
    obtain ⟨h1, h2, g'⟩ := (ok_iff nd hin hu).mp okq
    obtain ⟨r, hr, ⟨x', gx', er⟩, hmin⟩ := fill_some nd'.2 hl g'
    refine ⟨u :: r, ?_, ?_, ?_⟩
    · rw [fill_cons, q]
      show (fill t e v l _ _).map (fun r => u :: r) = _
      rw [hr]
      rfl
    · let z : Nat → Nat := fun k => if k = p then u else x' k
      have zp : z p = u := if_pos rfl
      have zl : ∀ k ∈ l, z k = x' k := fun k hk => if_neg fun (w : k = p) => nd'.1 (w ▸ hk)
      refine ⟨z, (gd_cons nd hin).mpr ⟨by rw [zp]; exact h1, by rw [zp]; exact h2, fun w => by rw [zp]; exact hu w, ?_⟩, ?_⟩
      · rw [zp]
        exact ⟨⟨fun i hi => (rs_congr zl i).trans (gx'.1.row i hi), fun j hj => (rs_congr zl j).trans (gx'.1.col j hj)⟩, fun w => (zl e w).trans (gx'.2 w)⟩
      · rw [List.map_cons, zp, List.map_congr_left zl, er]
    · intro y gy
      have h5 := hle y gy
      rw [List.map_cons]
      by_cases w : u = y p
      · refine .inr ⟨w, hmin y ?_⟩
        have := ((gd_cons nd hin).mp gy).2.2.2
        rw [← w] at this
        exact this
      · exact .inl (by omega)
theorem fill_none : ∀ {l : List Nat} {a b : Nat → Nat}, l ≠ [] → l.Nodup → inT t l → (¬ ∃ x, Gd t e v l a b x) → fill t e v l a b = none
  | [], _, _, h, _, _, _ => absurd rfl h
  | p :: l, a, b, _, nd, hin, no => by
    have nd' := List.nodup_cons.mp nd
    have hl : inT t l := fun q hq => hin q (List.mem_cons_of_mem _ hq)
    rw [fill_cons]
    cases q : (if p = e then [v] else List.range (min (a (rowOf t p)) (b (colOf t p)) + 1)).find? (okAt t e v l a b p) with
    | none => rfl
    | some u =>
      exfalso
      have hu : p = e → u = v := by
        intro z
        rw [if_pos z] at q
        have := List.mem_of_find?_eq_some q
        exact List.mem_singleton.mp this
      obtain ⟨h1, h2, x', gx'⟩ := (ok_iff nd hin hu).mp (List.find?_some q)
      let z : Nat → Nat := fun k => if k = p then u else x' k
      have zp : z p = u := if_pos rfl
      have zl : ∀ k ∈ l, z k = x' k := fun k hk => if_neg fun (w : k = p) => nd'.1 (w ▸ hk)
      refine no ⟨z, (gd_cons nd hin).mpr ⟨by rw [zp]; exact h1, by rw [zp]; exact h2, fun w => by rw [zp]; exact hu w, ?_⟩⟩
      rw [zp]
      exact ⟨⟨fun i hi => (rs_congr zl i).trans (gx'.1.row i hi), fun j hj => (rs_congr zl j).trans (gx'.1.col j hj)⟩, fun w => (zl e w).trans (gx'.2 w)⟩
end
end CK
namespace CK
open So02
/-! ### the cells -/
theorem nodup_cells (t : Table) : (cells t).Nodup := List.nodup_range
theorem mem_cells {t : Table} {p : Nat} : p ∈ cells t ↔ p < t.rows * t.cols := List.mem_range
theorem in_of_cells {t : Table} {p : Nat} (h : p ∈ cells t) : rowOf t p < t.rows ∧ colOf t p < t.cols := by
  have h' := mem_cells.mp h
  have hc : 0 < t.cols := by
    rcases Nat.eq_zero_or_pos t.cols with z | z
    · rw [z] at h'
      omega
    · exact z
  exact ⟨(Nat.div_lt_iff_lt_mul hc).mpr h', Nat.mod_lt _ hc⟩
theorem in_filter (t : Table) (P : Nat → Bool) : inT t ((cells t).filter P) := fun _ hp => in_of_cells (List.mem_filter.mp hp).1
theorem nodup_filter (t : Table) (P : Nat → Bool) : ((cells t).filter P).Nodup := List.Pairwise.filter _ (nodup_cells t)
theorem in_hidden (t : Table) : inT t (hidden t) := in_filter t _
theorem nodup_hidden (t : Table) : (hidden t).Nodup := nodup_filter t _
/-! ### the first table that may be -/
theorem zip_find {x : Nat → Nat} {p : Nat} : ∀ {h : List Nat}, (h.zip (h.map x)).find? (fun y => y.1 == p) = if p ∈ h then some (p, x p) else none
  | [] => rfl
  | q :: h => by
    rw [List.map_cons, List.zip_cons_cons]
    by_cases z : q = p
    · subst z
      rw [List.find?_cons_of_pos (by simp), if_pos List.mem_cons_self]
    · rw [List.find?_cons_of_neg (by simpa using z), zip_find (h := h)]
      by_cases w : p ∈ h
      · rw [if_pos w, if_pos (List.mem_cons_of_mem _ w)]
      · rw [if_neg w, if_neg]
        intro k
        rcases List.mem_cons.mp k with k | k
        · exact z k.symm
        · exact w k
/-- all numbers of the table that x makes of the hidden cells -/
def made (t : Table) (x : Nat → Nat) : List Nat := (cells t).map fun p => if p ∈ hidden t then x p else num t p
theorem first_some {t : Table} {e v : Nat} (he : e ∈ hidden t) (h : ∃ x, Filt t (hidden t) (rowLeft t (hidden t)) (colLeft t (hidden t)) x ∧ x e = v) :
    ∃ x, (Filt t (hidden t) (rowLeft t (hidden t)) (colLeft t (hidden t)) x ∧ x e = v) ∧ first t e v = some (made t x) ∧
      ∀ y, Filt t (hidden t) (rowLeft t (hidden t)) (colLeft t (hidden t)) y → y e = v → lexLe ((hidden t).map x) ((hidden t).map y) := by
  obtain ⟨x0, F0, e0⟩ := h
  obtain ⟨r, hr, ⟨x, gx, er⟩, hmin⟩ := fill_some (t := t) (e := e) (v := v) (nodup_hidden t) (in_hidden t) ⟨x0, F0, fun _ => e0⟩
  refine ⟨x, ⟨gx.1, gx.2 he⟩, ?_, fun y Fy ey => ?_⟩
  · unfold first made
    rw [hr]
    show some _ = some _
    congr 1
    refine List.map_congr_left fun p _ => ?_
    rw [← er, zip_find]
    by_cases w : p ∈ hidden t
    · rw [if_pos w, if_pos w]
    · rw [if_neg w, if_neg w]
  · rw [er]
    exact hmin y ⟨Fy, fun _ => ey⟩
theorem first_none {t : Table} {e v : Nat} (he : e ∈ hidden t) (h : ¬ ∃ x, Filt t (hidden t) (rowLeft t (hidden t)) (colLeft t (hidden t)) x ∧ x e = v) : first t e v = none := by
  unfold first
  rw [fill_none (List.ne_nil_of_mem he) (nodup_hidden t) (in_hidden t)]
  · rfl
  · rintro ⟨x, F, ev⟩
    exact h ⟨x, F, ev he⟩
/-- in words of the range -/
theorem first_none_iff {t : Table} {e v : Nat} (he : e ∈ hidden t) : first t e v = none ↔ ¬ (least t (hidden t) e ≤ v ∧ v ≤ greatest t (hidden t) e) := by
  rw [← range_iff (nodup_hidden t) (in_hidden t) he]
  refine ⟨fun q h => ?_, first_none he⟩
  obtain ⟨x, _, k, _⟩ := first_some he h
  rw [k] at q
  cases q
/-! ### more cells, wider ranges -/
theorem rs_split {f x : Nat → Nat} {P : Nat → Bool} {i : Nat} : ∀ h : List Nat, rs f h x i = rs f (h.filter P) x i + rs f (h.filter fun p => !P p) x i
  | [] => rfl
  | p :: h => by
    rw [rs_cons, List.filter_cons, List.filter_cons, rs_split (P := P) h]
    by_cases z : P p = true
    · rw [if_pos z, if_neg (show ¬ (!P p) = true by simp [z]), rs_cons]
      omega
    · rw [if_neg z, if_pos (show (!P p) = true by simpa using z), rs_cons]
      omega
theorem fil_more {t : Table} {P Q : Nat → Bool} (h : ∀ p, P p = true → Q p = true) {x : Nat → Nat}
    (F : Filt t ((cells t).filter P) (rowLeft t ((cells t).filter P)) (colLeft t ((cells t).filter P)) x) :
    Filt t ((cells t).filter Q) (rowLeft t ((cells t).filter Q)) (colLeft t ((cells t).filter Q)) (fun p => if P p = true then x p else num t p) := by
  have e1 : ((cells t).filter Q).filter P = (cells t).filter P := by
    rw [List.filter_filter]
    refine List.filter_congr fun p _ => ?_
    cases z : P p with
    | false => rfl
    | true => rw [h p z]; rfl
  have k : ∀ (f : Nat → Nat) (i : Nat), rs f ((cells t).filter P) x i = rs f ((cells t).filter P) (num t) i →
      rs f ((cells t).filter Q) (fun p => if P p = true then x p else num t p) i = rs f ((cells t).filter Q) (num t) i := by
    intro f i q
    rw [rs_split (P := P) ((cells t).filter Q), rs_split (x := num t) (P := P) ((cells t).filter Q), e1]
    congr 1
    · rw [← q]
      exact rs_congr (fun p hp => if_pos (List.mem_filter.mp hp).2) i
    · refine rs_congr (fun p hp => if_neg ?_) i
      have := (List.mem_filter.mp hp).2
      simpa using this
  exact ⟨fun i hi => k _ i (F.row i hi), fun j hj => k _ j (F.col j hj)⟩
theorem range_more {t : Table} {P Q : Nat → Bool} (h : ∀ p, P p = true → Q p = true) {e : Nat} (he : e ∈ (cells t).filter P) :
    least t ((cells t).filter Q) e ≤ least t ((cells t).filter P) e ∧ greatest t ((cells t).filter P) e ≤ greatest t ((cells t).filter Q) e := by
  have hP := (List.mem_filter.mp he).2
  have heQ : e ∈ (cells t).filter Q := List.mem_filter.mpr ⟨(List.mem_filter.mp he).1, h e hP⟩
  have n1 := least_le_num (nodup_filter t P) (in_filter t P) he
  have step : ∀ v, least t ((cells t).filter P) e ≤ v ∧ v ≤ greatest t ((cells t).filter P) e → least t ((cells t).filter Q) e ≤ v ∧ v ≤ greatest t ((cells t).filter Q) e := by
    intro v hv
    obtain ⟨x, F, ev⟩ := (range_iff (nodup_filter t P) (in_filter t P) he).mpr hv
    refine (range_iff (nodup_filter t Q) (in_filter t Q) heQ).mp ⟨_, fil_more h F, ?_⟩
    show (if P e = true then x e else num t e) = v
    rw [if_pos hP]
    exact ev
  exact ⟨(step _ ⟨Nat.le_refl _, by omega⟩).1, (step _ ⟨by omega, Nat.le_refl _⟩).2⟩
theorem wide_more {t : Table} {P Q : Nat → Bool} (h : ∀ p, P p = true → Q p = true) {e : Nat} (he : e ∈ (cells t).filter P) : wide t ((cells t).filter P) e ≤ wide t ((cells t).filter Q) e := by
  have := range_more h he
  unfold wide
  omega
theorem safe_more {t : Table} {P Q : Nat → Bool} {w : Nat} (hk : ∀ e ∈ t.kept, e ∈ cells t ∧ P e = true) (h : ∀ p, P p = true → Q p = true) (s : safe t ((cells t).filter P) w = true) : safe t ((cells t).filter Q) w = true := by
  unfold safe at *
  rw [List.all_eq_true] at *
  intro e he
  have := s e he
  rw [decide_eq_true_iff] at *
  exact Nat.le_trans this (wide_more h (List.mem_filter.mpr ⟨(hk e he).1, (hk e he).2⟩))
end CK
namespace CK
open So02
/-! ### a call as it stands in the list, and the specification's call -/
def nat32 (n : Nat) : Prop := n ≤ 4294967295
inductive Form : List Int → Call → List Int → Prop
  | table (r c : Nat) (row : List Nat) (t : List Int) (hr : nat32 r) (hc : nat32 c) (hl : row.length ≤ 20) (hm : ∀ x ∈ row, nat32 x) : Form (0 :: (r : Int) :: (c : Int) :: (row.length : Int) :: (So02.ints row ++ t)) (.table r c row) t
  | keep (i j : Nat) (t : List Int) (hi : nat32 i) (hj : nat32 j) : Form (1 :: (i : Int) :: (j : Int) :: t) (.keep i j) t
  | tell (i j : Nat) (t : List Int) (hi : nat32 i) (hj : nat32 j) : Form (2 :: (i : Int) :: (j : Int) :: t) (.tell i j) t
  | range (i j : Nat) (t : List Int) (hi : nat32 i) (hj : nat32 j) : Form (3 :: (i : Int) :: (j : Int) :: t) (.range i j) t
  | known (t : List Int) : Form (4 :: t) .known t
  | near (w : Nat) (t : List Int) (hw : nat32 w) : Form (5 :: (w : Int) :: t) (.near w) t
  | more (w : Nat) (t : List Int) (hw : nat32 w) : Form (6 :: (w : Int) :: t) (.more w) t
  | hide (w : Nat) (t : List Int) (hw : nat32 w) : Form (7 :: (w : Int) :: t) (.hide w) t
  | shown (t : List Int) : Form (8 :: t) .shown t
  | fits (row : List Nat) (t : List Int) (hl : row.length ≤ 20) (hm : ∀ x ∈ row, nat32 x) : Form (9 :: (row.length : Int) :: (So02.ints row ++ t)) (.fits row) t
  | first (i j v : Nat) (t : List Int) (hi : nat32 i) (hj : nat32 j) (hv : nat32 v) : Form (10 :: (i : Int) :: (j : Int) :: (v : Int) :: t) (.first i j v) t
  | sums (t : List Int) : Form (11 :: t) .sums t
def play (s : St) (cs : List (List (List Int))) : List Int := PyFlat.told (PyFlat.played (fun s c => So02Neutral.step s (c.headD [])) s (cs.map PySo02.whole))
structure Rest (rem : List Int) (s : St) (out : List Int) : Prop where
  ex : ∃ f cs, PyFlat.calls PySo02.shape f rem = some cs ∧ PyInside.calls PySo02.bound cs = true ∧ out = play s cs
theorem within_nat {z : Int} (h : PyInside.within 0 4294967295 z = true) : ∃ n : Nat, z = (n : Int) ∧ nat32 n := by
  unfold PyInside.within at h
  rw [Bool.and_eq_true, decide_eq_true_iff, decide_eq_true_iff] at h
  refine ⟨z.toNat, by omega, ?_⟩
  unfold nat32
  omega
theorem within_row : ∀ {r : List Int}, r.all (PyInside.within 0 4294967295) = true → ∃ row : List Nat, r = So02.ints row ∧ ∀ x ∈ row, nat32 x
  | [], _ => ⟨[], rfl, by simp⟩
  | z :: r, h => by
    rw [List.all_cons, Bool.and_eq_true] at h
    obtain ⟨n, rfl, hn⟩ := within_nat h.1
    obtain ⟨row, rfl, hr⟩ := within_row h.2
    refine ⟨n :: row, rfl, fun x hx => ?_⟩
    rcases List.mem_cons.mp hx with e | hx
    · rw [e]; exact hn
    · exact hr x hx
theorem ints_len (l : List Nat) : (So02.ints l).length = l.length := List.length_map _
theorem ints_nat : ∀ {l : List Nat}, (∀ x ∈ l, nat32 x) → (So02.ints l).all So02Neutral.nat = true
  | [], _ => rfl
  | x :: l, h => by
    have hx : x ≤ 4294967295 := h x List.mem_cons_self
    show (So02Neutral.nat (x : Int) && (So02.ints l).all So02Neutral.nat) = true
    rw [ints_nat fun y hy => h y (List.mem_cons_of_mem _ hy), Bool.and_true]
    unfold So02Neutral.nat
    rw [Bool.and_eq_true, decide_eq_true_iff, decide_eq_true_iff]
    omega
theorem ints_toNat (l : List Nat) : (So02.ints l).map Int.toNat = l := by
  unfold So02.ints
  rw [List.map_map]
  conv => rhs; rw [← List.map_id l]
  refine List.map_congr_left fun x _ => ?_
  rfl
theorem step_of {s : St} {l : List Nat} {cl : Call} (h : ∀ x ∈ l, nat32 x) (e : So02Neutral.callIn l = some cl) : So02Neutral.step s (So02.ints l) = So02.step s cl := by
  have q : So02Neutral.callOf (So02.ints l) = some cl := by
    unfold So02Neutral.callOf
    rw [ints_nat h, if_neg (by simp), ints_toNat]
    exact e
  unfold So02Neutral.step
  rw [q]
/-- one call is read off -/
theorem row_inv {l x s : List Int} (h : PyFlat.row l = some (x, s)) : l = (x.length : Int) :: (x ++ s) := by
  match l, h with
  | n :: r, h =>
    unfold PyFlat.row at h
    dsimp only at h
    split at h
    · rename_i g
      injection h with h
      injection h with ha hb
      rw [← ha, ← hb, List.take_append_drop, List.length_take, Nat.min_eq_left g.2]
      congr 1
      omega
    · cases h
theorem shape_k {p : Int} {n k : Nat} (h : PySo02.shape p = some (n, k)) : k = 0 ∨ k = 1 := by
  unfold PySo02.shape at h
  by_cases h0 : p = 0
  · rw [if_pos h0] at h
    cases h
    exact .inr rfl
  rw [if_neg h0] at h
  by_cases h1 : p = 1
  · rw [if_pos h1] at h
    cases h
    exact .inl rfl
  rw [if_neg h1] at h
  by_cases h2 : p = 2
  · rw [if_pos h2] at h
    cases h
    exact .inl rfl
  rw [if_neg h2] at h
  by_cases h3 : p = 3
  · rw [if_pos h3] at h
    cases h
    exact .inl rfl
  rw [if_neg h3] at h
  by_cases h4 : p = 4
  · rw [if_pos h4] at h
    cases h
    exact .inl rfl
  rw [if_neg h4] at h
  by_cases h5 : p = 5
  · rw [if_pos h5] at h
    cases h
    exact .inl rfl
  rw [if_neg h5] at h
  by_cases h6 : p = 6
  · rw [if_pos h6] at h
    cases h
    exact .inl rfl
  rw [if_neg h6] at h
  by_cases h7 : p = 7
  · rw [if_pos h7] at h
    cases h
    exact .inl rfl
  rw [if_neg h7] at h
  by_cases h8 : p = 8
  · rw [if_pos h8] at h
    cases h
    exact .inl rfl
  rw [if_neg h8] at h
  by_cases h9 : p = 9
  · rw [if_pos h9] at h
    cases h
    exact .inr rfl
  rw [if_neg h9] at h
  by_cases h10 : p = 10
  · rw [if_pos h10] at h
    cases h
    exact .inl rfl
  rw [if_neg h10] at h
  by_cases h11 : p = 11
  · rw [if_pos h11] at h
    cases h
    exact .inl rfl
  rw [if_neg h11] at h
  cases h
theorem call_inv {p : Int} {r : List Int} {c : List (List Int)} {t : List Int} (h : PyFlat.call PySo02.shape (p :: r) = some (c, t)) :
    (∃ a, PySo02.shape p = some (a.length, 0) ∧ c = [p :: a] ∧ r = a ++ t) ∨ ∃ a x, PySo02.shape p = some (a.length, 1) ∧ c = [p :: a, x] ∧ r = a ++ (x.length : Int) :: (x ++ t) := by
  unfold PyFlat.call at h
  dsimp only at h
  cases hs : PySo02.shape p with
  | none => rw [hs] at h; cases h
  | some nk =>
    obtain ⟨n, k⟩ := nk
    rw [hs] at h
    dsimp only at h
    by_cases hl : r.length < n
    · rw [if_pos hl] at h; cases h
    · rw [if_neg hl] at h
      have ltake : (r.take n).length = n := by rw [List.length_take]; omega
      have hk : k = 0 ∨ k = 1 := shape_k hs
      rcases hk with rfl | rfl
      · have h' : some ([p :: r.take n], r.drop n) = some (c, t) := h
        obtain ⟨e1, e2⟩ := Prod.mk.inj (Option.some.inj h')
        subst e1 e2
        exact .inl ⟨r.take n, by rw [ltake], rfl, (List.take_append_drop _ _).symm⟩
      · cases hr : PyFlat.row (r.drop n) with
        | none =>
          unfold PyFlat.rows at h
          rw [hr] at h
          cases h
        | some xs =>
          obtain ⟨x, s⟩ := xs
          unfold PyFlat.rows at h
          rw [hr] at h
          have h' : some ([p :: r.take n, x], s) = some (c, t) := h
          obtain ⟨e1, e2⟩ := Prod.mk.inj (Option.some.inj h')
          subst e1 e2
          refine .inr ⟨r.take n, x, by rw [ltake], rfl, ?_⟩
          rw [← row_inv hr, List.take_append_drop]
theorem list1 {a : List Int} (h : 1 = a.length) : ∃ x, a = [x] := by
  match a, h with
  | [x], _ => exact ⟨x, rfl⟩
theorem list2 {a : List Int} (h : 2 = a.length) : ∃ x y, a = [x, y] := by
  match a, h with
  | [x, y], _ => exact ⟨x, y, rfl⟩
theorem list3 {a : List Int} (h : 3 = a.length) : ∃ x y z, a = [x, y, z] := by
  match a, h with
  | [x, y, z], _ => exact ⟨x, y, z, rfl⟩
theorem list0 {a : List Int} (h : 0 = a.length) : a = [] := by
  match a, h with
  | [], _ => rfl
/-- a call within the bounds: how it stands, and what the specification does with it -/
theorem form_of {p : Int} {r : List Int} {c : List (List Int)} {t : List Int} (h : PyFlat.call PySo02.shape (p :: r) = some (c, t)) (hb : PyInside.call PySo02.bound c = true) :
    ∃ cl, Form (p :: r) cl t ∧ ∀ s : St, So02Neutral.step s ((PySo02.whole c).headD []) = So02.step s cl := by
  have pc : p = 0 ∨ p = 1 ∨ p = 2 ∨ p = 3 ∨ p = 4 ∨ p = 5 ∨ p = 6 ∨ p = 7 ∨ p = 8 ∨ p = 9 ∨ p = 10 ∨ p = 11 := by
    refine Classical.byContradiction fun no => ?_
    have : PySo02.shape p = none := by
      unfold PySo02.shape
      repeat rw [if_neg (by omega)]
    rcases call_inv h with ⟨a, e, _⟩ | ⟨a, x, e, _⟩
    · rw [this] at e; cases e
    · rw [this] at e; cases e
  have two : ∀ (q : Int) (x y : Int), PySo02.bound q = ([(0, 4294967295), (0, 4294967295)], []) → PyInside.call PySo02.bound [[q, x, y]] = true → ∃ i j : Nat, x = (i : Int) ∧ y = (j : Int) ∧ nat32 i ∧ nat32 j := by
    intro q x y e hb
    unfold PyInside.call at hb
    dsimp only at hb
    rw [e] at hb
    simp only [PyInside.each, PyInside.lists, Bool.and_eq_true] at hb
    obtain ⟨i, rfl, hi⟩ := within_nat hb.1.1
    obtain ⟨j, rfl, hj⟩ := within_nat hb.1.2.1
    exact ⟨i, j, rfl, rfl, hi, hj⟩
  have one : ∀ (q : Int) (x : Int), PySo02.bound q = ([(0, 4294967295)], []) → PyInside.call PySo02.bound [[q, x]] = true → ∃ i : Nat, x = (i : Int) ∧ nat32 i := by
    intro q x e hb
    unfold PyInside.call at hb
    dsimp only at hb
    rw [e] at hb
    simp only [PyInside.each, PyInside.lists, Bool.and_eq_true] at hb
    obtain ⟨i, rfl, hi⟩ := within_nat hb.1.1
    exact ⟨i, rfl, hi⟩
  have n3 : ∀ {x y z : Nat}, nat32 x → nat32 y → nat32 z → ∀ u ∈ [x, y, z], nat32 u := by
    intro x y z hx hy hz u hu
    simp only [List.mem_cons, List.not_mem_nil, or_false] at hu
    rcases hu with rfl | rfl | rfl <;> assumption
  have n2 : ∀ {x y : Nat}, nat32 x → nat32 y → ∀ u ∈ [x, y], nat32 u := by
    intro x y hx hy u hu
    simp only [List.mem_cons, List.not_mem_nil, or_false] at hu
    rcases hu with rfl | rfl <;> assumption
  have n1 : ∀ {x : Nat}, nat32 x → ∀ u ∈ [x], nat32 u := by
    intro x hx u hu
    simp only [List.mem_cons, List.not_mem_nil, or_false] at hu
    subst hu
    assumption
  have sm : ∀ k : Nat, k ≤ 11 → nat32 k := fun k hk => by unfold nat32; omega
  rcases pc with rfl | rfl | rfl | rfl | rfl | rfl | rfl | rfl | rfl | rfl | rfl | rfl
  · rcases call_inv h with ⟨a, e, _⟩ | ⟨a, x, e, rfl, rfl⟩
    · exact absurd e (by simp [PySo02.shape])
    · have e' : some (2, 1) = some (a.length, 1) := e
      injection e' with e'
      injection e' with e' _
      obtain ⟨u, v, rfl⟩ := list2 e'
      have hb' : PyInside.call PySo02.bound [[0, u, v], x] = true := hb
      unfold PyInside.call at hb'
      dsimp only at hb'
      rw [show PySo02.bound 0 = ([(0, 4294967295), (0, 4294967295)], [(0, 4294967295, 0, 20)]) from rfl] at hb'
      simp only [PyInside.each, PyInside.lists, Bool.and_eq_true, decide_eq_true_iff] at hb'
      obtain ⟨⟨h1, h2, _⟩, ⟨⟨_, h3⟩, h4⟩, _⟩ := hb'
      obtain ⟨i, rfl, hi⟩ := within_nat h1
      obtain ⟨j, rfl, hj⟩ := within_nat h2
      obtain ⟨row, rfl, hrow⟩ := within_row h4
      rw [ints_len] at h3
      refine ⟨.table i j row, ?_, fun s => ?_⟩
      · have := Form.table i j row t hi hj h3 hrow
        rw [ints_len]
        exact this
      · refine step_of (l := 0 :: i :: j :: row) (fun u hu => ?_) rfl
        rcases List.mem_cons.mp hu with rfl | hu
        · exact sm 0 (by omega)
        · rcases List.mem_cons.mp hu with rfl | hu
          · exact hi
          · rcases List.mem_cons.mp hu with rfl | hu
            · exact hj
            · exact hrow u hu
  · rcases call_inv h with ⟨a, e, rfl, rfl⟩ | ⟨a, x, e, _⟩
    · have e' : some (2, 0) = some (a.length, 0) := e
      injection e' with e'
      injection e' with e' _
      obtain ⟨u, v, rfl⟩ := list2 e'
      obtain ⟨i, j, rfl, rfl, hi, hj⟩ := two 1 u v rfl hb
      exact ⟨_, .keep i j t hi hj, fun s => step_of (l := [1, i, j]) (n3 (sm 1 (by omega)) hi hj) rfl⟩
    · exact absurd e (by simp [PySo02.shape])
  · rcases call_inv h with ⟨a, e, rfl, rfl⟩ | ⟨a, x, e, _⟩
    · have e' : some (2, 0) = some (a.length, 0) := e
      injection e' with e'
      injection e' with e' _
      obtain ⟨u, v, rfl⟩ := list2 e'
      obtain ⟨i, j, rfl, rfl, hi, hj⟩ := two 2 u v rfl hb
      exact ⟨_, .tell i j t hi hj, fun s => step_of (l := [2, i, j]) (n3 (sm 2 (by omega)) hi hj) rfl⟩
    · exact absurd e (by simp [PySo02.shape])
  · rcases call_inv h with ⟨a, e, rfl, rfl⟩ | ⟨a, x, e, _⟩
    · have e' : some (2, 0) = some (a.length, 0) := e
      injection e' with e'
      injection e' with e' _
      obtain ⟨u, v, rfl⟩ := list2 e'
      obtain ⟨i, j, rfl, rfl, hi, hj⟩ := two 3 u v rfl hb
      exact ⟨_, .range i j t hi hj, fun s => step_of (l := [3, i, j]) (n3 (sm 3 (by omega)) hi hj) rfl⟩
    · exact absurd e (by simp [PySo02.shape])
  · rcases call_inv h with ⟨a, e, rfl, rfl⟩ | ⟨a, x, e, _⟩
    · have e' : some (0, 0) = some (a.length, 0) := e
      injection e' with e'
      injection e' with e' _
      obtain rfl := list0 e'
      exact ⟨_, .known t, fun s => step_of (l := [4]) (n1 (sm 4 (by omega))) rfl⟩
    · exact absurd e (by simp [PySo02.shape])
  · rcases call_inv h with ⟨a, e, rfl, rfl⟩ | ⟨a, x, e, _⟩
    · have e' : some (1, 0) = some (a.length, 0) := e
      injection e' with e'
      injection e' with e' _
      obtain ⟨u, rfl⟩ := list1 e'
      obtain ⟨i, rfl, hi⟩ := one 5 u rfl hb
      exact ⟨_, .near i t hi, fun s => step_of (l := [5, i]) (n2 (sm 5 (by omega)) hi) rfl⟩
    · exact absurd e (by simp [PySo02.shape])
  · rcases call_inv h with ⟨a, e, rfl, rfl⟩ | ⟨a, x, e, _⟩
    · have e' : some (1, 0) = some (a.length, 0) := e
      injection e' with e'
      injection e' with e' _
      obtain ⟨u, rfl⟩ := list1 e'
      obtain ⟨i, rfl, hi⟩ := one 6 u rfl hb
      exact ⟨_, .more i t hi, fun s => step_of (l := [6, i]) (n2 (sm 6 (by omega)) hi) rfl⟩
    · exact absurd e (by simp [PySo02.shape])
  · rcases call_inv h with ⟨a, e, rfl, rfl⟩ | ⟨a, x, e, _⟩
    · have e' : some (1, 0) = some (a.length, 0) := e
      injection e' with e'
      injection e' with e' _
      obtain ⟨u, rfl⟩ := list1 e'
      obtain ⟨i, rfl, hi⟩ := one 7 u rfl hb
      exact ⟨_, .hide i t hi, fun s => step_of (l := [7, i]) (n2 (sm 7 (by omega)) hi) rfl⟩
    · exact absurd e (by simp [PySo02.shape])
  · rcases call_inv h with ⟨a, e, rfl, rfl⟩ | ⟨a, x, e, _⟩
    · have e' : some (0, 0) = some (a.length, 0) := e
      injection e' with e'
      injection e' with e' _
      obtain rfl := list0 e'
      exact ⟨_, .shown t, fun s => step_of (l := [8]) (n1 (sm 8 (by omega))) rfl⟩
    · exact absurd e (by simp [PySo02.shape])
  · rcases call_inv h with ⟨a, e, _⟩ | ⟨a, x, e, rfl, rfl⟩
    · exact absurd e (by simp [PySo02.shape])
    · have e' : some (0, 1) = some (a.length, 1) := e
      injection e' with e'
      injection e' with e' _
      obtain rfl := list0 e'
      have hb' : PyInside.call PySo02.bound [[9], x] = true := hb
      unfold PyInside.call at hb'
      dsimp only at hb'
      rw [show PySo02.bound 9 = ([], [(0, 4294967295, 0, 20)]) from rfl] at hb'
      simp only [PyInside.each, PyInside.lists, Bool.and_eq_true, decide_eq_true_iff] at hb'
      obtain ⟨_, ⟨⟨_, h3⟩, h4⟩, _⟩ := hb'
      obtain ⟨row, rfl, hrow⟩ := within_row h4
      rw [ints_len] at h3
      refine ⟨.fits row, ?_, fun s => ?_⟩
      · have := Form.fits row t h3 hrow
        rw [ints_len]
        exact this
      · refine step_of (l := 9 :: row) (fun u hu => ?_) rfl
        rcases List.mem_cons.mp hu with rfl | hu
        · exact sm 9 (by omega)
        · exact hrow u hu
  · rcases call_inv h with ⟨a, e, rfl, rfl⟩ | ⟨a, x, e, _⟩
    · have e' : some (3, 0) = some (a.length, 0) := e
      injection e' with e'
      injection e' with e' _
      obtain ⟨u, v, z, rfl⟩ := list3 e'
      have hb' : PyInside.call PySo02.bound [[10, u, v, z]] = true := hb
      unfold PyInside.call at hb'
      dsimp only at hb'
      rw [show PySo02.bound 10 = ([(0, 4294967295), (0, 4294967295), (0, 4294967295)], []) from rfl] at hb'
      simp only [PyInside.each, PyInside.lists, Bool.and_eq_true] at hb'
      obtain ⟨⟨h1, h2, h3, _⟩, _⟩ := hb'
      obtain ⟨i, rfl, hi⟩ := within_nat h1
      obtain ⟨j, rfl, hj⟩ := within_nat h2
      obtain ⟨k, rfl, hk⟩ := within_nat h3
      refine ⟨_, .first i j k t hi hj hk, fun s => step_of (l := [10, i, j, k]) (fun u hu => ?_) rfl⟩
      rcases List.mem_cons.mp hu with rfl | hu
      · exact sm 10 (by omega)
      · exact n3 hi hj hk u hu
    · exact absurd e (by simp [PySo02.shape])
  · rcases call_inv h with ⟨a, e, rfl, rfl⟩ | ⟨a, x, e, _⟩
    · have e' : some (0, 0) = some (a.length, 0) := e
      injection e' with e'
      injection e' with e' _
      obtain rfl := list0 e'
      exact ⟨_, .sums t, fun s => step_of (l := [11]) (n1 (sm 11 (by omega))) rfl⟩
    · exact absurd e (by simp [PySo02.shape])
/-- **what is left to be played**: nothing, or a call and what is left behind it -/
theorem rest_step {rem : List Int} {s : St} {out : List Int} (h : Rest rem s out) :
    (rem = [] ∧ out = []) ∨ ∃ cl t out', Form rem cl t ∧ Rest t (So02.step s cl).1 out' ∧ out = ((So02.step s cl).2.length : Int) :: (So02.step s cl).2 ++ out' := by
  obtain ⟨f, cs, hc, hb, rfl⟩ := h.ex
  cases rem with
  | nil =>
    left
    cases f <;> (have e : some [] = some cs := hc; injection e with e; subst e; exact ⟨rfl, rfl⟩)
  | cons p r =>
    right
    cases f with
    | zero => cases hc
    | succ f =>
      unfold PyFlat.calls at hc
      cases hk : PyFlat.call PySo02.shape (p :: r) with
      | none => rw [hk] at hc; cases hc
      | some ct =>
        obtain ⟨c, t⟩ := ct
        rw [hk] at hc
        dsimp only at hc
        cases hr : PyFlat.calls PySo02.shape f t with
        | none => rw [hr] at hc; cases hc
        | some cs' =>
          rw [hr] at hc
          have e : some (c :: cs') = some cs := hc
          injection e with e
          subst e
          have hb' : (PyInside.call PySo02.bound c && cs'.all (PyInside.call PySo02.bound)) = true := hb
          rw [Bool.and_eq_true] at hb'
          obtain ⟨cl, hf, hs⟩ := form_of hk hb'.1
          refine ⟨cl, t, _, hf, ⟨f, cs', hr, hb'.2, rfl⟩, ?_⟩
          rw [← hs s]
          rfl
theorem rest_start {l : List Int} (h : PySo02.answers_asked l = true) : Rest l So02.init (PySo02.answers l) ∧ (PySo02.answers l).length ≤ 10000000 := by
  unfold PySo02.answers_asked at h
  cases hc : PyFlat.calls PySo02.shape l.length l with
  | none => rw [hc] at h; cases h
  | some raw =>
    rw [hc] at h
    dsimp only at h
    simp only [Bool.and_eq_true] at h
    refine ⟨⟨l.length, raw, hc, h.1.1.2, ?_⟩, ?_⟩
    · unfold PySo02.answers PySo02.calls
      rw [hc]
      rfl
    · have := h.2
      unfold PyFlat.short at this
      exact decide_eq_true_iff.mp this
end CK
namespace CK
open So02
/-! ### kept cells as marks -/
def pick (n : Nat) (P : Nat → Bool) : List Nat := (List.range n).filter P
theorem pick_succ (n : Nat) (P : Nat → Bool) : pick (n + 1) P = pick n P ++ (if P n = true then [n] else []) := by
  unfold pick
  rw [List.range_succ, List.filter_append, List.filter_cons]
  rfl
theorem pick_lt {n : Nat} {P : Nat → Bool} {x : Nat} (h : x ∈ pick n P) : x < n := List.mem_range.mp (List.mem_filter.mp h).1
theorem mem_pick {n : Nat} {P : Nat → Bool} {x : Nat} : x ∈ pick n P ↔ x < n ∧ P x = true := by
  unfold pick
  rw [List.mem_filter, List.mem_range]
theorem pick_congr {n : Nat} {P Q : Nat → Bool} (h : ∀ x, x < n → P x = Q x) : pick n P = pick n Q := List.filter_congr fun x hx => h x (List.mem_range.mp hx)
theorem has_pick {n : Nat} {P : Nat → Bool} {x : Nat} (h : x < n) : (pick n P).contains x = P x := by
  rw [Bool.eq_iff_iff, List.contains_iff_mem, mem_pick]
  exact ⟨fun z => z.2, fun z => ⟨h, z⟩⟩
theorem insert_end : ∀ {l : List Nat} {a : Nat}, (∀ x ∈ l, x < a) → So02.insert a l = l ++ [a]
  | [], a, _ => rfl
  | x :: l, a, h => by
    have hx := h x List.mem_cons_self
    show (if a < x then _ else if x = a then _ else x :: So02.insert a l) = _
    rw [if_neg (by omega), if_neg (by omega), insert_end fun y hy => h y (List.mem_cons_of_mem _ hy)]
    rfl
theorem insert_app : ∀ {l : List Nat} {a n : Nat}, a < n → So02.insert a (l ++ [n]) = So02.insert a l ++ [n]
  | [], a, n, h => by
    show (if a < n then [a, n] else if n = a then [n] else [n, a]) = _
    rw [if_pos h]
    rfl
  | x :: l, a, n, h => by
    show (if a < x then a :: x :: (l ++ [n]) else if x = a then x :: (l ++ [n]) else x :: So02.insert a (l ++ [n])) = (if a < x then a :: x :: l else if x = a then x :: l else x :: So02.insert a l) ++ [n]
    rw [insert_app h]
    split
    · rfl
    · split <;> rfl
theorem insert_old : ∀ {l : List Nat} {n : Nat}, (∀ x ∈ l, x < n) → So02.insert n (l ++ [n]) = l ++ [n]
  | [], n, _ => by
    show (if n < n then [n, n] else if n = n then [n] else [n, n]) = _
    rw [if_neg (by omega), if_pos rfl]
    rfl
  | x :: l, n, h => by
    have hx := h x List.mem_cons_self
    show (if n < x then _ else if x = n then _ else x :: So02.insert n (l ++ [n])) = _
    rw [if_neg (by omega), if_neg (by omega), insert_old fun y hy => h y (List.mem_cons_of_mem _ hy)]
    rfl
theorem insert_pick {P : Nat → Bool} {p : Nat} : ∀ {n : Nat}, p < n → So02.insert p (pick n P) = pick n (fun q => P q || q == p)
  | 0, h => absurd h (Nat.not_lt_zero _)
  | n + 1, h => by
    rw [pick_succ, pick_succ]
    by_cases z : p = n
    · subst z
      have e : pick p (fun q => P q || q == p) = pick p P := pick_congr fun x hx => by
        have : (x == p) = false := by simp; omega
        rw [this, Bool.or_false]
      rw [e]
      have : (P p || p == p) = true := by simp
      rw [if_pos this]
      by_cases k : P p = true
      · rw [if_pos k]
        exact insert_old fun x hx => pick_lt hx
      · rw [if_neg k, List.append_nil]
        exact insert_end fun x hx => pick_lt hx
    · have hp : p < n := by omega
      have e : (n == p) = false := by simp; omega
      rw [e, Bool.or_false]
      by_cases k : P n = true
      · rw [if_pos k, insert_app hp, insert_pick hp]
      · rw [if_neg k, List.append_nil, List.append_nil, insert_pick hp]
theorem pick_but {n : Nat} {P : Nat → Bool} {p : Nat} : (pick n P).filter (fun q => q != p) = pick n (fun q => P q && q != p) := by
  unfold pick
  rw [List.filter_filter]
  exact List.filter_congr fun x _ => Bool.and_comm _ _
theorem pick_pick {n : Nat} {P Q : Nat → Bool} : (pick n P).filter Q = pick n (fun q => P q && Q q) := by
  unfold pick
  rw [List.filter_filter]
  exact List.filter_congr fun x _ => Bool.and_comm _ _
theorem getD_set {ks : List Bool} {p q : Nat} {b : Bool} (h : p < ks.length) : (ks.set p b).getD q false = if q = p then b else ks.getD q false := by
  rw [List.getD_eq_getElem?_getD, List.getElem?_set, List.getD_eq_getElem?_getD]
  by_cases z : p = q
  · subst z
    rw [if_pos rfl, if_pos rfl, if_pos h]
    rfl
  · rw [if_neg z, if_neg fun w => z w.symm]
/-- the specification's state: the marks of the cells kept for themselves, and with others -/
def stOf (t : Table) (ks al : List Bool) : Table := ⟨t.rows, t.cols, t.nums, pick (t.rows * t.cols) (fun p => ks.getD p false), pick (t.rows * t.cols) (fun p => al.getD p false)⟩
def orAt (ks al : List Bool) (p : Nat) : Bool := ks.getD p false || al.getD p false
theorem hidden_of (t : Table) (ks al : List Bool) : hidden (stOf t ks al) = pick (t.rows * t.cols) (orAt ks al) := by
  show (List.range (t.rows * t.cols)).filter _ = pick _ _
  refine List.filter_congr fun p hp => ?_
  have hp := List.mem_range.mp hp
  show ((pick _ _).contains p || (pick _ _).contains p) = _
  rw [has_pick hp, has_pick hp]
  rfl
theorem keep_of {t : Table} {ks al : List Bool} {p : Nat} (hk : ks.length = t.rows * t.cols) (ha : al.length = t.rows * t.cols) (hp : p < t.rows * t.cols) :
    ({ stOf t ks al with kept := So02.insert p (stOf t ks al).kept, also := (stOf t ks al).also.filter fun q => q != p } : Table) = stOf t (ks.set p true) (al.set p false) := by
  have h1 : So02.insert p (pick (t.rows * t.cols) fun q => ks.getD q false) = pick (t.rows * t.cols) (fun q => (ks.set p true).getD q false) := by
    rw [insert_pick hp]
    refine pick_congr fun q _ => ?_
    rw [getD_set (by omega)]
    by_cases z : q = p
    · rw [if_pos z]; simp [z]
    · rw [if_neg z]; simp [z]
  have h2 : (pick (t.rows * t.cols) fun q => al.getD q false).filter (fun q => q != p) = pick (t.rows * t.cols) (fun q => (al.set p false).getD q false) := by
    rw [pick_but]
    refine pick_congr fun q _ => ?_
    rw [getD_set (by omega)]
    by_cases z : q = p
    · rw [if_pos z]; simp [z]
    · rw [if_neg z]; simp [z]
  show Table.mk _ _ _ (So02.insert p (pick (t.rows * t.cols) fun q => ks.getD q false)) ((pick (t.rows * t.cols) fun q => al.getD q false).filter (fun q => q != p)) = _
  rw [h1, h2]
  rfl
theorem tell_of {t : Table} {ks al : List Bool} {p : Nat} (hk : ks.length = t.rows * t.cols) (ha : al.length = t.rows * t.cols) (hp : p < t.rows * t.cols) :
    ({ stOf t ks al with kept := (stOf t ks al).kept.filter (fun q => q != p), also := (stOf t ks al).also.filter fun q => q != p } : Table) = stOf t (ks.set p false) (al.set p false) := by
  have h1 : (pick (t.rows * t.cols) fun q => ks.getD q false).filter (fun q => q != p) = pick (t.rows * t.cols) (fun q => (ks.set p false).getD q false) := by
    rw [pick_but]
    refine pick_congr fun q _ => ?_
    rw [getD_set (by omega)]
    by_cases z : q = p
    · rw [if_pos z]; simp [z]
    · rw [if_neg z]; simp [z]
  have h2 : (pick (t.rows * t.cols) fun q => al.getD q false).filter (fun q => q != p) = pick (t.rows * t.cols) (fun q => (al.set p false).getD q false) := by
    rw [pick_but]
    refine pick_congr fun q _ => ?_
    rw [getD_set (by omega)]
    by_cases z : q = p
    · rw [if_pos z]; simp [z]
    · rw [if_neg z]; simp [z]
  show Table.mk _ _ _ ((pick (t.rows * t.cols) fun q => ks.getD q false).filter (fun q => q != p)) ((pick (t.rows * t.cols) fun q => al.getD q false).filter (fun q => q != p)) = _
  rw [h1, h2]
  rfl
theorem keep_hidden {t : Table} {ks al : List Bool} {p : Nat} (hp : p < t.rows * t.cols) :
    hidden ({ stOf t ks al with kept := So02.insert p (stOf t ks al).kept } : Table) = pick (t.rows * t.cols) (fun q => orAt ks al q || q == p) := by
  show (List.range (t.rows * t.cols)).filter _ = pick _ _
  refine List.filter_congr fun q hq => ?_
  have hq := List.mem_range.mp hq
  show ((So02.insert p (pick _ _)).contains q || (pick _ _).contains q) = _
  rw [insert_pick hp, has_pick hq, has_pick hq]
  unfold orAt
  cases ks.getD q false <;> cases al.getD q false <;> cases (q == p) <;> rfl
/-! ### what the specification answers, in these words -/
theorem place_some {t : Table} {i j : Nat} (h : 1 ≤ i ∧ i ≤ t.rows ∧ 1 ≤ j ∧ j ≤ t.cols) : place t i j = some ((i - 1) * t.cols + (j - 1)) := if_pos h
theorem place_none {t : Table} {i j : Nat} (h : ¬ (1 ≤ i ∧ i ≤ t.rows ∧ 1 ≤ j ∧ j ≤ t.cols)) : place t i j = none := if_neg h
theorem place_lt {t : Table} {i j : Nat} (h : 1 ≤ i ∧ i ≤ t.rows ∧ 1 ≤ j ∧ j ≤ t.cols) : (i - 1) * t.cols + (j - 1) < t.rows * t.cols := by
  have : (i - 1 + 1) * t.cols ≤ t.rows * t.cols := Nat.mul_le_mul_right _ (by omega)
  rw [Nat.add_mul] at this
  omega
end CK
namespace CK
open PySem PySem.Spec PyProof.Rows L2
/-! ### a dict of the module's own, whole numbers for keys -/
def KInt (P : Program) (w : World) (K : PySem.W.Frag) (a : Addr) (k : Int) (v : V) : Prop :=
  ∃ es n u, K.lookup a = some ⟨.type "dict", none, .dict es n, #[]⟩ ∧ KeysOf (intKind P w) es ∧ findBy (intKind P w).is es k = some u ∧ RelV v u
theorem ix_kint {X : Cx} : IxR X (fun x y H Q => ∃ p k v, x = .ref p ∧ y = .int k ∧ KInt X.prog X.w X.K p k v ∧ Q v H) := by
  intro value slice pins s σ H x y v u Q I rx ry h hs
  obtain ⟨p, k, r, rfl, rfl, ⟨es, n, u0, hl, hk, e, ru⟩, q⟩ := h
  obtain rfl : v = Value.ref p := rx
  obtain ⟨t, rfl⟩ := ry
  have hm : s.heap.MapOf (intKind X.prog X.w) p (fun k => findBy (intKind X.prog X.w).is es k) := ⟨_, es, n, I.kIn _ _ hl, ⟨rfl, rfl, rfl⟩, rfl, hk, fun _ => rfl⟩
  exact tail_any hm.typeIs slot_dict_getitem.lookup (wpAny_getItem_of (intKind_is X.prog X.w k t) hm e ⟨r, H, I.tok _, ru, q⟩) hs
end CK
namespace CK
open So02
/-! ### choices of so many cells, level by level -/
theorem ch0 (l : List Nat) : choices 0 l = [[]] := by cases l <;> rfl
theorem chC (k x : Nat) (l : List Nat) : choices (k + 1) (x :: l) = (choices k l).map (fun c => x :: c) ++ choices (k + 1) l := rfl
theorem mem_choices : ∀ {k : Nat} {l s : List Nat}, s ∈ choices k l → s ∈ subsets l ∧ s.length = k
  | 0, l, s, h => by
    rw [ch0, List.mem_singleton] at h
    subst h
    refine ⟨?_, rfl⟩
    have := subs_filter (fun _ => false) l
    have e : l.filter (fun _ => false) = [] := by simp
    rw [e] at this
    exact this
  | k + 1, [], s, h => by cases h
  | k + 1, x :: l, s, h => by
    rw [chC, List.mem_append, List.mem_map] at h
    show s ∈ subsets l ++ (subsets l).map (fun s => x :: s) ∧ _
    rw [List.mem_append, List.mem_map]
    rcases h with ⟨c, hc, rfl⟩ | h
    · obtain ⟨h1, h2⟩ := mem_choices hc
      exact ⟨.inr ⟨c, h1, rfl⟩, by rw [List.length_cons, h2]⟩
    · obtain ⟨h1, h2⟩ := mem_choices h
      exact ⟨.inl h1, h2⟩
theorem choices_len : ∀ (k : Nat) (l : List Nat), (choices k l).length ≤ 2 ^ l.length
  | 0, l => by rw [ch0]; exact Nat.one_le_two_pow
  | k + 1, [] => Nat.zero_le _
  | k + 1, x :: l => by
    rw [chC, List.length_append, List.length_map, List.length_cons, Nat.pow_succ]
    have := choices_len k l
    have := choices_len (k + 1) l
    omega
theorem choices_all : ∀ (l : List Nat), choices l.length l = [l]
  | [] => rfl
  | x :: l => by
    rw [List.length_cons, chC, choices_all l]
    have : ∀ (l : List Nat) (k : Nat), l.length ≤ k → choices (k + 1) l = [] := by
      intro l
      induction l with
      | nil => intro k _; rfl
      | cons y m ih =>
        intro k hk
        rw [List.length_cons] at hk
        rw [chC, ih k (by omega)]
        cases k with
        | zero => omega
        | succ k => rw [ih k (by omega)]; rfl
    rw [this l l.length (Nat.le_refl _)]
    rfl
theorem choices_pos : ∀ (k : Nat) (l : List Nat), k ≤ l.length → 0 < (choices k l).length
  | 0, l, _ => by rw [ch0]; exact Nat.one_pos
  | k + 1, [], h => by simp at h
  | k + 1, x :: l, h => by
    rw [chC, List.length_append, List.length_map]
    have := choices_pos k l (by rw [List.length_cons] at h; omega)
    omega
def lastLt (s : List Nat) (p : Nat) : Bool := match s.getLast? with
  | none => true
  | some q => decide (q < p)
def ext (l s : List Nat) : List (List Nat) := (l.filter (lastLt s)).map fun p => s ++ [p]
theorem last_cons (x p : Nat) (s : List Nat) : lastLt (x :: s) p = decide (s.getLast?.getD x < p) := by
  unfold lastLt
  rw [List.getLast?_cons]
theorem last_mem {s : List Nat} {q : Nat} (h : s.getLast? = some q) : q ∈ s := List.mem_of_getLast? h
theorem ext_in {x : Nat} {l s : List Nat} (hx : ∀ y ∈ l, x < y) (hs : ∀ y ∈ s, y ∈ l) : ext (x :: l) (x :: s) = (ext l s).map fun c => x :: c := by
  unfold ext
  have e : (x :: l).filter (lastLt (x :: s)) = l.filter (lastLt s) := by
    have e0 : lastLt (x :: s) x = false := by
      rw [last_cons]
      cases h : s.getLast? with
      | none => simp
      | some q =>
        have := hx q (hs q (last_mem h))
        rw [Option.getD_some]
        exact decide_eq_false (by omega)
    rw [List.filter_cons, e0, if_neg Bool.false_ne_true]
    refine List.filter_congr fun p hp => ?_
    rw [last_cons]
    unfold lastLt
    cases h : s.getLast? with
    | none =>
      rw [Option.getD_none]
      exact decide_eq_true (hx p hp)
    | some q => rfl
  rw [e, List.map_map]
  rfl
theorem ext_out {x : Nat} {l s : List Nat} (hx : ∀ y ∈ l, x < y) (h0 : s ≠ []) (hs : ∀ y ∈ s, y ∈ l) : ext (x :: l) s = ext l s := by
  unfold ext
  have e0 : lastLt s x = false := by
    unfold lastLt
    cases h : s.getLast? with
    | none => exact absurd (List.getLast?_eq_none_iff.mp h) h0
    | some q =>
      have := hx q (hs q (last_mem h))
      exact decide_eq_false (by omega)
  rw [List.filter_cons, e0, if_neg Bool.false_ne_true]
theorem flatMap_congr' {α β : Type} {f g : α → List β} : ∀ {l : List α}, (∀ x ∈ l, f x = g x) → l.flatMap f = l.flatMap g
  | [], _ => rfl
  | x :: l, h => by
    rw [List.flatMap_cons, List.flatMap_cons, h x List.mem_cons_self, flatMap_congr' fun y hy => h y (List.mem_cons_of_mem _ hy)]
theorem choices_up : ∀ (k : Nat) (l : List Nat), l.Pairwise (· < ·) → (choices k l).flatMap (ext l) = choices (k + 1) l
  | 0, [], _ => rfl
  | 0, x :: l, h => by
    have ih := choices_up 0 l (List.pairwise_cons.mp h).2
    rw [ch0] at ih
    rw [ch0, chC, ch0, ← ih]
    have e : ∀ m : List Nat, ext m [] = m.map fun p => [p] := by
      intro m
      unfold ext
      have : m.filter (lastLt []) = m := List.filter_eq_self.mpr fun _ _ => rfl
      rw [this]
      rfl
    rw [List.flatMap_cons, List.flatMap_cons, e, e]
    simp
  | k + 1, [], _ => rfl
  | k + 1, x :: l, h => by
    obtain ⟨hx, hl⟩ := List.pairwise_cons.mp h
    have ih1 := choices_up k l hl
    have ih2 := choices_up (k + 1) l hl
    rw [chC k, chC (k + 1), List.flatMap_append]
    congr 1
    · rw [← ih1, List.map_flatMap, List.flatMap_map]
      refine flatMap_congr' fun s hs => ?_
      exact ext_in hx fun y hy => subs_sub (mem_choices hs).1 y hy
    · rw [← ih2]
      refine flatMap_congr' fun s hs => ?_
      obtain ⟨h1, h2⟩ := mem_choices hs
      exact ext_out hx (fun z => by rw [z] at h2; cases h2) fun y hy => subs_sub h1 y hy
/-! ### the first that is found -/
theorem find_at {α : Type} {P : α → Bool} : ∀ {l : List α} {j : Nat} {c : α}, l[j]? = some c → (∀ d ∈ l.take j, P d = false) → P c = true → l.find? P = some c
  | [], j, c, h, _, _ => by simp at h
  | x :: l, 0, c, h, _, hc => by
    obtain rfl : x = c := Option.some.inj h
    exact List.find?_cons_of_pos hc
  | x :: l, j + 1, c, h, hn, hc => by
    rw [List.find?_cons_of_neg (by rw [hn x List.mem_cons_self]; exact Bool.false_ne_true)]
    exact find_at (j := j) h (fun d hd => hn d (List.mem_cons_of_mem _ hd)) hc
theorem find_flat {α : Type} {P : α → Bool} {f : Nat → List α} {n k : Nat} {c : α} (hk : k < n) (hn : ∀ i, i < k → ∀ d ∈ f i, P d = false) (h : (f k).find? P = some c) : ((List.range n).flatMap f).find? P = some c := by
  obtain ⟨m, rfl⟩ : ∃ m, n = k + (m + 1) := ⟨n - k - 1, by omega⟩
  rw [List.range_add, List.flatMap_append, List.find?_append]
  have e : ((List.range k).flatMap f).find? P = none := by
    rw [List.find?_eq_none]
    intro d hd
    obtain ⟨i, hi, hd⟩ := List.mem_flatMap.mp hd
    rw [hn i (List.mem_range.mp hi) d hd]
    exact Bool.false_ne_true
  rw [e, List.range_succ_eq_map, List.map_cons, List.flatMap_cons, List.find?_append]
  show none.or ((f k).find? P |>.or _) = _
  rw [h]
  rfl
/-! ### marks with some cells more -/
def orL (ks : List Bool) (c : List Nat) : List Bool := c.foldl (fun m p => m.set p true) ks
theorem orL_len : ∀ (c : List Nat) (ks : List Bool), (orL ks c).length = ks.length
  | [], _ => rfl
  | p :: c, ks => by
    show (orL (ks.set p true) c).length = _
    rw [orL_len c, List.length_set]
theorem orL_at : ∀ (c : List Nat) (ks : List Bool) {p : Nat}, p < ks.length → (orL ks c).getD p false = (ks.getD p false || c.contains p)
  | [], ks, p, _ => by show ks.getD p false = _; simp
  | q :: c, ks, p, h => by
    show (orL (ks.set q true) c).getD p false = _
    rw [orL_at c _ (by rw [List.length_set]; exact h), List.contains_cons]
    by_cases z : p = q
    · subst z
      rw [getD_set h, if_pos rfl]
      simp
    · have e : (ks.set q true).getD p false = ks.getD p false := by
        rw [List.getD_eq_getElem?_getD, List.getElem?_set_ne (fun w => z w.symm), List.getD_eq_getElem?_getD]
      rw [e]
      have : (p == q) = false := by simpa using z
      rw [this]
      cases ks.getD p false <;> simp
theorem orL_snoc (ks : List Bool) (c : List Nat) (p : Nat) : orL ks (c ++ [p]) = (orL ks c).set p true := by
  unfold orL
  rw [List.foldl_append]
  rfl
end CK
namespace CK
open So02
/-! ### the first table, cell by cell -/
theorem lex_not {x z : Nat → Nat} {o : Nat} {h2 : List Nat} : ∀ {h1 : List Nat}, (∀ p ∈ h1, x p = z p) → z o < x o → ¬ lexLe ((h1 ++ o :: h2).map x) ((h1 ++ o :: h2).map z)
  | [], _, lt, q => by
    rw [List.nil_append, List.map_cons, List.map_cons] at q
    rcases q with q | ⟨q, _⟩ <;> omega
  | p :: h1, e, lt, q => by
    rw [List.cons_append, List.map_cons, List.map_cons] at q
    have ep := e p List.mem_cons_self
    rcases q with q | ⟨_, q⟩
    · omega
    · exact lex_not (fun r hr => e r (List.mem_cons_of_mem _ hr)) lt q
theorem before {o p : Nat} : ∀ {m : List Nat} {j : Nat}, m.Pairwise (· < ·) → m[j]? = some o → p ∈ m → p < o → p ∈ m.take j
  | [], _, _, h, _, _ => by simp at h
  | x :: m, 0, hp, h, hm, lt => by
    obtain rfl : x = o := Option.some.inj h
    rcases List.mem_cons.mp hm with e | hm
    · omega
    · have := (List.pairwise_cons.mp hp).1 p hm
      omega
  | x :: m, j + 1, hp, h, hm, lt => by
    rw [List.take_succ_cons]
    rcases List.mem_cons.mp hm with e | hm
    · rw [e]; exact List.mem_cons_self
    · exact List.mem_cons_of_mem _ (before (j := j) (List.pairwise_cons.mp hp).2 h hm lt)
/-- what the first filling x has at o is the least with which the cells that are left can be filled; Q: the hidden cells, L: those that are left -/
theorem greedy {t t' : Table} {Q L : Nat → Bool} {x : Nat → Nat} {e v o : Nat} (er : t'.rows = t.rows) (ec : t'.cols = t.cols)
    (hx : ∀ p ∈ (cells t).filter Q, num t' p = x p) (F : Filt t ((cells t).filter Q) (rowLeft t ((cells t).filter Q)) (colLeft t ((cells t).filter Q)) x) (xe : x e = v)
    (hmin : ∀ y, Filt t ((cells t).filter Q) (rowLeft t ((cells t).filter Q)) (colLeft t ((cells t).filter Q)) y → y e = v → lexLe (((cells t).filter Q).map x) (((cells t).filter Q).map y))
    (hL : ∀ p, L p = true → Q p = true) (he : e ∈ (cells t).filter Q) (heL : L e = false) (ho : o ∈ (cells t).filter L) (hb : ∀ p ∈ (cells t).filter Q, p < o → L p = false) :
    least t' ((cells t').filter L) o = x o := by
  have ecells : cells t' = cells t := by unfold cells; rw [er, ec]
  have erow : rowOf t' = rowOf t := by funext p; unfold rowOf; rw [ec]
  have ecol : colOf t' = colOf t := by funext p; unfold colOf; rw [ec]
  have ho' : o ∈ (cells t').filter L := by rw [ecells]; exact ho
  have hoQ : o ∈ (cells t).filter Q := List.mem_filter.mpr ⟨(List.mem_filter.mp ho).1, hL o (List.mem_filter.mp ho).2⟩
  have n1 := least_le_num (nodup_filter t' L) (in_filter t' L) ho'
  rw [hx o hoQ] at n1
  refine Classical.byContradiction fun ne => ?_
  have lt : least t' ((cells t').filter L) o < x o := by omega
  obtain ⟨y, Fy, ey⟩ := (range_iff (nodup_filter t' L) (in_filter t' L) ho' (v := least t' ((cells t').filter L) o)).mpr ⟨Nat.le_refl _, by omega⟩
  have Fz := fil_more hL Fy
  have rowEq : ∀ i, i < t.rows → rowLeft t' ((cells t').filter Q) i = rowLeft t ((cells t).filter Q) i := by
    intro i hi
    rw [ecells]
    show rs (rowOf t') _ (num t') i = _
    rw [erow, rs_congr hx i, F.row i hi]
  have colEq : ∀ i, i < t.cols → colLeft t' ((cells t').filter Q) i = colLeft t ((cells t).filter Q) i := by
    intro i hi
    rw [ecells]
    show rs (colOf t') _ (num t') i = _
    rw [ecol, rs_congr hx i, F.col i hi]
  have Fz' : Filt t ((cells t).filter Q) (rowLeft t ((cells t).filter Q)) (colLeft t ((cells t).filter Q)) (fun p => if L p = true then y p else num t' p) := by
    refine ⟨fun i hi => ?_, fun j hj => ?_⟩
    · have := Fz.row i (by rw [er]; exact hi)
      rw [rowEq i hi, erow, ecells] at this
      exact this
    · have := Fz.col j (by rw [ec]; exact hj)
      rw [colEq j hj, ecol, ecells] at this
      exact this
  have q := hmin _ Fz' (by
    show (if L e = true then y e else num t' e) = v
    rw [heL, if_neg Bool.false_ne_true, hx e he, xe])
  obtain ⟨h1, h2, eh⟩ := List.append_of_mem hoQ
  have pw : ((cells t).filter Q).Pairwise (· < ·) := List.Pairwise.filter _ List.pairwise_lt_range
  rw [eh] at q
  refine lex_not (fun p hp => ?_) ?_ q
  · have hlt : p < o := by
      rw [eh, List.pairwise_append] at pw
      exact pw.2.2 p hp o List.mem_cons_self
    have hpQ : p ∈ (cells t).filter Q := by rw [eh]; exact List.mem_append_left _ hp
    show x p = if L p = true then y p else num t' p
    rw [hb p hpQ hlt, if_neg Bool.false_ne_true, hx p hpQ]
  · show (if L o = true then y o else num t' o) < x o
    rw [(List.mem_filter.mp ho).2, if_pos rfl, ey]
    exact lt
end CK
namespace CK
open PySem PySem.Spec PyProof.Rows L2 So02
/-! ### xs[i] += e -/
def rGetU (K : PySem.W.Frag) : R2 := fun x y H Q => ∃ (p : Addr) (xs : List V) (j : Nat) (v : V), x = .ref p ∧ y = .int (j : Int) ∧ SqL K H p xs ∧ xs[j]? = some v ∧ Q v H
theorem get_list {X : Cx} : PGet X (rGetU X.K) := by
  intro ps sh sl hp x y vx vy Qv Iv rx ry h
  obtain ⟨p, xs, j, v, rfl, rfl, hsq, hj, hQ⟩ := h
  obtain rfl : vx = Value.ref p := rx
  obtain ⟨tk, rfl⟩ := (show ∃ tk, vy = Value.int (j : Int) tk from ry)
  obtain ⟨items, rel, isl, hsz⟩ := Iv.list hsq
  obtain ⟨u, hu, ru⟩ := rel.get hj
  have small := line63
  have inb := (List.getElem?_eq_some_iff.mp hj).1
  have same := rel.length
  exact wpAny_getItem_list isl.isList (by omega) (by omega) (by simpa using hu) ⟨v, hp, Iv, ru, hQ⟩
/-! ### numbers -/
theorem fdiv_nat (i c : Nat) : Int.fdiv (i : Int) (c : Int) = ((i / c : Nat) : Int) := by
  rw [Int.fdiv_eq_ediv_of_nonneg _ (by omega)]
  rfl
theorem fmod_nat (i c : Nat) : Int.fmod (i : Int) (c : Int) = ((i % c : Nat) : Int) := by
  rw [Int.fmod_eq_emod_of_nonneg _ (by omega)]
  rfl
theorem ixN_nat {n j : Nat} (h : j < n) : ixN n (j : Int) = some j := by
  unfold ixN
  rw [if_pos (by omega), if_pos (by omega)]
  rfl
def nv (l : List Nat) : List V := l.map fun (n : Nat) => V.int (n : Int)
theorem nv_len (l : List Nat) : (nv l).length = l.length := List.length_map _
theorem nv_at {l : List Nat} {i n : Nat} (h : l[i]? = some n) : (nv l)[i]? = some (.int (n : Int)) := by
  unfold nv
  rw [List.getElem?_map, h]
  rfl
theorem small_size {n : Nat} (h : n ≤ 100000) : n ≤ sizeLine := Nat.le_trans h (by decide)
/-! ### tables and their kept cells -/
structure Ok (t : Table) (ks : List Bool) : Prop where
  r1 : 1 ≤ t.rows
  r3 : t.rows ≤ 3
  c1 : 1 ≤ t.cols
  c4 : t.cols ≤ 4
  len : t.nums.length = t.rows * t.cols
  kl : ks.length = t.rows * t.cols
theorem Ok.n12 {t : Table} {ks : List Bool} (o : Ok t ks) : t.rows * t.cols ≤ 12 := Nat.mul_le_mul o.r3 o.c4
theorem Ok.n0 {t : Table} {ks : List Bool} (o : Ok t ks) : 1 ≤ t.rows * t.cols := Nat.mul_le_mul o.r1 o.c1
def upTo (ks : List Bool) (i : Nat) : List Nat := (List.range i).filter fun p => ks.getD p false
def hid (t : Table) (ks : List Bool) : List Nat := upTo ks (t.rows * t.cols)
theorem upTo_succ (ks : List Bool) (i : Nat) : upTo ks (i + 1) = upTo ks i ++ (if ks.getD i false = true then [i] else []) := by
  unfold upTo
  rw [List.range_succ, List.filter_append]
  congr 1
  rw [List.filter_cons]
  rfl
theorem rs_append {f x : Nat → Nat} {i : Nat} : ∀ (h k : List Nat), rs f (h ++ k) x i = rs f h x i + rs f k x i
  | [], k => by rw [List.nil_append, rs_nil, Nat.zero_add]
  | p :: h, k => by
    rw [List.cons_append, rs_cons, rs_cons, rs_append h k]
    omega
theorem rs_upTo_in {f x : Nat → Nat} {ks : List Bool} {i k : Nat} (h : ks.getD i false = true) : rs f (upTo ks (i + 1)) x k = rs f (upTo ks i) x k + (if f i = k then x i else 0) := by
  rw [upTo_succ, if_pos h, rs_append, rs_cons, rs_nil, Nat.add_zero]
theorem upTo_out {ks : List Bool} {i : Nat} (h : ks.getD i false = false) : upTo ks (i + 1) = upTo ks i := by
  rw [upTo_succ, h, if_neg Bool.false_ne_true, List.append_nil]
theorem map_range_set {n k : Nat} {f g : Nat → Nat} {v : V} (hv : v = V.int (g k : Int)) (hne : ∀ i, i < n → i ≠ k → f i = g i) : (nv ((List.range n).map f)).set k v = nv ((List.range n).map g) := by
  refine List.ext_getElem? fun i => ?_
  rw [List.getElem?_set]
  unfold nv
  rw [List.getElem?_map, List.getElem?_map, List.getElem?_map, List.getElem?_map]
  by_cases hi : i < n
  · rw [List.getElem?_range hi]
    by_cases z : k = i
    · subst z
      rw [if_pos rfl, if_pos (by rw [List.length_map, List.length_map, List.length_range]; exact hi), hv]
      rfl
    · rw [if_neg z]
      show some (V.int (f i : Int)) = some (V.int (g i : Int))
      rw [hne i hi fun q => z q.symm]
  · have e : (List.range n)[i]? = none := List.getElem?_eq_none (by rw [List.length_range]; omega)
    rw [e]
    by_cases z : k = i
    · rw [if_pos z, if_neg (by rw [List.length_map, List.length_map, List.length_range]; omega)]
      rfl
    · rw [if_neg z]
      rfl
theorem zeros_eq (f : Nat → Nat) (h : ∀ i, f i = 0) : ∀ n : Nat, (List.replicate n [V.int 0]).flatten = nv ((List.range n).map f)
  | 0 => rfl
  | n + 1 => by
    rw [List.replicate_succ', List.flatten_append, zeros_eq f h n, List.range_succ]
    unfold nv
    rw [List.map_append, List.map_append]
    show _ ++ [V.int 0] = _ ++ [V.int ((f n : Nat) : Int)]
    rw [h n]
    rfl
theorem range_at {n i : Nat} {f : Nat → Nat} (h : i < n) : ((List.range n).map f)[i]? = some (f i) := by
  rw [List.getElem?_map, List.getElem?_range h]
  rfl
/-! ### the text -/
def top (i : Nat) : Stmt := PySem.Challenge.pw_cellskept_s01_answers.main.body.getD i (.Pass ⟨0, 0, 0, 0⟩)
abbrev sRange : Stmt := top 1
abbrev sByLeft : Stmt := top 2
abbrev sLeftR : Stmt := top 3
abbrev sLeftC : Stmt := top 4
abbrev sChoices : Stmt := top 5
abbrev sReach : Stmt := top 6
/-- the builtin names are the builtins' -/
structure Blt (mg : Str → Option Value) : Prop where
  len : mg "len" = none
  enumerate : mg "enumerate" = none
  range : mg "range" = none
  min : mg "min" = none
  max : mg "max" = none
  sum : mg "sum" = none
  list : mg "list" = none
def spLeftR (K : PySem.W.Frag) : Sp := fun vs H Q _ => ∃ (t : Table) (ks : List Bool) (a b : Addr), vs = [.int (t.cols : Int), .ref a, .ref b] ∧ Ok t ks ∧ SqL K H a (nv t.nums) ∧ SqL K H b (ks.map V.bl) ∧
  ∀ (H' : Hp) (p : Addr), Same H H' → H p = none → H' p = some (.lst (nv ((List.range t.rows).map (rowLeft t (hid t ks))))) → Q (.ref p) H'
def spLeftC (K : PySem.W.Frag) : Sp := fun vs H Q _ => ∃ (t : Table) (ks : List Bool) (a b : Addr), vs = [.int (t.cols : Int), .ref a, .ref b] ∧ Ok t ks ∧ SqL K H a (nv t.nums) ∧ SqL K H b (ks.map V.bl) ∧
  ∀ (H' : Hp) (p : Addr), Same H H' → H p = none → H' p = some (.lst (nv ((List.range t.cols).map (colLeft t (hid t ks))))) → Q (.ref p) H'
section
variable {P : Program} {w : World} {K : PySem.W.Frag} {mg : Str → Option Value} {base : Heap}
theorem scLR : FnScope ["columns", "numbers", "kept", "left", "place", "number"] ["columns", "numbers", "kept"] (defScope sLeftR) := ⟨rfl, rfl, rfl, by decide +kernel, rfl, by decide +kernel, by decide +kernel⟩
theorem ok_leftR {f : Addr} {fd : FuncData} (F : Fun K "left_in_rows" "left_in_rows" sLeftR f fd) (B : Blt mg) : FnOk P w K mg base CX0 1 f fd ["columns", "numbers", "kept"] (spLeftR K) := by
  refine F.ok scLR (fun vs H Q E h => ?_) (fun cdv A outer s H vs Q E hr h => ?_)
  · obtain ⟨t, ks, a, b, rfl, _⟩ := h
    rfl
  · obtain ⟨t, ks, a, b, rfl, ok, ha, hb, k⟩ := h
    refine ⟨_, pss_cons (ps_set (i := 3) scLR.nd rfl (Or.inl rfl) (pe_op op_rep (pe_lst (pa_cons pe_int pa_nil)) (pe_op op_fdivN (pe_callB call_len_seq (by rfl) B.len PySem.boot_len (pa_cons (pv 1) pa_nil)) (pv 0))))
      (pss_cons (ps_for PassesOwn.never rfl (pi_enum (by rfl) B.enumerate (pa_cons (pv 1) pa_nil)) (pg_tup rfl (pgs_cons (pg_name (i := 4) scLR.nd rfl (Or.inl rfl)) (pgs_cons (pg_name (i := 5) scLR.nd rfl (Or.inl rfl)) pgs_nil)))
        (pss_one (ps_if (pt_val (pe_ix ix_list (pv 2) (pv 4) (fun _ _ => rfl))) (pss_one (ps_augS (pv 3) (pe_op op_fdivN (pv 4) (pv 0)) get_list (pv 5) ip_add set_list)) pss_nil)))
      (pss_one (ps_ret (pv 3)))), ?_⟩
    have c1 := ok.c1
    have c4 := ok.c4
    have r3 := ok.r3
    have n12 := ok.n12
    have eDiv : Int.fdiv ((nv t.nums).length : Int) (t.cols : Int) = (t.rows : Int) := by
      rw [nv_len, ok.len, fdiv_nat, Nat.mul_div_cancel _ ok.c1]
    refine ⟨(by decide : 1 ≤ sizeLine), fun l0 hl0 => ⟨_, rfl, a, nv t.nums, rfl, .inl (Same.seq (fun c o e => by rw [upd_ne (ne_of_none e hl0)]; exact e) ha), _, rfl, _, _, rfl, rfl, ⟨by omega, by omega⟩, ?_⟩⟩
    refine ⟨l0, (t.rows : Int), _, rfl, congrArg V.int eDiv, upd_same, by omega, by omega, small_size (by show 1 * (t.rows : Int).toNat ≤ 100000; omega), fun p hp => ?_⟩
    have s1 : Same H (upd (upd H l0 (.lst [V.int 0])) p (.lst (List.replicate (t.rows : Int).toNat [V.int 0]).flatten)) := fun c o e => by
      have e1 : (upd H l0 (.lst [V.int 0])) c = some o := by rw [upd_ne (ne_of_none e hl0)]; exact e
      rw [upd_ne (ne_of_none e1 hp)]; exact e1
    have hpH : H p = none := by
      cases z : H p with
      | none => rfl
      | some o =>
        rw [upd_ne (ne_of_none z hl0), z] at hp
        cases hp
    have start0 : (List.replicate (t.rows : Int).toNat [V.int 0]).flatten = nv ((List.range t.rows).map (rs (rowOf t) (upTo ks 0) (num t))) := zeros_eq _ (fun _ => rfl) t.rows
    refine ⟨_, rfl, a, nv t.nums, rfl, s1.seq ha, for_it walk_enum (fun i σ H' => ∃ v4 v5 : Option V, σ = [some (.int (t.cols : Int)), some (.ref a), some (.ref b), some (.ref p), v4, v5] ∧ Same H H' ∧ H' p = some (.lst (nv ((List.range t.rows).map (rs (rowOf t) (upTo ks i) (num t))))))
      ⟨none, none, rfl, s1, by rw [upd_same, start0]⟩ (fun i σ H' _ ⟨_, _, _, s5, _⟩ => s5.seq ha) ?_ ?_⟩
    · rintro i x σ H1 H2 hi ⟨v4, v5, rfl, s5, hp5⟩ ⟨T, x1, x2, rfl, hT, rfl, e1, e2⟩
      cases e1
      have hi' : i < t.rows * t.cols := by rw [nv_len, ok.len] at hi; exact hi
      have hn : t.nums[i]? = some (num t i) := by
        unfold num
        rw [List.getD_eq_getElem?_getD, List.getElem?_eq_getElem (by rw [ok.len]; exact hi')]
        rfl
      have ex : x2 = .int (num t i : Int) := by
        exact (Option.some.inj ((nv_at hn).symm.trans e2)).symm
      subst ex
      have hk : ks[i]? = some (ks.getD i false) := by
        rw [List.getD_eq_getElem?_getD, List.getElem?_eq_getElem (by rw [ok.kl]; exact hi')]
        rfl
      have hkv : (ks.map V.bl)[i]? = some (V.bl (ks.getD i false)) := by
        rw [List.getElem?_map, hk]
        rfl
      have sT : Same H1 (upd H1 T (.tup [.int (i : Int), .int (num t i : Int)])) := fun c o e => by rw [upd_ne (ne_of_none e hT)]; exact e
      have hpT : (upd H1 T (.tup [.int (i : Int), .int (num t i : Int)])) p = _ := sT p _ hp5
      refine ⟨T, _, rfl, SqT.of upd_same, rfl, _, _, rfl, _, _, rfl, rfl, ?_⟩
      refine ⟨_, rfl, _, rfl, b, _, _, _, rfl, rfl, (s5.trans sT).seq hb, atI_nat hkv, ks.getD i false, rfl, ?_⟩
      by_cases kk : ks.getD i false = true
      · rw [kk]
        refine iteT ?_
        have hrow : i / t.cols < t.rows := (Nat.div_lt_iff_lt_mul ok.c1).mpr hi'
        have hl : (nv ((List.range t.rows).map (rs (rowOf t) (upTo ks i) (num t)))).length = t.rows := by rw [nv_len, List.length_map, List.length_range]
        refine ⟨_, rfl, _, rfl, _, rfl, _, _, rfl, rfl, ⟨by omega, by omega⟩, ?_⟩
        refine ⟨p, _, i / t.cols, _, rfl, congrArg V.int (fdiv_nat _ _), SqL.of hpT, nv_at (range_at hrow), ?_⟩
        refine ⟨_, rfl, _, _, rfl, rfl, ?_⟩
        refine ⟨p, _, ((i / t.cols : Nat) : Int), i / t.cols, rfl, congrArg V.int (fdiv_nat _ _), hpT, ixN_nat (by rw [hl]; exact hrow), ?_⟩
        refine ⟨_, _, rfl, fun c o e => ?_, ?_⟩
        · rw [upd_ne (fun z => ?_)]
          · exact sT c o (s5 c o e)
          · rw [z, hpH] at e
            cases e
        · rw [upd_same]
          refine congrArg (fun l => some (HO.lst l)) (map_range_set (by
            rw [rs_upTo_in kk, if_pos (show rowOf t i = i / t.cols from rfl)]
            rfl) fun q _ hq => ?_)
          rw [rs_upTo_in kk, if_neg (fun z => hq z.symm), Nat.add_zero]
      · rw [show ks.getD i false = false by simpa using kk]
        refine iteF ?_
        refine ⟨_, _, rfl, s5.trans sT, ?_⟩
        rw [upTo_out (by simpa using kk)]
        exact hpT
    · rintro σ H1 ⟨v4, v5, rfl, s5, hp5⟩
      refine ⟨_, rfl, ?_⟩
      refine k _ p s5 hpH ?_
      rw [nv_len, ok.len] at hp5
      exact hp5
theorem scLC : FnScope ["columns", "numbers", "kept", "left", "place", "number"] ["columns", "numbers", "kept"] (defScope sLeftC) := ⟨rfl, rfl, rfl, by decide +kernel, rfl, by decide +kernel, by decide +kernel⟩
theorem ok_leftC {f : Addr} {fd : FuncData} (F : Fun K "left_in_columns" "left_in_columns" sLeftC f fd) (B : Blt mg) : FnOk P w K mg base CX0 1 f fd ["columns", "numbers", "kept"] (spLeftC K) := by
  refine F.ok scLC (fun vs H Q E h => ?_) (fun cdv A outer s H vs Q E hr h => ?_)
  · obtain ⟨t, ks, a, b, rfl, _⟩ := h
    rfl
  · obtain ⟨t, ks, a, b, rfl, ok, ha, hb, k⟩ := h
    refine ⟨_, pss_cons (ps_set (i := 3) scLC.nd rfl (Or.inl rfl) (pe_op op_rep (pe_lst (pa_cons pe_int pa_nil)) (pv 0)))
      (pss_cons (ps_for PassesOwn.never rfl (pi_enum (by rfl) B.enumerate (pa_cons (pv 1) pa_nil)) (pg_tup rfl (pgs_cons (pg_name (i := 4) scLC.nd rfl (Or.inl rfl)) (pgs_cons (pg_name (i := 5) scLC.nd rfl (Or.inl rfl)) pgs_nil)))
        (pss_one (ps_if (pt_val (pe_ix ix_list (pv 2) (pv 4) (fun _ _ => rfl))) (pss_one (ps_augS (pv 3) (pe_op op_modN (pv 4) (pv 0)) get_list (pv 5) ip_add set_list)) pss_nil)))
      (pss_one (ps_ret (pv 3)))), ?_⟩
    have c1 := ok.c1
    have c4 := ok.c4
    have r3 := ok.r3
    have n12 := ok.n12
    refine ⟨(by decide : 1 ≤ sizeLine), fun l0 hl0 => ⟨_, rfl, ?_⟩⟩
    refine ⟨l0, (t.cols : Int), _, rfl, rfl, upd_same, by omega, by omega, small_size (by show 1 * (t.cols : Int).toNat ≤ 100000; omega), fun p hp => ?_⟩
    have s1 : Same H (upd (upd H l0 (.lst [V.int 0])) p (.lst (List.replicate (t.cols : Int).toNat [V.int 0]).flatten)) := fun c o e => by
      have e1 : (upd H l0 (.lst [V.int 0])) c = some o := by rw [upd_ne (ne_of_none e hl0)]; exact e
      rw [upd_ne (ne_of_none e1 hp)]; exact e1
    have hpH : H p = none := by
      cases z : H p with
      | none => rfl
      | some o =>
        rw [upd_ne (ne_of_none z hl0), z] at hp
        cases hp
    have start0 : (List.replicate (t.cols : Int).toNat [V.int 0]).flatten = nv ((List.range t.cols).map (rs (colOf t) (upTo ks 0) (num t))) := zeros_eq _ (fun _ => rfl) t.cols
    refine ⟨_, rfl, a, nv t.nums, rfl, s1.seq ha, for_it walk_enum (fun i σ H' => ∃ v4 v5 : Option V, σ = [some (.int (t.cols : Int)), some (.ref a), some (.ref b), some (.ref p), v4, v5] ∧ Same H H' ∧ H' p = some (.lst (nv ((List.range t.cols).map (rs (colOf t) (upTo ks i) (num t))))))
      ⟨none, none, rfl, s1, by rw [upd_same, start0]⟩ (fun i σ H' _ ⟨_, _, _, s5, _⟩ => s5.seq ha) ?_ ?_⟩
    · rintro i x σ H1 H2 hi ⟨v4, v5, rfl, s5, hp5⟩ ⟨T, x1, x2, rfl, hT, rfl, e1, e2⟩
      cases e1
      have hi' : i < t.rows * t.cols := by rw [nv_len, ok.len] at hi; exact hi
      have hn : t.nums[i]? = some (num t i) := by
        unfold num
        rw [List.getD_eq_getElem?_getD, List.getElem?_eq_getElem (by rw [ok.len]; exact hi')]
        rfl
      have ex : x2 = .int (num t i : Int) := by
        exact (Option.some.inj ((nv_at hn).symm.trans e2)).symm
      subst ex
      have hk : ks[i]? = some (ks.getD i false) := by
        rw [List.getD_eq_getElem?_getD, List.getElem?_eq_getElem (by rw [ok.kl]; exact hi')]
        rfl
      have hkv : (ks.map V.bl)[i]? = some (V.bl (ks.getD i false)) := by
        rw [List.getElem?_map, hk]
        rfl
      have sT : Same H1 (upd H1 T (.tup [.int (i : Int), .int (num t i : Int)])) := fun c o e => by rw [upd_ne (ne_of_none e hT)]; exact e
      have hpT : (upd H1 T (.tup [.int (i : Int), .int (num t i : Int)])) p = _ := sT p _ hp5
      refine ⟨T, _, rfl, SqT.of upd_same, rfl, _, _, rfl, _, _, rfl, rfl, ?_⟩
      refine ⟨_, rfl, _, rfl, b, _, _, _, rfl, rfl, (s5.trans sT).seq hb, atI_nat hkv, ks.getD i false, rfl, ?_⟩
      by_cases kk : ks.getD i false = true
      · rw [kk]
        refine iteT ?_
        have hrow : i % t.cols < t.cols := Nat.mod_lt _ ok.c1
        have hl : (nv ((List.range t.cols).map (rs (colOf t) (upTo ks i) (num t)))).length = t.cols := by rw [nv_len, List.length_map, List.length_range]
        refine ⟨_, rfl, _, rfl, _, rfl, _, _, rfl, rfl, by show ¬ ((t.cols : Nat) : Int) = 0; omega, ?_⟩
        refine ⟨p, _, i % t.cols, _, rfl, congrArg V.int (fmod_nat _ _), SqL.of hpT, nv_at (range_at hrow), ?_⟩
        refine ⟨_, rfl, _, _, rfl, rfl, ?_⟩
        refine ⟨p, _, ((i % t.cols : Nat) : Int), i % t.cols, rfl, congrArg V.int (fmod_nat _ _), hpT, ixN_nat (by rw [hl]; exact hrow), ?_⟩
        refine ⟨_, _, rfl, fun c o e => ?_, ?_⟩
        · rw [upd_ne (fun z => ?_)]
          · exact sT c o (s5 c o e)
          · rw [z, hpH] at e
            cases e
        · rw [upd_same]
          refine congrArg (fun l => some (HO.lst l)) (map_range_set (by
            rw [rs_upTo_in kk, if_pos (show colOf t i = i % t.cols from rfl)]
            rfl) fun q _ hq => ?_)
          rw [rs_upTo_in kk, if_neg (fun z => hq z.symm), Nat.add_zero]
      · rw [show ks.getD i false = false by simpa using kk]
        refine iteF ?_
        refine ⟨_, _, rfl, s5.trans sT, ?_⟩
        rw [upTo_out (by simpa using kk)]
        exact hpT
    · rintro σ H1 ⟨v4, v5, rfl, s5, hp5⟩
      refine ⟨_, rfl, ?_⟩
      refine k _ p s5 hpH ?_
      rw [nv_len, ok.len] at hp5
      exact hp5
end
end CK
namespace CK
open PySem PySem.Spec PyProof.Rows L2 So02
/-! ### heaps -/
theorem Same.new {H : Hp} {p : Addr} {o : HO} (h : H p = none) : Same H (upd H p o) := fun c o' e => by rw [upd_ne (ne_of_none e h)]; exact e
theorem Same.put {H0 H : Hp} {p : Addr} {o : HO} (h : H0 p = none) (s : Same H0 H) : Same H0 (upd H p o) := fun c o' e => by rw [upd_ne (ne_of_none e h)]; exact s c o' e
theorem Same.seqT {K : PySem.W.Frag} {H H' : Hp} {a : Addr} {xs : List V} (e : Same H H') (h : SqT K H a xs) : SqT K H' a xs := by
  rcases h with (h | ⟨o, h⟩) | h
  · exact .inl (.inl (e _ _ h))
  · exact .inl (.inr ⟨o, e _ _ h⟩)
  · exact .inr h
theorem wipe1 {σ : L2.St} {i : Nat} {x : Option V} : wipe ((wipe σ [i]).set i x) [i] = wipe σ [i] := by
  show (((σ.set i none).set i x).set i none) = σ.set i none
  rw [List.set_set, List.set_set]
theorem yesT {σ : L2.St} {H : Hp} {A B : Hp → Prop} (h : A H) : tYes σ H fun b H3 => if b = true then A H3 else B H3 := by
  show if true = true then A H else B H
  exact iteT h
/-! ### [e for x in xs], e a value that leaves what was there -/
theorem lc_mapL {K : PySem.W.Frag} {a : Addr} {xs : List V} {te : TE} {i : Nat} {σ : L2.St} {H1 : Hp} {D : Addr} {Qd : Hp → Prop} (y : Nat → V) (hq : SqL K H1 a xs) (hD : H1 D = none) (hz : xs.length ≤ 100000)
    (hs : ∀ k x H (R : VK), xs[k]? = some x → Same H1 H → (∀ H', Same H H' → R (y k) H') → te ((wipe σ [i]).set i (some x)) H R)
    (hd : ∀ H, Same H1 H → H D = some (.lst ((List.range xs.length).map y)) → Qd H) :
    ∃ W : Nat → Nat → Hp → Prop, (∃ m, W 0 m (upd H1 D (.lst []))) ∧ ∀ k m H, W k m H →
      ((Itl K a).stop k H ∧ Qd H) ∨ ((Itl K a).go k H ∧ ∃ Nx : Hp → Prop, (∀ H', Nx H' → ∃ m', m' < m ∧ W (k + 1) m' H') ∧ ∀ x H', (Itl K a).yld k H x H' → gName i x (wipe σ [i]) H' fun σ2 H2 => wipe σ2 [i] = wipe σ [i] ∧ tYes σ2 H2 fun b H3 =>
        if b = true then te σ2 H3 fun y H4 => ∃ acc, H4 D = some (.lst acc) ∧ acc.length < sizeLine ∧ Nx (upd H4 D (.lst (acc ++ [y]))) else Nx H3) := by
  refine lc_list (K := K) (a := a) (xs := xs) (Qd := Qd) (fun k H => Same H1 H ∧ H D = some (.lst ((List.range k).map y))) ⟨Same.new hD, upd_same⟩ (fun k H _ p => p.1.seq hq) ?_ (fun H p => hd H p.1 p.2)
  rintro k x H hx ⟨s, e⟩
  refine ⟨wipe1, yesT ?_⟩
  refine (hs k x H _ hx s fun H' s' => ⟨_, s' _ _ e, ?_, Same.put hD (s.trans s'), ?_⟩)
  · have hk : k < xs.length := (List.getElem?_eq_some_iff.mp hx).1
    rw [List.length_map, List.length_range]
    exact Nat.lt_of_lt_of_le hk (small_size hz)
  · rw [upd_same, List.range_succ, List.map_append]
    rfl
/-! ### the choices of rows -/
def chs : Nat → List (List Nat)
  | 0 => [[]]
  | n + 1 => chs n ++ (chs n).map fun s => s ++ [n]
theorem chs_len : ∀ n, (chs n).length = 2 ^ n
  | 0 => rfl
  | n + 1 => by
    show (chs n ++ (chs n).map fun s => s ++ [n]).length = _
    rw [List.length_append, List.length_map, chs_len n, Nat.pow_succ]
    omega
theorem mem_chs : ∀ {n : Nat} {s : List Nat}, s ∈ chs n ↔ ∃ S : Nat → Bool, s = (List.range n).filter S
  | 0, s => by
    show s ∈ [[]] ↔ _
    rw [List.mem_singleton]
    exact ⟨fun e => ⟨fun _ => true, e⟩, fun ⟨_, e⟩ => e⟩
  | n + 1, s => by
    show s ∈ chs n ++ (chs n).map (fun s => s ++ [n]) ↔ _
    rw [List.mem_append, List.mem_map]
    constructor
    · rintro (h | ⟨s', h, rfl⟩)
      · obtain ⟨S, rfl⟩ := mem_chs.mp h
        refine ⟨fun i => S i && decide (i < n), ?_⟩
        rw [List.range_succ, List.filter_append]
        have e1 : [n].filter (fun i => S i && decide (i < n)) = [] := by simp
        rw [e1, List.append_nil]
        refine List.filter_congr fun i hi => ?_
        have := List.mem_range.mp hi
        simp [this]
      · obtain ⟨S, rfl⟩ := mem_chs.mp h
        refine ⟨fun i => S i || decide (i = n), ?_⟩
        rw [List.range_succ, List.filter_append]
        have e1 : [n].filter (fun i => S i || decide (i = n)) = [n] := by simp
        rw [e1]
        congr 1
        refine List.filter_congr fun i hi => ?_
        have := List.mem_range.mp hi
        have : i ≠ n := by omega
        simp [this]
    · rintro ⟨S, rfl⟩
      rw [List.range_succ, List.filter_append]
      by_cases z : S n = true
      · refine .inr ⟨_, mem_chs.mpr ⟨S, rfl⟩, ?_⟩
        congr 1
        simp [z]
      · refine .inl (mem_chs.mpr ⟨S, ?_⟩)
        have : [n].filter S = [] := by simp [z]
        rw [this, List.append_nil]
theorem mem_subs {n : Nat} {s : List Nat} : s ∈ subsets (List.range n) ↔ ∃ S : Nat → Bool, s = (List.range n).filter S :=
  ⟨fun h => ⟨_, subs_eq List.nodup_range h⟩, fun ⟨S, e⟩ => e ▸ subs_filter S _⟩
theorem chs_subs {n : Nat} {s : List Nat} : s ∈ chs n ↔ s ∈ subsets (List.range n) := mem_chs.trans mem_subs.symm
/-- lists that lie at addresses -/
def Lie (H : Hp) : List Addr → List (List Nat) → Prop
  | [], [] => True
  | a :: as, s :: ss => H a = some (.lst (nv s)) ∧ Lie H as ss
  | _, _ => False
theorem Lie.mono {H H' : Hp} (e : Same H H') : ∀ {as : List Addr} {ss : List (List Nat)}, Lie H as ss → Lie H' as ss
  | [], [], _ => trivial
  | _ :: _, _ :: _, h => ⟨e _ _ h.1, Lie.mono e h.2⟩
  | [], _ :: _, h => h.elim
  | _ :: _, [], h => h.elim
theorem Lie.len {H : Hp} : ∀ {as : List Addr} {ss : List (List Nat)}, Lie H as ss → as.length = ss.length
  | [], [], _ => rfl
  | _ :: _, _ :: _, h => congrArg Nat.succ (Lie.len h.2)
  | [], _ :: _, h => h.elim
  | _ :: _, [], h => h.elim
theorem Lie.app {H : Hp} : ∀ {as bs : List Addr} {ss ts : List (List Nat)}, Lie H as ss → Lie H bs ts → Lie H (as ++ bs) (ss ++ ts)
  | [], _, [], _, _, h => h
  | _ :: _, _, _ :: _, _, h, k => ⟨h.1, Lie.app h.2 k⟩
  | [], _, _ :: _, _, h, _ => h.elim
  | _ :: _, _, [], _, h, _ => h.elim
theorem Lie.upd {H : Hp} {D : Addr} {o : HO} : ∀ {as : List Addr} {ss : List (List Nat)}, D ∉ as → Lie H as ss → Lie (L2.upd H D o) as ss
  | [], [], _, _ => trivial
  | a :: as, _ :: _, n, h => ⟨by rw [upd_ne (fun (z : a = D) => n (z ▸ List.mem_cons_self))]; exact h.1, Lie.upd (fun z => n (List.mem_cons_of_mem _ z)) h.2⟩
  | [], _ :: _, _, h => h.elim
  | _ :: _, [], _, h => h.elim
theorem Lie.at {H : Hp} : ∀ {as : List Addr} {ss : List (List Nat)} {k : Nat} {x : V}, Lie H as ss → (as.map V.ref)[k]? = some x → ∃ a s, x = .ref a ∧ ss[k]? = some s ∧ H a = some (.lst (nv s))
  | [], _, k, x, _, e => by simp at e
  | a :: as, [], k, x, h, _ => h.elim
  | a :: as, s :: ss, 0, x, h, e => ⟨a, s, (Option.some.inj e).symm, rfl, h.1⟩
  | a :: as, s :: ss, k + 1, x, h, e => Lie.at (k := k) h.2 e
theorem take_more {α : Type} : ∀ {l : List α} {i : Nat} {x : α}, l[i]? = some x → l.take (i + 1) = l.take i ++ [x]
  | [], i, x, h => by simp at h
  | a :: l, 0, x, h => by
    have e : a = x := Option.some.inj h
    subst e
    rfl
  | a :: l, i + 1, x, h => by
    have ih := take_more (l := l) (i := i) (x := x) h
    show a :: l.take (i + 1) = a :: l.take i ++ [x]
    rw [ih]
    rfl
def spChoices : Sp := fun vs H Q _ => ∃ (n : Nat), vs = [.int (n : Int)] ∧ n ≤ 3 ∧
  ∀ (H' : Hp) (p : Addr) (as : List Addr), Same H H' → H p = none → H' p = some (.lst (as.map V.ref)) → Lie H' as (chs n) → Q (.ref p) H'
section
variable {P : Program} {w : World} {K : PySem.W.Frag} {mg : Str → Option Value} {base : Heap}
theorem scCh : FnScope ["count", "choices", "row", "rows"] ["count"] (defScope sChoices) := ⟨rfl, rfl, rfl, by decide +kernel, rfl, by decide +kernel, by decide +kernel⟩
theorem ok_choices {f : Addr} {fd : FuncData} (F : Fun K "choices_of_rows" "choices_of_rows" sChoices f fd) (B : Blt mg) : FnOk P w K mg base CX0 1 f fd ["count"] spChoices := by
  refine F.ok scCh (fun vs H Q E h => ?_) (fun cdv A outer s H vs Q E hr h => ?_)
  · obtain ⟨n, rfl, _⟩ := h
    rfl
  · obtain ⟨n, rfl, hn, k⟩ := h
    refine ⟨_, pss_cons (ps_set (i := 1) scCh.nd rfl (Or.inl rfl) (pe_lst (pa_cons (pe_lst pa_nil) pa_nil)))
      (pss_cons (ps_for PassesOwn.never rfl (pi_range1 rfl B.range (pa_cons (pv 0) pa_nil)) (pg_name (i := 2) scCh.nd rfl (Or.inr rfl))
        (pss_one (ps_set (i := 1) scCh.nd rfl (Or.inl rfl) (pe_op op_cat (pv 1)
          (pe_lc (own := [("rows", 3)]) (g := gName 3) (tt := tYes) rfl scCh.nd (pi_list (pv 1)) (blkOk_by (N := ["count", "choices", "row", "rows"]) (sc := defScope sChoices) (by decide +kernel))
            (fun _ _ _ _ _ => pg_name (i := 3) scCh.nd rfl (Or.inl rfl)) (fun _ _ _ _ _ => pts_nil) (fun _ _ _ _ _ => pe_op op_cat (pv 3) (pe_lst (pa_cons (pv 2) pa_nil))))))))
      (pss_one (ps_ret (pv 1)))), ?_⟩
    refine ⟨(by decide : 0 ≤ sizeLine), fun l0 hl0 => ⟨(by decide : 1 ≤ sizeLine), fun l1 hl1 => ?_⟩⟩
    have s0 : Same H (upd (upd H l0 (.lst [])) l1 (.lst [V.ref l0])) := (Same.new hl0).trans (Same.new hl1)
    refine ⟨_, rfl, (n : Int), rfl, by omega, by omega, for_range (n := (n : Int).toNat) (fun i σ H' => ∃ (p : Addr) (as : List Addr) (v2 : Option V), σ = [some (.int (n : Int)), some (.ref p), v2, none] ∧ Same H H' ∧ H p = none ∧ H' p = some (.lst (as.map V.ref)) ∧ Lie H' as (chs i))
      ⟨l1, [l0], none, rfl, s0, (Same.new hl0).free hl1, upd_same, ⟨?_, trivial⟩⟩ ?_ ?_⟩
    · rw [upd_ne (ne_of_none upd_same hl1), upd_same]
      rfl
    · rintro i σ H1 hi ⟨p, as, v2, rfl, s1, hp0, hp, lie⟩
      have hlen := lie.len
      have hpow : (chs i).length ≤ 8 := by
        rw [chs_len]
        exact Nat.pow_le_pow_right (n := 2) (j := 3) (by omega) (by omega)
      refine ⟨_, rfl, _, rfl, p, rfl, ⟨_, SqL.of hp⟩, fun D hD => ?_⟩
      refine lc_list (K := K) (a := p) (xs := as.map V.ref) (fun k H' => ∃ bs : List Addr, D ∉ bs ∧ Same H1 H' ∧ H' D = some (.lst (bs.map V.ref)) ∧ Lie H' bs (((chs i).take k).map fun s => s ++ [i]))
        ⟨[], by simp, Same.new hD, upd_same, trivial⟩ (fun k H' _ ⟨_, _, s5, _⟩ => s5.seq (SqL.of hp)) ?_ ?_
      · rintro j x H2 hx ⟨bs, nD, s2, hD2, lb⟩
        obtain ⟨a, sj, rfl, hsj, ha⟩ := lie.at hx
        have hlb := lb.len
        rw [List.length_map, List.length_take] at hlb
        have hjl : j < (chs i).length := (List.getElem?_eq_some_iff.mp hsj).1
        have hsl : sj.length ≤ 3 := by
          obtain ⟨S, e⟩ := mem_chs.mp (List.mem_of_getElem? hsj)
          rw [e]
          refine Nat.le_trans (List.length_filter_le _ _) ?_
          rw [List.length_range]
          omega
        refine ⟨rfl, yesT ?_⟩
        refine ⟨_, rfl, _, rfl, (by decide : 1 ≤ sizeLine), fun l2 hl2 => ?_⟩
        refine ⟨a, l2, _, _, rfl, rfl, Same.new hl2 _ _ (s2 _ _ ha), upd_same, small_size (by rw [nv_len]; show sj.length + 1 ≤ 100000; omega), fun q hq => ?_⟩
        have s3 : Same H2 (upd (upd H2 l2 (.lst [V.int (0 + (i : Int))])) q (.lst (nv sj ++ [V.int (0 + (i : Int))]))) := (Same.new hl2).trans (Same.new hq)
        have nq : D ≠ q := ne_of_none (Same.new hl2 _ _ hD2) hq
        have nD' : D ∉ bs ++ [q] := by
          intro z
          rcases List.mem_append.mp z with z | z
          · exact nD z
          · exact nq (List.mem_singleton.mp z)
        refine ⟨bs.map V.ref, s3 _ _ hD2, ?_, bs ++ [q], nD', Same.put hD (s2.trans s3), ?_, ?_⟩
        · rw [List.length_map]
          exact Nat.lt_of_lt_of_le (show bs.length < 100000 by omega) (small_size (Nat.le_refl _))
        · rw [upd_same, List.map_append]
          rfl
        · rw [take_more hsj, List.map_append]
          refine Lie.upd nD' (Lie.app (lb.mono s3) ⟨?_, trivial⟩)
          rw [upd_same]
          show some (HO.lst (nv sj ++ [V.int (0 + (i : Int))])) = some (HO.lst (nv (sj ++ [i])))
          unfold nv
          rw [List.map_append, Int.zero_add]
          rfl
      · rintro H2 ⟨bs, nD, s2, hD2, lb⟩
        rw [List.length_map, hlen, List.take_length] at lb
        have hlb := lb.len
        rw [List.length_map] at hlb
        refine ⟨p, D, _, _, rfl, rfl, s2 _ _ hp, hD2, small_size (by rw [List.length_map, List.length_map]; omega), fun q hq => ?_⟩
        refine ⟨q, as ++ bs, _, rfl, (s1.trans s2).trans (Same.new hq), (s1.trans s2).free hq, ?_, Lie.app ((lie.mono s2).mono (Same.new hq)) (lb.mono (Same.new hq))⟩
        rw [upd_same, List.map_append]
    · rintro σ H1 ⟨p, as, v2, rfl, s1, hp0, hp, lie⟩
      exact ⟨_, rfl, k _ p as s1 hp0 hp lie⟩
end
end CK
namespace CK
open PySem PySem.Spec PyProof.Rows L2 So02
theorem map_getD {α : Type} (f : Nat → α) : ∀ l : List Nat, (List.range l.length).map (fun k => f (l.getD k 0)) = l.map f := by
  intro l
  refine List.ext_getElem? fun i => ?_
  rw [List.getElem?_map, List.getElem?_map]
  by_cases h : i < l.length
  · rw [List.getElem?_range h, List.getElem?_eq_getElem h]
    show some (f (l.getD i 0)) = some (f l[i])
    rw [List.getD_eq_getElem?_getD, List.getElem?_eq_getElem h]
    rfl
  · rw [List.getElem?_eq_none (by rw [List.length_range]; omega), List.getElem?_eq_none (by omega)]
    rfl
theorem nv_get {l : List Nat} {k : Nat} {x : V} (h : (nv l)[k]? = some x) : k < l.length ∧ x = .int (l.getD k 0 : Nat) := by
  have hk := (List.getElem?_eq_some_iff.mp h).1
  rw [nv_len] at hk
  refine ⟨hk, ?_⟩
  have e : l[k]? = some (l.getD k 0) := by
    rw [List.getD_eq_getElem?_getD, List.getElem?_eq_getElem hk]
    rfl
  exact (Option.some.inj ((nv_at e).symm.trans h)).symm
theorem getD_mem {l : List Nat} {k : Nat} (h : k < l.length) : l.getD k 0 ∈ l := by
  rw [List.getD_eq_getElem?_getD, List.getElem?_eq_getElem h]
  exact List.getElem_mem h
theorem int_ne {o e : Nat} : (!decide (V.int (o : Int) = V.int (e : Int))) = (o != e) := by
  by_cases h : o = e
  · subst h
    simp
  · have : ¬ V.int (o : Int) = V.int (e : Int) := fun z => h (by injection z with z; omega)
    rw [decide_eq_false this]
    simp [h]
/-! ### the columns reached -/
def rc (t : Table) (ks : List Bool) (e : Nat) (s : List Nat) (j : Nat) : Bool := s.any fun r => ks.getD (r * t.cols + j) false && (r * t.cols + j != e)
theorem row_of {t : Table} {r j : Nat} (hj : j < t.cols) : (r * t.cols + j) / t.cols = r := by
  rw [Nat.add_comm, Nat.add_mul_div_right _ _ (by omega), Nat.div_eq_of_lt hj, Nat.zero_add]
theorem col_of {t : Table} {r j : Nat} (hj : j < t.cols) : (r * t.cols + j) % t.cols = j := by
  rw [Nat.add_comm, Nat.add_mul_mod_self_right, Nat.mod_eq_of_lt hj]
theorem at_lt {t : Table} {r j : Nat} (hr : r < t.rows) (hj : j < t.cols) : r * t.cols + j < t.rows * t.cols := by
  have : (r + 1) * t.cols ≤ t.rows * t.cols := Nat.mul_le_mul_right _ hr
  rw [Nat.add_mul] at this
  omega
theorem mem_hid {t : Table} {ks : List Bool} {p : Nat} : p ∈ hid t ks ↔ p < t.rows * t.cols ∧ ks.getD p false = true := by
  unfold hid upTo
  rw [List.mem_filter, List.mem_range]
theorem reach_rc {t : Table} {ks : List Bool} {e : Nat} {s : List Nat} (hs : ∀ r ∈ s, r < t.rows) : reach t (hid t ks) e s = (List.range t.cols).filter (rc t ks e s) := by
  unfold reach
  refine List.filter_congr fun j hj => ?_
  have hj := List.mem_range.mp hj
  unfold rc
  rw [Bool.eq_iff_iff, List.any_eq_true, List.any_eq_true]
  constructor
  · rintro ⟨p, hp, q⟩
    rw [Bool.and_eq_true, Bool.and_eq_true, List.contains_iff_mem, beq_iff_eq] at q
    obtain ⟨q1, q2, q3⟩ := q
    have e1 : rowOf t p * t.cols + j = p := by
      rw [← q3]
      show p / t.cols * t.cols + p % t.cols = p
      rw [Nat.mul_comm]
      exact Nat.div_add_mod p t.cols
    refine ⟨rowOf t p, q2, ?_⟩
    rw [e1, (mem_hid.mp hp).2]
    exact q1
  · rintro ⟨r, hr, q⟩
    rw [Bool.and_eq_true] at q
    refine ⟨r * t.cols + j, mem_hid.mpr ⟨at_lt (hs r hr) hj, q.1⟩, ?_⟩
    rw [q.2]
    have e1 : rowOf t (r * t.cols + j) = r := row_of hj
    have e2 : colOf t (r * t.cols + j) = j := col_of hj
    rw [e1, e2]
    simp [hr]
def spReach (K : PySem.W.Frag) : Sp := fun vs H Q _ => ∃ (t : Table) (ks : List Bool) (s : List Nat) (e : Nat) (a b : Addr), vs = [.int (t.cols : Int), .ref b, .ref a, .int (e : Int)] ∧ Ok t ks ∧ SqL K H b (ks.map V.bl) ∧ SqL K H a (nv s) ∧ (∀ r ∈ s, r < t.rows) ∧ s.length ≤ 3 ∧
  ∀ (H' : Hp) (p : Addr), Same H H' → H p = none → H' p = some (.lst (nv (reach t (hid t ks) e s))) → Q (.ref p) H'
section
variable {P : Program} {w : World} {K : PySem.W.Frag} {mg : Str → Option Value} {base : Heap}
abbrev nmRe : List Str := ["columns", "kept", "rows", "place", "reached", "column", "row", "other"]
theorem scRe : FnScope nmRe ["columns", "kept", "rows", "place"] (defScope sReach) := ⟨rfl, rfl, rfl, by decide +kernel, rfl, by decide +kernel, by decide +kernel⟩
theorem ok_reach {f : Addr} {fd : FuncData} (F : Fun K "columns_reached" "columns_reached" sReach f fd) (B : Blt mg) : FnOk P w K mg base CX0 1 f fd ["columns", "kept", "rows", "place"] (spReach K) := by
  refine F.ok scRe (fun vs H Q E h => ?_) (fun cdv A outer st H vs Q E hr h => ?_)
  · obtain ⟨t, ks, s, e, a, b, rfl, _⟩ := h
    rfl
  · obtain ⟨t, ks, s, e, a, b, rfl, ok, hb, ha, hs, hs3, k⟩ := h
    refine ⟨_, pss_cons (ps_set (i := 4) scRe.nd rfl (Or.inl rfl) (pe_lst pa_nil))
      (pss_cons (ps_for PassesOwn.never rfl (pi_range1 rfl B.range (pa_cons (pv 0) pa_nil)) (pg_name (i := 5) scRe.nd rfl (Or.inl rfl))
        (pss_one (ps_for PassesOwn.never rfl (pi_list (pv 2)) (pg_name (i := 6) scRe.nd rfl (Or.inl rfl))
          (pss_cons (ps_set (i := 7) scRe.nd rfl (Or.inl rfl) (pe_op op_add (pe_op op_mul (pv 6) (pv 0)) (pv 5)))
          (pss_one (ps_if (PW.pt (pw_and (pt_val (pe_ix ix_list (pv 1) (pv 7) (fun _ _ => rfl))) (pw_and1 (pt_cmpR op_ne (pv 7) (pv 3) (nomark _)))))
            (pss_cons (ps_expr (pe_bm PySem.F.plainAttrs_list PySem.F.slot_list_append PySem.F.type_list_append mt_append (pv 4) (pa_cons (pv 5) pa_nil))) (pss_one ps_break)) pss_nil))))))
      (pss_one (ps_ret (pv 4)))), ?_⟩
    have c1 := ok.c1
    have c4 := ok.c4
    have r3 := ok.r3
    have n12 := ok.n12
    refine ⟨(by decide : 0 ≤ sizeLine), fun p hp => ?_⟩
    refine ⟨_, rfl, (t.cols : Int), rfl, by omega, by omega, for_range (n := (t.cols : Int).toNat) (fun i σ H' => ∃ v5 v6 v7 : Option V, σ = [some (.int (t.cols : Int)), some (.ref b), some (.ref a), some (.int (e : Int)), some (.ref p), v5, v6, v7] ∧ Same H H' ∧ H' p = some (.lst (nv ((List.range i).filter (rc t ks e s)))))
      ⟨none, none, none, rfl, Same.new hp, upd_same⟩ ?_ ?_⟩
    · rintro i σ H1 hi ⟨v5, v6, v7, rfl, s1, hp1⟩
      have hi' : i < t.cols := by omega
      have hf : (List.range (i + 1)).filter (rc t ks e s) = (List.range i).filter (rc t ks e s) ++ (if rc t ks e s i = true then [i] else []) := by
        rw [List.range_succ, List.filter_append, List.filter_cons]
        rfl
      refine ⟨_, rfl, a, rfl, ⟨_, s1.seq ha⟩, for_list (K := K) (a := a) (xs := nv s) (fun k σ H' => ∃ v6 v7 : Option V, σ = [some (.int (t.cols : Int)), some (.ref b), some (.ref a), some (.int (e : Int)), some (.ref p), some (.int (0 + (i : Int))), v6, v7] ∧ Same H H' ∧ H' p = some (.lst (nv ((List.range i).filter (rc t ks e s)))) ∧ rc t ks e (s.take k) i = false)
        ⟨_, _, rfl, s1, hp1, rfl⟩ (fun k σ H' _ ⟨_, _, _, s5, _⟩ => s5.seq ha) ?_ ?_⟩
      · rintro k x σ H2 hx ⟨v6, v7, rfl, s2, hp2, no⟩
        obtain ⟨hk, rfl⟩ := nv_get hx
        have hlt := hs _ (getD_mem hk)
        have hsk : s[k]? = some (s.getD k 0) := by
          rw [List.getD_eq_getElem?_getD, List.getElem?_eq_getElem hk]
          rfl
        have eo : ((s.getD k 0 : Nat) : Int) * (t.cols : Int) + (0 + (i : Int)) = ((s.getD k 0 * t.cols + i : Nat) : Int) := by
          rw [Int.natCast_add, Int.natCast_mul, Int.zero_add]
        refine ⟨_, rfl, _, rfl, _, _, rfl, rfl, .inl ⟨by omega, by omega⟩, _, rfl, _, _, rfl, rfl, ?_⟩
        have ho := at_lt hlt hi'
        have hkv : (ks.map V.bl)[s.getD k 0 * t.cols + i]? = some (V.bl (ks.getD (s.getD k 0 * t.cols + i) false)) := by
          rw [List.getElem?_map, List.getD_eq_getElem?_getD (l := ks), List.getElem?_eq_getElem (by rw [ok.kl]; exact ho)]
          rfl
        have emore : rc t ks e (s.take (k + 1)) i = (rc t ks e (s.take k) i || (ks.getD (s.getD k 0 * t.cols + i) false && (s.getD k 0 * t.cols + i != e))) := by
          rw [take_more hsk]
          unfold rc
          rw [List.any_append]
          simp
        refine ⟨_, rfl, _, rfl, b, _, _, _, rfl, congrArg V.int eo, s2.seq hb, atI_nat hkv, _, rfl, ?_⟩
        generalize hob : s.getD k 0 * t.cols + i = o at eo emore hkv ho
        have fin : ks.getD o false = true → (o != e) = true → rc t ks e s i = true := fun h1 h2 => by
          unfold rc
          rw [List.any_eq_true]
          exact ⟨s.getD k 0, getD_mem hk, by rw [hob, h1, h2]; rfl⟩
        by_cases kk : ks.getD o false = true
        · rw [kk]
          refine iteT ⟨_, rfl, _, rfl, rfl, _, rfl, ?_⟩
          show if (!decide (V.int (((s.getD k 0 : Nat) : Int) * (t.cols : Int) + (0 + (i : Int))) = V.int (e : Int))) = true then _ else _
          rw [eo, int_ne]
          by_cases ne : (o != e) = true
          · rw [ne]
            refine iteT ?_
            refine ⟨_, rfl, .inl ⟨rfl, _, SqL.of hp2⟩, _, rfl, p, _, _, rfl, rfl, hp2, ?_, ?_⟩
            · rw [nv_len]
              refine Nat.lt_of_le_of_lt (List.length_filter_le _ _) ?_
              rw [List.length_range]
              exact Nat.lt_of_lt_of_le (show i < 100000 by omega) (small_size (Nat.le_refl _))
            · refine ⟨_, _, _, rfl, Same.put hp s2, ?_⟩
              rw [upd_same, hf, fin kk ne, if_pos rfl]
              unfold nv
              rw [List.map_append, Int.zero_add]
              rfl
          · have ne' : (o != e) = false := by simpa using ne
            rw [ne']
            refine iteF ⟨_, _, rfl, s2, hp2, ?_⟩
            rw [emore, no, ne', Bool.and_false]
            rfl
        · have kk' : ks.getD o false = false := by simpa using kk
          rw [kk']
          refine iteF (iteF ⟨_, _, rfl, s2, hp2, ?_⟩)
          rw [emore, no, kk']
          rfl
      · rintro σ H2 ⟨v6, v7, rfl, s2, hp2, no⟩
        refine ⟨_, _, _, rfl, s2, ?_⟩
        rw [nv_len, List.take_length] at no
        rw [hf, no, if_neg Bool.false_ne_true, List.append_nil]
        exact hp2
    · rintro σ H1 ⟨v5, v6, v7, rfl, s1, hp1⟩
      refine ⟨_, rfl, k _ p s1 hp ?_⟩
      rw [reach_rc hs]
      exact hp1
end
end CK
namespace CK
open PySem PySem.Spec PyProof.Rows L2 So02
/-! ### rules for numbers from 0 on -/
section
variable {X : Cx}
theorem op_divU : OpR X (binaryOp .FloorDiv) (fun x y H Q => ∃ i j : Nat, x = .int (i : Int) ∧ y = .int (j : Int) ∧ 1 ≤ j ∧ j ≤ 1000 ∧ Q (.int ((i / j : Nat) : Int)) H) := by
  intro pins s σ H x y v u Q I rx ry h
  obtain ⟨i, j, rfl, rfl, h1, h2, q⟩ := h
  exact op_fdivN pins s σ H _ _ v u Q I rx ry ⟨_, _, rfl, rfl, ⟨by omega, by omega⟩, by show Q (V.int (Int.fdiv (i : Int) (j : Int))) H; rw [fdiv_nat]; exact q⟩
theorem op_modU : OpR X (binaryOp .Mod) (fun x y H Q => ∃ i j : Nat, x = .int (i : Int) ∧ y = .int (j : Int) ∧ 1 ≤ j ∧ Q (.int ((i % j : Nat) : Int)) H) := by
  intro pins s σ H x y v u Q I rx ry h
  obtain ⟨i, j, rfl, rfl, h1, q⟩ := h
  exact op_modN pins s σ H _ _ v u Q I rx ry ⟨_, _, rfl, rfl, by show ¬ ((j : Nat) : Int) = 0; omega, by show Q (V.int (Int.fmod (i : Int) (j : Int))) H; rw [fmod_nat]; exact q⟩
theorem in_nv {i : Nat} : ∀ (l : List Nat), inV (.int (i : Int)) (nv l) = l.contains i
  | [] => rfl
  | x :: l => by
    have ih := in_nv (i := i) l
    unfold inV at *
    show (eqV (.int (x : Int)) (.int (i : Int)) || (nv l).any fun y => eqV y (.int (i : Int))) = _
    rw [ih, List.contains_cons]
    congr 1
    show ((x : Int) == (i : Int)) = (i == x)
    rw [Bool.eq_iff_iff, beq_iff_eq, beq_iff_eq]
    omega
theorem flat_nv : ∀ (l : List Nat), (nv l).all flatV = true
  | [] => rfl
  | _ :: l => flat_nv l
theorem op_inU : OpR X (compareOp .In) (fun x y H Q => ∃ (p : Addr) (l : List Nat) (i : Nat), x = .int (i : Int) ∧ y = .ref p ∧ SqL X.K H p (nv l) ∧ Q (.bl (l.contains i)) H) := by
  intro pins s σ H x y v u Q I rx ry h
  obtain ⟨p, l, i, rfl, rfl, hq, q⟩ := h
  exact op_in_seq pins s σ H _ _ v u Q I rx ry ⟨p, _, rfl, .inl hq, rfl, flat_nv l, by rw [← in_nv] at q; exact q⟩
theorem op_notInU : OpR X (compareOp .NotIn) (fun x y H Q => ∃ (p : Addr) (l : List Nat) (i : Nat), x = .int (i : Int) ∧ y = .ref p ∧ SqL X.K H p (nv l) ∧ Q (.bl (!l.contains i)) H) := by
  intro pins s σ H x y v u Q I rx ry h
  obtain ⟨p, l, i, rfl, rfl, hq, q⟩ := h
  exact op_notIn_seq pins s σ H _ _ v u Q I rx ry ⟨p, _, rfl, .inl hq, rfl, flat_nv l, by rw [← in_nv] at q; exact q⟩
theorem sum_nv : ∀ l : List Nat, (l.map fun (n : Nat) => (n : Int)).sum = ((total l : Nat) : Int)
  | [] => rfl
  | x :: l => by
    rw [List.map_cons, List.sum_cons, sum_nv l]
    show _ = ((x + total l : Nat) : Int)
    omega
theorem nv_ints (l : List Nat) : nv l = (l.map fun (n : Nat) => (n : Int)).map V.int := by
  unfold nv
  rw [List.map_map]
  rfl
theorem cr_sumU (hc : X.calm = true) : CallR X (.builtin "sum") (fun vs H Q => ∃ (a : Addr) (l : List Nat), vs = [V.ref a] ∧ SqL X.K H a (nv l) ∧ Q (.int ((total l : Nat) : Int)) H) := by
  intro pins s σ H xs us Q I r h
  obtain ⟨a, l, rfl, hq, q⟩ := h
  exact cr_sum hc pins s σ H _ us Q I r ⟨a, _, rfl, by rw [← nv_ints]; exact hq, by rw [sum_nv]; exact q⟩
theorem cr_minU (hc : X.calm = true) : CallR X (.builtin "min") (fun vs H Q => ∃ i j : Nat, vs = [V.int (i : Int), V.int (j : Int)] ∧ Q (.int ((min i j : Nat) : Int)) H) := by
  intro pins s σ H xs us Q I r h
  obtain ⟨i, j, rfl, q⟩ := h
  refine call_min2 hc pins s σ H _ us Q I r ⟨_, _, rfl, ?_⟩
  have e : (if (j : Int) < (i : Int) then (j : Int) else (i : Int)) = ((min i j : Nat) : Int) := by
    split <;> omega
  rw [e]
  exact q
/-- min of a number and a difference that is none below 0; max of a number and a difference -/
theorem cr_minD (hc : X.calm = true) : CallR X (.builtin "min") (fun vs H Q => ∃ i a b : Nat, vs = [V.int (i : Int), V.int ((a : Int) - (b : Int))] ∧ b ≤ a ∧ Q (.int ((min i (a - b) : Nat) : Int)) H) := by
  intro pins s σ H xs us Q I r h
  obtain ⟨i, a, b, rfl, hab, q⟩ := h
  refine call_min2 hc pins s σ H _ us Q I r ⟨_, _, rfl, ?_⟩
  have e : (if (a : Int) - (b : Int) < (i : Int) then (a : Int) - (b : Int) else (i : Int)) = ((min i (a - b) : Nat) : Int) := by
    split <;> omega
  rw [e]
  exact q
theorem cr_maxD (hc : X.calm = true) : CallR X (.builtin "max") (fun vs H Q => ∃ i a b : Nat, vs = [V.int (i : Int), V.int ((a : Int) - (b : Int))] ∧ Q (.int ((max i (a - b) : Nat) : Int)) H) := by
  intro pins s σ H xs us Q I r h
  obtain ⟨i, a, b, rfl, q⟩ := h
  refine call_max2 hc pins s σ H _ us Q I r ⟨_, _, rfl, ?_⟩
  have e : (if (a : Int) - (b : Int) > (i : Int) then (a : Int) - (b : Int) else (i : Int)) = ((max i (a - b) : Nat) : Int) := by
    split <;> omega
  rw [e]
  exact q
end
/-! ### the range as the program reckons it -/
def loS (t : Table) (h : List Nat) (e : Nat) (s : List Nat) : Nat := if s.contains (rowOf t e) = true ∧ (reach t h e s).contains (colOf t e) = false then total (s.map (rowLeft t h)) - total ((reach t h e s).map (colLeft t h)) else 0
def top0 (t : Table) (h : List Nat) (e : Nat) : Nat := min (rowLeft t h (rowOf t e)) (colLeft t h (colOf t e))
def hiS (t : Table) (h : List Nat) (e : Nat) (s : List Nat) : Nat := if s.contains (rowOf t e) = false ∧ (reach t h e s).contains (colOf t e) = true then total ((reach t h e s).map (colLeft t h)) - total (s.map (rowLeft t h)) else top0 t h e
theorem foldl_max_le {α : Type} {f : α → Nat} {v : Nat} : ∀ {l : List α} {m : Nat}, l.foldl (fun m s => max m (f s)) m ≤ v ↔ m ≤ v ∧ ∀ s ∈ l, f s ≤ v
  | [], m => by simp
  | x :: l, m => by
    rw [List.foldl_cons, foldl_max_le, Nat.max_le]
    simp only [List.mem_cons, forall_eq_or_imp, and_assoc]
theorem le_foldl_min {α : Type} {f : α → Nat} {v : Nat} : ∀ {l : List α} {m : Nat}, v ≤ l.foldl (fun m s => min m (f s)) m ↔ v ≤ m ∧ ∀ s ∈ l, v ≤ f s
  | [], m => by simp
  | x :: l, m => by
    rw [List.foldl_cons, le_foldl_min, Nat.le_min]
    simp only [List.mem_cons, forall_eq_or_imp, and_assoc]
def loK (t : Table) (h : List Nat) (e k : Nat) : Nat := ((chs t.rows).take k).foldl (fun m s => max m (loS t h e s)) 0
def hiK (t : Table) (h : List Nat) (e k : Nat) : Nat := ((chs t.rows).take k).foldl (fun m s => min m (hiS t h e s)) (top0 t h e)
theorem eq_of_le {a b : Nat} (h : ∀ v, a ≤ v ↔ b ≤ v) : a = b := Nat.le_antisymm ((h b).mpr (Nat.le_refl _)) ((h a).mp (Nat.le_refl _))
theorem eq_of_ge {a b : Nat} (h : ∀ v, v ≤ a ↔ v ≤ b) : a = b := Nat.le_antisymm ((h a).mp (Nat.le_refl _)) ((h b).mpr (Nat.le_refl _))
theorem loK_all (t : Table) (h : List Nat) (e : Nat) : loK t h e (chs t.rows).length = least t h e := by
  refine eq_of_le fun v => ?_
  unfold loK
  rw [List.take_length, foldl_max_le]
  show _ ↔ ((subsets (List.range t.rows)).map (loS t h e)).foldr max 0 ≤ v
  rw [foldr_max_le]
  constructor
  · rintro ⟨_, q⟩ x hx
    obtain ⟨s, hs, rfl⟩ := List.mem_map.mp hx
    exact q s (chs_subs.mpr hs)
  · exact fun q => ⟨Nat.zero_le _, fun s hs => q _ (List.mem_map.mpr ⟨s, chs_subs.mp hs, rfl⟩)⟩
theorem hiK_all (t : Table) (h : List Nat) (e : Nat) : hiK t h e (chs t.rows).length = greatest t h e := by
  refine eq_of_ge fun v => ?_
  unfold hiK
  rw [List.take_length, le_foldl_min]
  show _ ↔ v ≤ ((subsets (List.range t.rows)).map (hiS t h e)).foldr min (top0 t h e)
  rw [le_foldr_min]
  constructor
  · rintro ⟨q0, q⟩
    refine ⟨q0, fun x hx => ?_⟩
    obtain ⟨s, hs, rfl⟩ := List.mem_map.mp hx
    exact q s (chs_subs.mpr hs)
  · exact fun q => ⟨q.1, fun s hs => q.2 _ (List.mem_map.mpr ⟨s, chs_subs.mp hs, rfl⟩)⟩
theorem hiK_le (t : Table) (h : List Nat) (e k : Nat) : hiK t h e k ≤ top0 t h e := (le_foldl_min.mp (Nat.le_refl (hiK t h e k))).1
theorem loK_more {t : Table} {h : List Nat} {e k : Nat} {s : List Nat} (hs : (chs t.rows)[k]? = some s) : loK t h e (k + 1) = max (loK t h e k) (loS t h e s) := by
  unfold loK
  rw [take_more hs, List.foldl_append]
  rfl
theorem hiK_more {t : Table} {h : List Nat} {e k : Nat} {s : List Nat} (hs : (chs t.rows)[k]? = some s) : hiK t h e (k + 1) = min (hiK t h e k) (hiS t h e s) := by
  unfold hiK
  rw [take_more hs, List.foldl_append]
  rfl
theorem hid_eq (t : Table) (ks : List Bool) : hid t ks = (cells t).filter fun p => ks.getD p false := rfl
theorem in_hid (t : Table) (ks : List Bool) : inT t (hid t ks) := in_filter t _
theorem nodup_hid (t : Table) (ks : List Bool) : (hid t ks).Nodup := nodup_filter t _
/-- where the cell's row is none of them the columns have as much as the rows -/
theorem out_le {t : Table} {h : List Nat} {e : Nat} {s : List Nat} (hin : inT t h) (he : e ∈ h) (hs : s ∈ chs t.rows) (hi : s.contains (rowOf t e) = false) : total (s.map (rowLeft t h)) ≤ total ((reach t h e s).map (colLeft t h)) := by
  rw [subs_total _ (chs_subs.mp hs), reach_total]
  have h3 := ((hc_but he).mp (hc_num hin)).all s.contains
  rw [sb_congr (T := Nb (rowOf t) (colOf t) (but h e) s.contains) (g := colLeft t h) (fun j _ => by
    rw [nb_cons, hi]
    rfl) (fun _ _ _ => rfl)] at h3
  exact h3
def spRange (K : PySem.W.Frag) : Sp := fun vs H Q _ => ∃ (t : Table) (ks : List Bool) (e : Nat) (a b : Addr), vs = [.int (t.cols : Int), .ref a, .ref b, .int (e : Int)] ∧ Ok t ks ∧ SqL K H a (nv t.nums) ∧ SqL K H b (ks.map V.bl) ∧ e ∈ hid t ks ∧
  ∀ (H' : Hp) (p : Addr), Same H H' → H p = none → H' p = some (.tup [.int (least t (hid t ks) e : Int), .int (greatest t (hid t ks) e : Int)]) → Q (.ref p) H'
def spByLeft (K : PySem.W.Frag) : Sp := fun vs H Q _ => ∃ (t : Table) (ks : List Bool) (e : Nat) (pR pC b : Addr), vs = [.ref pR, .ref pC, .ref b, .int (e : Int)] ∧ Ok t ks ∧ SqL K H pR (nv ((List.range t.rows).map (rowLeft t (hid t ks)))) ∧ SqL K H pC (nv ((List.range t.cols).map (colLeft t (hid t ks)))) ∧ SqL K H b (ks.map V.bl) ∧ e ∈ hid t ks ∧
  ∀ (H' : Hp) (p : Addr), Same H H' → H p = none → H' p = some (.tup [.int (least t (hid t ks) e : Int), .int (greatest t (hid t ks) e : Int)]) → Q (.ref p) H'
/-- a def that may be called by its name -/
structure Def (P : Program) (w : World) (K : PySem.W.Frag) (mg : Str → Option Value) (base : Heap) (x : Str) (k : Nat) (ps : List Str) (sp : Sp) (f : Addr) (fd : FuncData) : Prop where
  ok : FnOk P w K mg base CX0 k f fd ps sp
  mg : mg x = some (.ref f)
  kp : PySem.W.keepIn K (.ref f) = true
  b : Binds K fd ps []
section
variable {P : Program} {w : World} {K : PySem.W.Frag} {mg : Str → Option Value} {base : Heap}
abbrev nmRa : List Str := ["rows_left", "columns_left", "kept", "place", "columns", "i", "j", "least", "greatest", "rows", "reached", "rows_have", "columns_have", "row", "column"]
theorem scRa : FnScope nmRa ["rows_left", "columns_left", "kept", "place"] (defScope sByLeft) := ⟨rfl, rfl, rfl, by decide +kernel, rfl, by decide +kernel, by decide +kernel⟩
theorem ok_byLeft {f fH fE : Addr} {fd dH dE : FuncData} (F : Fun K "range_by_left" "range_by_left" sByLeft f fd) (B : Blt mg)
    (Hs : Def P w K mg base "choices_of_rows" 1 ["count"] spChoices fH dH) (Re : Def P w K mg base "columns_reached" 1 ["columns", "kept", "rows", "place"] (spReach K) fE dE) :
    FnOk P w K mg base CX0 2 f fd ["rows_left", "columns_left", "kept", "place"] (spByLeft K) := by
  refine F.ok scRa (fun vs H Q E h => ?_) (fun cdv A outer st H vs Q E hr h => ?_)
  · obtain ⟨t, ks, e, pR, pC, b, rfl, _⟩ := h
    rfl
  · obtain ⟨t, ks, e, pR, pC, b, rfl, ok, hR, hC, hb, he, k⟩ := h
    refine ⟨_, pss_cons (ps_set (i := 4) scRa.nd rfl (Or.inl rfl) (pe_callB call_len_seq (by rfl) B.len PySem.boot_len (pa_cons (pv 1) pa_nil)))
      (pss_cons (ps_set (i := 5) scRa.nd rfl (Or.inl rfl) (pe_op op_divU (pv 3) (pv 4)))
      (pss_cons (ps_set (i := 6) scRa.nd rfl (Or.inl rfl) (pe_op op_modU (pv 3) (pv 4)))
      (pss_cons (ps_set (i := 7) scRa.nd rfl (Or.inl rfl) pe_int)
      (pss_cons (ps_set (i := 8) scRa.nd rfl (Or.inl rfl) (pe_callB (cr_minU rfl) (by rfl) B.min (by decide +kernel) (pa_cons (pe_ix ix_list (pv 0) (pv 5) (fun _ _ => rfl)) (pa_cons (pe_ix ix_list (pv 1) (pv 6) (fun _ _ => rfl)) pa_nil))))
      (pss_cons (ps_for PassesOwn.never rfl (pi_list (pe_call Hs.ok hr (by rfl) Hs.mg Hs.kp Hs.b .nil pass0 (pa_cons (pe_callB call_len_seq (by rfl) B.len PySem.boot_len (pa_cons (pv 0) pa_nil)) pa_nil))) (pg_name (i := 9) scRa.nd rfl (Or.inl rfl))
        (pss_cons (ps_set (i := 10) scRa.nd rfl (Or.inl rfl) (pe_call Re.ok hr (by rfl) Re.mg Re.kp Re.b .nil pass0 (pa_cons (pv 4) (pa_cons (pv 2) (pa_cons (pv 9) (pa_cons (pv 3) pa_nil))))))
        (pss_cons (ps_set (i := 11) scRa.nd rfl (Or.inl rfl) (pe_callB (cr_sumU rfl) (by rfl) B.sum (by decide +kernel) (pa_cons
          (pe_lc (own := [("row", 13)]) (g := gName 13) (tt := tYes) (te := tOp (rIxL K) (tVar 0) (tVar 13)) rfl scRa.nd (pi_list (pv 9)) (blkOk_by (N := nmRa) (sc := defScope sByLeft) (by decide +kernel))
            (fun _ _ _ _ _ => pg_name (i := 13) scRa.nd rfl (Or.inl rfl)) (fun _ _ _ _ _ => pts_nil) (fun _ _ _ _ _ => pe_ix ix_list (pv 0) (pv 13) (fun _ _ => rfl))) pa_nil)))
        (pss_cons (ps_set (i := 12) scRa.nd rfl (Or.inl rfl) (pe_callB (cr_sumU rfl) (by rfl) B.sum (by decide +kernel) (pa_cons
          (pe_lc (own := [("column", 14)]) (g := gName 14) (tt := tYes) (te := tOp (rIxL K) (tVar 1) (tVar 14)) rfl scRa.nd (pi_list (pv 10)) (blkOk_by (N := nmRa) (sc := defScope sByLeft) (by decide +kernel))
            (fun _ _ _ _ _ => pg_name (i := 14) scRa.nd rfl (Or.inl rfl)) (fun _ _ _ _ _ => pts_nil) (fun _ _ _ _ _ => pe_ix ix_list (pv 1) (pv 14) (fun _ _ => rfl))) pa_nil)))
        (pss_cons (ps_if (PW.pt (pw_and (pt_cmpR op_inU (pv 5) (pv 9) (by rfl)) (pw_and1 (pt_cmpR op_notInU (pv 6) (pv 10) (by rfl)))))
          (pss_one (ps_set (i := 7) scRa.nd rfl (Or.inl rfl) (pe_callB (cr_maxD rfl) (by rfl) B.max (by decide +kernel) (pa_cons (pv 7) (pa_cons (pe_op op_sub (pv 11) (pv 12)) pa_nil))))) pss_nil)
        (pss_one (ps_if (PW.pt (pw_and (pt_cmpR op_notInU (pv 5) (pv 9) (by rfl)) (pw_and1 (pt_cmpR op_inU (pv 6) (pv 10) (by rfl)))))
          (pss_one (ps_set (i := 8) scRa.nd rfl (Or.inl rfl) (pe_callB (cr_minD rfl) (by rfl) B.min (by decide +kernel) (pa_cons (pv 8) (pa_cons (pe_op op_sub (pv 12) (pv 11)) pa_nil))))) pss_nil)))))))
      (pss_one (ps_ret (pe_tup (pa_cons (pv 7) (pa_cons (pv 8) pa_nil)))))))))), ?_⟩
    have c1 := ok.c1
    have c4 := ok.c4
    have r3 := ok.r3
    have n12 := ok.n12
    have he' := mem_hid.mp he
    have hrow : e / t.cols < t.rows := (Nat.div_lt_iff_lt_mul ok.c1).mpr he'.1
    have hcol : e % t.cols < t.cols := Nat.mod_lt _ ok.c1
    have lenR : (nv ((List.range t.rows).map (rowLeft t (hid t ks)))).length = t.rows := by rw [nv_len, List.length_map, List.length_range]
    have lenC : (nv ((List.range t.cols).map (colLeft t (hid t ks)))).length = t.cols := by rw [nv_len, List.length_map, List.length_range]
    refine ⟨_, rfl, pC, _, rfl, .inl hC, ?_⟩
    rw [lenC]
    refine ⟨_, rfl, _, rfl, e, t.cols, rfl, rfl, c1, by omega, _, rfl, _, rfl, e, t.cols, rfl, rfl, c1, ?_⟩
    refine ⟨_, rfl, _, rfl, pR, _, _, _, rfl, rfl, hR, atI_nat (nv_at (range_at hrow)), ?_⟩
    refine ⟨_, rfl, _, rfl, pC, _, _, _, rfl, rfl, hC, atI_nat (nv_at (range_at hcol)), ?_⟩
    refine ⟨_, _, rfl, ?_⟩
    refine ⟨_, rfl, pR, _, rfl, .inl hR, t.rows, by rw [lenR]; rfl, r3, fun H3 pS as s3 nS hS lie => ?_⟩
    have nS3 : as.length = (chs t.rows).length := lie.len
    refine ⟨pS, rfl, ⟨_, SqL.of hS⟩, for_list (K := K) (a := pS) (xs := as.map V.ref) (fun k σ H' => ∃ v9 v10 v11 v12 : Option V, σ = [some (.ref pR), some (.ref pC), some (.ref b), some (.int (e : Int)), some (.int (t.cols : Int)), some (.int ((e / t.cols : Nat) : Int)), some (.int ((e % t.cols : Nat) : Int)), some (.int (loK t (hid t ks) e k : Int)), some (.int (hiK t (hid t ks) e k : Int)), v9, v10, v11, v12, none, none] ∧ Same H3 H')
      ⟨none, none, none, none, rfl, Same.refl _⟩ (fun k σ H' _ ⟨_, _, _, _, _, s5⟩ => s5.seq (SqL.of hS)) ?_ ?_⟩
    · rintro k x σ H4 hx ⟨v10, v11, v12, v13, rfl, s4⟩
      obtain ⟨aS, sS, rfl, hsS, haS⟩ := lie.at hx
      have memS : sS ∈ chs t.rows := List.mem_of_getElem? hsS
      have subS : ∀ r ∈ sS, r < t.rows := fun r hr => by
        obtain ⟨S, rfl⟩ := mem_chs.mp memS
        exact List.mem_range.mp (List.mem_filter.mp hr).1
      have lenS : sS.length ≤ 3 := by
        obtain ⟨S, rfl⟩ := mem_chs.mp memS
        refine Nat.le_trans (List.length_filter_le _ _) ?_
        rw [List.length_range]
        omega
      have s04 : Same H H4 := s3.trans s4
      refine ⟨_, rfl, _, rfl, _, rfl, _, rfl, t, ks, sS, e, aS, b, rfl, ok, s04.seq hb, SqL.of (s4 _ _ haS), subS, lenS, fun H5 pE s5 nE hE => ?_⟩
      have subE : ∀ j ∈ reach t (hid t ks) e sS, j < t.cols := fun j hj => List.mem_range.mp (List.mem_filter.mp hj).1
      have lenE : (reach t (hid t ks) e sS).length ≤ 4 := by
        refine Nat.le_trans (List.length_filter_le _ _) ?_
        rw [List.length_range]
        exact c4
      -- rows_have
      refine ⟨_, rfl, aS, rfl, ⟨_, SqL.of (s5 _ _ (s4 _ _ haS))⟩, fun D hD => ?_⟩
      refine lc_mapL (fun k => .int ((rowLeft t (hid t ks) (sS.getD k 0) : Nat) : Int)) (SqL.of (s5 _ _ (s4 _ _ haS))) hD (by rw [nv_len]; omega) ?_ ?_
      · intro k x H6 R hx s6 q
        obtain ⟨hk, rfl⟩ := nv_get hx
        refine ⟨_, rfl, _, rfl, pR, _, _, _, rfl, rfl, (((s3.trans s4).trans s5).trans s6).seq hR, atI_nat (nv_at (range_at (subS _ (getD_mem hk)))), q _ (Same.refl _)⟩
      intro H6 s6 hD6
      have eD : (List.range (nv sS).length).map (fun k => V.int ((rowLeft t (hid t ks) (sS.getD k 0) : Nat) : Int)) = nv (sS.map (rowLeft t (hid t ks))) := by
        rw [nv_len, map_getD (fun r => V.int ((rowLeft t (hid t ks) r : Nat) : Int))]
        unfold nv
        rw [List.map_map]
        rfl
      rw [eD] at hD6
      refine ⟨D, _, rfl, SqL.of hD6, ?_⟩
      -- columns_have
      refine ⟨_, rfl, pE, rfl, ⟨_, SqL.of (s6 _ _ hE)⟩, fun D2 hD2 => ?_⟩
      refine lc_mapL (fun k => .int ((colLeft t (hid t ks) ((reach t (hid t ks) e sS).getD k 0) : Nat) : Int)) (SqL.of (s6 _ _ hE)) hD2 (by rw [nv_len]; omega) ?_ ?_
      · intro k x H7 R hx s7 q
        obtain ⟨hk, rfl⟩ := nv_get hx
        refine ⟨_, rfl, _, rfl, pC, _, _, _, rfl, rfl, ((((s3.trans s4).trans s5).trans s6).trans s7).seq hC, atI_nat (nv_at (range_at (subE _ (getD_mem hk)))), q _ (Same.refl _)⟩
      intro H7 s7 hD7
      have eD2 : (List.range (nv (reach t (hid t ks) e sS)).length).map (fun k => V.int ((colLeft t (hid t ks) ((reach t (hid t ks) e sS).getD k 0) : Nat) : Int)) = nv ((reach t (hid t ks) e sS).map (colLeft t (hid t ks))) := by
        rw [nv_len, map_getD (fun r => V.int ((colLeft t (hid t ks) r : Nat) : Int))]
        unfold nv
        rw [List.map_map]
        rfl
      rw [eD2] at hD7
      refine ⟨D2, _, rfl, SqL.of hD7, ?_⟩
      have s47 : Same H4 H7 := (s5.trans s6).trans s7
      have s37 : Same H3 H7 := s4.trans s47
      have qS : SqL K H7 aS (nv sS) := SqL.of (s37 _ _ haS)
      have qE : SqL K H7 pE (nv (reach t (hid t ks) e sS)) := SqL.of (s7 _ _ (s6 _ _ hE))
      have lo1 := loK_more (h := hid t ks) (e := e) hsS
      have hi1 := hiK_more (h := hid t ks) (e := e) hsS
      -- if i in rows and j not in reached
      refine ⟨_, rfl, _, rfl, aS, sS, _, rfl, rfl, qS, _, rfl, ?_⟩
      have ir : rowOf t e = e / t.cols := rfl
      have jr : colOf t e = e % t.cols := rfl
      by_cases hA : sS.contains (e / t.cols) = true
      · rw [hA]
        refine iteT ⟨_, rfl, _, rfl, pE, _, _, rfl, rfl, qE, _, rfl, ?_⟩
        by_cases hB : (reach t (hid t ks) e sS).contains (e % t.cols) = true
        · rw [hB]
          refine iteF ?_
          refine ⟨_, rfl, _, rfl, aS, sS, _, rfl, rfl, qS, _, rfl, ?_⟩
          rw [hA]
          refine iteF (iteF ?_)
          refine ⟨some (.ref aS), some (.ref pE), some (.int ((total (sS.map (rowLeft t (hid t ks))) : Nat) : Int)), some (.int ((total ((reach t (hid t ks) e sS).map (colLeft t (hid t ks))) : Nat) : Int)), ?_, s37⟩
          have e1 : loS t (hid t ks) e sS = 0 := if_neg (by rw [ir, jr, hA, hB]; simp)
          have e2 : hiS t (hid t ks) e sS = top0 t (hid t ks) e := if_neg (by rw [ir, jr, hA, hB]; simp)
          rw [lo1, hi1, e1, e2, Nat.max_eq_left (Nat.zero_le _), Nat.min_eq_left (hiK_le _ _ _ _)]
          rfl
        · have hB' : (reach t (hid t ks) e sS).contains (e % t.cols) = false := by simpa using hB
          rw [hB']
          refine iteT ?_
          refine ⟨_, rfl, _, rfl, _, rfl, _, _, rfl, rfl, _, _, _, rfl, ?_⟩
          refine ⟨_, rfl, _, rfl, aS, sS, _, rfl, rfl, qS, _, rfl, ?_⟩
          rw [hA]
          refine iteF (iteF ?_)
          refine ⟨some (.ref aS), some (.ref pE), some (.int ((total (sS.map (rowLeft t (hid t ks))) : Nat) : Int)), some (.int ((total ((reach t (hid t ks) e sS).map (colLeft t (hid t ks))) : Nat) : Int)), ?_, s37⟩
          have e1 : loS t (hid t ks) e sS = total (sS.map (rowLeft t (hid t ks))) - total ((reach t (hid t ks) e sS).map (colLeft t (hid t ks))) := if_pos (by rw [ir, jr, hA, hB']; simp)
          have e2 : hiS t (hid t ks) e sS = top0 t (hid t ks) e := if_neg (by rw [ir, jr, hA, hB']; simp)
          rw [lo1, hi1, e1, e2, Nat.min_eq_left (hiK_le _ _ _ _)]
          rfl
      · have hA' : sS.contains (e / t.cols) = false := by simpa using hA
        rw [hA']
        refine iteF (iteF ?_)
        refine ⟨_, rfl, _, rfl, aS, sS, _, rfl, rfl, qS, _, rfl, ?_⟩
        rw [hA']
        refine iteT ⟨_, rfl, _, rfl, pE, _, _, rfl, rfl, qE, _, rfl, ?_⟩
        have e1 : loS t (hid t ks) e sS = 0 := if_neg (by rw [ir, hA']; simp)
        by_cases hB : (reach t (hid t ks) e sS).contains (e % t.cols) = true
        · rw [hB]
          refine iteT ?_
          refine ⟨_, rfl, _, rfl, _, rfl, _, _, rfl, rfl, _, _, _, rfl, out_le (in_hid t ks) he memS hA', ?_⟩
          refine ⟨some (.ref aS), some (.ref pE), some (.int ((total (sS.map (rowLeft t (hid t ks))) : Nat) : Int)), some (.int ((total ((reach t (hid t ks) e sS).map (colLeft t (hid t ks))) : Nat) : Int)), ?_, s37⟩
          have e2 : hiS t (hid t ks) e sS = total ((reach t (hid t ks) e sS).map (colLeft t (hid t ks))) - total (sS.map (rowLeft t (hid t ks))) := if_pos (by rw [ir, jr, hA', hB]; simp)
          rw [lo1, hi1, e1, e2, Nat.max_eq_left (Nat.zero_le _)]
          rfl
        · have hB' : (reach t (hid t ks) e sS).contains (e % t.cols) = false := by simpa using hB
          rw [hB']
          refine iteF ?_
          refine ⟨some (.ref aS), some (.ref pE), some (.int ((total (sS.map (rowLeft t (hid t ks))) : Nat) : Int)), some (.int ((total ((reach t (hid t ks) e sS).map (colLeft t (hid t ks))) : Nat) : Int)), ?_, s37⟩
          have e2 : hiS t (hid t ks) e sS = top0 t (hid t ks) e := if_neg (by rw [ir, jr, hA', hB']; simp)
          rw [lo1, hi1, e1, e2, Nat.max_eq_left (Nat.zero_le _), Nat.min_eq_left (hiK_le _ _ _ _)]
          rfl
    · rintro σ H4 ⟨v10, v11, v12, v13, rfl, s4⟩
      rw [List.length_map, nS3, loK_all, hiK_all]
      refine ⟨_, rfl, _, rfl, (by decide : 2 ≤ sizeLine), fun p hp => ?_⟩
      have s04 : Same H H4 := s3.trans s4
      exact k _ p (s04.trans (Same.new hp)) (s04.free hp) upd_same
theorem scRo : FnScope ["columns", "numbers", "kept", "place", "rows_left", "columns_left"] ["columns", "numbers", "kept", "place"] (defScope sRange) := ⟨rfl, rfl, rfl, by decide +kernel, rfl, by decide +kernel, by decide +kernel⟩
theorem ok_range {f fR fC fB : Addr} {fd dR dC dB : FuncData} (F : Fun K "range_of_cell" "range_of_cell" sRange f fd)
    (R : Def P w K mg base "left_in_rows" 1 ["columns", "numbers", "kept"] (spLeftR K) fR dR) (C : Def P w K mg base "left_in_columns" 1 ["columns", "numbers", "kept"] (spLeftC K) fC dC)
    (G : Def P w K mg base "range_by_left" 2 ["rows_left", "columns_left", "kept", "place"] (spByLeft K) fB dB) :
    FnOk P w K mg base CX0 3 f fd ["columns", "numbers", "kept", "place"] (spRange K) := by
  refine F.ok scRo (fun vs H Q E h => ?_) (fun cdv A outer st H vs Q E hr h => ?_)
  · obtain ⟨t, ks, e, a, b, rfl, _⟩ := h
    rfl
  · obtain ⟨t, ks, e, a, b, rfl, ok, ha, hb, he, k⟩ := h
    refine ⟨_, pss_cons (ps_set (i := 4) scRo.nd rfl (Or.inl rfl) (pe_call R.ok (hr.mono (by decide)) (by rfl) R.mg R.kp R.b .nil pass0 (pa_cons (pv 0) (pa_cons (pv 1) (pa_cons (pv 2) pa_nil)))))
      (pss_cons (ps_set (i := 5) scRo.nd rfl (Or.inl rfl) (pe_call C.ok (hr.mono (by decide)) (by rfl) C.mg C.kp C.b .nil pass0 (pa_cons (pv 0) (pa_cons (pv 1) (pa_cons (pv 2) pa_nil)))))
      (pss_one (ps_ret (pe_call G.ok hr (by rfl) G.mg G.kp G.b .nil pass0 (pa_cons (pv 4) (pa_cons (pv 5) (pa_cons (pv 2) (pa_cons (pv 3) pa_nil)))))))), ?_⟩
    refine ⟨_, rfl, _, rfl, _, rfl, t, ks, a, b, rfl, ok, ha, hb, fun H1 pR s1 nR hR => ?_⟩
    refine ⟨_, rfl, _, rfl, _, rfl, t, ks, a, b, rfl, ok, s1.seq ha, s1.seq hb, fun H2 pC s2 nC hC => ?_⟩
    refine ⟨_, rfl, _, rfl, _, rfl, _, rfl, t, ks, e, pR, pC, b, rfl, ok, SqL.of (s2 _ _ hR), SqL.of hC, (s1.trans s2).seq hb, he, fun H3 p s3 np hp => ?_⟩
    exact k H3 p ((s1.trans s2).trans s3) ((s1.trans s2).free np) hp
end
end CK
namespace CK
open PySem PySem.Spec PyProof.Rows L2 So02
/-! ### the object -/
theorem lk_here {k : Str} {v : V} {r : List (Str × V)} : List.lookup k ((k, v) :: r) = some v := by
  have e : (k == k) = true := beq_self_eq_true k
  simp only [List.lookup, e]
theorem lk_past {k g : Str} {v : V} {r : List (Str × V)} (h : (k == g) = false) : List.lookup k ((g, v) :: r) = List.lookup k r := by
  simp only [List.lookup, h]
theorem put_here {f : Str} {v x : V} {r : List (Str × V)} : putF f v ((f, x) :: r) = (f, v) :: r := if_pos rfl
theorem put_past {f g : Str} {v x : V} {r : List (Str × V)} (h : ¬ g = f) : putF f v ((g, x) :: r) = (g, x) :: putF f v r := if_neg h
def kF (r c : Nat) (pn pk : Addr) : List (Str × V) := [("rows", .int (r : Int)), ("columns", .int (c : Int)), ("numbers", .ref pn), ("states", .ref pk)]
theorem kF_rows {r c : Nat} {pn pk : Addr} : (kF r c pn pk).lookup ("rows" : Str) = some (.int (r : Int)) := lk_here
theorem kF_columns {r c : Nat} {pn pk : Addr} : (kF r c pn pk).lookup ("columns" : Str) = some (.int (c : Int)) := (lk_past (by decide +kernel)).trans lk_here
theorem kF_numbers {r c : Nat} {pn pk : Addr} : (kF r c pn pk).lookup ("numbers" : Str) = some (.ref pn) := (lk_past (by decide +kernel)).trans ((lk_past (by decide +kernel)).trans lk_here)
theorem kF_states {r c : Nat} {pn pk : Addr} : (kF r c pn pk).lookup ("states" : Str) = some (.ref pk) := (lk_past (by decide +kernel)).trans ((lk_past (by decide +kernel)).trans ((lk_past (by decide +kernel)).trans lk_here))
theorem kF_no {r c : Nat} {pn pk : Addr} {m : Str} (h1 : (m == ("rows" : Str)) = false) (h2 : (m == ("columns" : Str)) = false) (h3 : (m == ("numbers" : Str)) = false) (h4 : (m == ("states" : Str)) = false) : (kF r c pn pk).lookup m = none :=
  (lk_past h1).trans ((lk_past h2).trans ((lk_past h3).trans ((lk_past h4).trans rfl)))
/-! ### what each cell is: 0 told, 1 kept for itself, 2 kept with others -/
def anyK (ss : List Nat) : List Bool := ss.map fun s => s != 0
def ownK (ss : List Nat) : List Bool := ss.map fun s => s == 1
def alsK (ss : List Nat) : List Bool := ss.map fun s => s == 2
theorem mark_at {f : Nat → Bool} (h : f 0 = false) (ss : List Nat) (p : Nat) : (ss.map f).getD p false = f (ss.getD p 0) := by
  rw [List.getD_eq_getElem?_getD, List.getD_eq_getElem?_getD, List.getElem?_map]
  cases ss[p]? with
  | none => exact h.symm
  | some x => rfl
theorem any_at (ss : List Nat) (p : Nat) : (anyK ss).getD p false = (ss.getD p 0 != 0) := mark_at rfl ss p
theorem own_at (ss : List Nat) (p : Nat) : (ownK ss).getD p false = (ss.getD p 0 == 1) := mark_at rfl ss p
theorem als_at (ss : List Nat) (p : Nat) : (alsK ss).getD p false = (ss.getD p 0 == 2) := mark_at rfl ss p
theorem any_len (ss : List Nat) : (anyK ss).length = ss.length := List.length_map _
theorem own_len (ss : List Nat) : (ownK ss).length = ss.length := List.length_map _
theorem als_len (ss : List Nat) : (alsK ss).length = ss.length := List.length_map _
theorem Ok.marks {t : Table} {ks ls : List Bool} (o : Ok t ks) (h : ls.length = ks.length) : Ok t ls := ⟨o.r1, o.r3, o.c1, o.c4, o.len, h.trans o.kl⟩
structure At (C : Addr) (H : Hp) (a : Addr) (t : Table) (ss : List Nat) (pn pk : Addr) : Prop where
  obj : ∃ dx, H a = some (.ins C dx (kF t.rows t.cols pn pk))
  nums : H pn = some (.lst (nv t.nums))
  sts : H pk = some (.lst (nv ss))
  ok : Ok t (anyK ss)
  le : ∀ s ∈ ss, s ≤ 2
  ne : pn ≠ pk
theorem At.mono {C : Addr} {H H' : Hp} {a : Addr} {t : Table} {ss : List Nat} {pn pk : Addr} (h : At C H a t ss pn pk) (s : Same H H') : At C H' a t ss pn pk :=
  ⟨h.obj.elim fun dx e => ⟨dx, s _ _ e⟩, s _ _ h.nums, s _ _ h.sts, h.ok, h.le, h.ne⟩
theorem At.sl {C : Addr} {H : Hp} {a : Addr} {t : Table} {ss : List Nat} {pn pk : Addr} (h : At C H a t ss pn pk) : ss.length = t.rows * t.cols := by rw [← any_len]; exact h.ok.kl
theorem At.st {C : Addr} {H : Hp} {a : Addr} {t : Table} {ss : List Nat} {pn pk : Addr} (h : At C H a t ss pn pk) {p : Nat} (hp : p < t.rows * t.cols) : ss[p]? = some (ss.getD p 0) := by
  rw [List.getD_eq_getElem?_getD, List.getElem?_eq_getElem (by rw [h.sl]; exact hp)]
  rfl
theorem At.nu {C : Addr} {H : Hp} {a : Addr} {t : Table} {ss : List Nat} {pn pk : Addr} (h : At C H a t ss pn pk) {p : Nat} (hp : p < t.rows * t.cols) : t.nums[p]? = some (num t p) := by
  unfold num
  rw [List.getD_eq_getElem?_getD, List.getElem?_eq_getElem (by rw [h.ok.len]; exact hp)]
  rfl
def stS (t : Table) (ss : List Nat) : Table := stOf t (ownK ss) (alsK ss)
theorem orAt_S {ss : List Nat} (le : ∀ s ∈ ss, s ≤ 2) (p : Nat) : orAt (ownK ss) (alsK ss) p = (anyK ss).getD p false := by
  unfold orAt
  rw [any_at, own_at, als_at]
  have h2 : ss.getD p 0 ≤ 2 := by
    by_cases h : p < ss.length
    · exact le _ (getD_mem h)
    · rw [List.getD_eq_getElem?_getD, List.getElem?_eq_none (by omega)]
      exact Nat.zero_le _
  generalize ss.getD p 0 = s at h2
  match s, h2 with
  | 0, _ => rfl
  | 1, _ => rfl
  | 2, _ => rfl
theorem hidden_S {t : Table} {ss : List Nat} (le : ∀ s ∈ ss, s ≤ 2) : hidden (stS t ss) = hid t (anyK ss) := by
  unfold stS
  rw [hidden_of]
  exact pick_congr fun p _ => orAt_S le p
theorem int_eq {o e : Nat} : decide (V.int (o : Int) = V.int (e : Int)) = (o == e) := by
  by_cases h : o = e
  · subst h
    simp
  · have : ¬ V.int (o : Int) = V.int (e : Int) := fun z => h (by injection z with z; omega)
    rw [decide_eq_false this]
    simp [h]
theorem map_marks (f : Nat → Bool) (ss : List Nat) : (List.range (nv ss).length).map (fun k => V.bl (f (ss.getD k 0))) = (ss.map f).map V.bl := by
  rw [nv_len, map_getD (fun s => V.bl (f s)), List.map_map]
  rfl
structure Txt (K : PySem.W.Frag) (mg : Str → Option Value) (C : Addr) : Prop where
  cl : Cls K C
  nR : NoAttr K C "rows"
  nC : NoAttr K C "columns"
  nN : NoAttr K C "numbers"
  nS : NoAttr K C "states"
/-- constants -/
structure Cst (mg : Str → Option Value) : Prop where
  mR : ∃ t, mg "MOST_ROWS" = some (.int 3 t)
  mC : ∃ t, mg "MOST_COLUMNS" = some (.int 4 t)
  mV : ∃ t, mg "MOST_IN_A_CELL" = some (.int 99 t)
  nT : ∃ t, mg "NOT_A_TABLE" = some (.int (-1) t)
  nC : ∃ t, mg "NO_SUCH_CELL" = some (.int (-1) t)
  nK : ∃ t, mg "NOT_KEPT" = some (.int (-3) t)
  kA : ∃ t, mg "KEPT_ALREADY" = some (.int (-4) t)
  nE : ∃ t, mg "NOT_EVEN_WITH_ALL" = some (.int (-6) t)
  nS : ∃ t, mg "NO_SUCH_TABLE" = some (.int (-6) t)
  s0 : ∃ t, mg "TOLD" = some (.int 0 t)
  s1 : ∃ t, mg "FOR_ITSELF" = some (.int 1 t)
  s2 : ∃ t, mg "WITH_OTHERS" = some (.int 2 t)
abbrev sCls : Stmt := top 39
abbrev sHas : Stmt := inClass sCls 13
abbrev sPlace : Stmt := inClass sCls 14
abbrev sKeptC : Stmt := inClass sCls 15
abbrev sRangeAt : Stmt := inClass sCls 16
abbrev sWidth : Stmt := inClass sCls 17
abbrev sFewP : Stmt := inClass sCls 18
abbrev sTold : Stmt := inClass sCls 19
/-- a method that may be called -/
structure MDef (P : Program) (w : World) (K : PySem.W.Frag) (mg : Str → Option Value) (base : Heap) (C : Addr) (x : Str) (k : Nat) (ps : List Str) (sp : Sp) (f : Addr) (fd : FuncData) : Prop where
  ok : FnOk P w K mg base CX0 k f fd ps sp
  m : Meth K C x f
  b : Binds K fd ps []
def inCell (t : Table) (i j : Nat) : Prop := 1 ≤ i ∧ i ≤ t.rows ∧ 1 ≤ j ∧ j ≤ t.cols
instance (t : Table) (i j : Nat) : Decidable (inCell t i j) := by unfold inCell; infer_instance
def spHas (C : Addr) : Sp := fun vs H Q _ => ∃ (a pn pk : Addr) (t : Table) (ss : List Nat) (i j : Nat), vs = [.ref a, .int (i : Int), .int (j : Int)] ∧ At C H a t ss pn pk ∧ Q (.bl (decide (inCell t i j))) H
def spPlace (C : Addr) : Sp := fun vs H Q _ => ∃ (a pn pk : Addr) (t : Table) (ss : List Nat) (i j : Nat), vs = [.ref a, .int (i : Int), .int (j : Int)] ∧ At C H a t ss pn pk ∧ inCell t i j ∧ Q (.int (((i - 1) * t.cols + (j - 1) : Nat) : Int)) H
def spKeptC (C : Addr) : Sp := fun vs H Q _ => ∃ (a pn pk : Addr) (t : Table) (ss : List Nat), vs = [.ref a] ∧ At C H a t ss pn pk ∧
  ∀ (H' : Hp) (p : Addr), Same H H' → H p = none → H' p = some (.lst ((anyK ss).map V.bl)) → Q (.ref p) H'
def loAt (t : Table) (ks : List Bool) (e : Nat) : Nat := if ks.getD e false = true then least t (hid t ks) e else num t e
def hiAt (t : Table) (ks : List Bool) (e : Nat) : Nat := if ks.getD e false = true then greatest t (hid t ks) e else num t e
def spRangeAt (C : Addr) : Sp := fun vs H Q _ => ∃ (a pn pk : Addr) (t : Table) (ss : List Nat) (e : Nat), vs = [.ref a, .int (e : Int)] ∧ At C H a t ss pn pk ∧ e < t.rows * t.cols ∧
  ∀ (H' : Hp) (p : Addr), Same H H' → H p = none → H' p = some (.tup [.int (loAt t (anyK ss) e : Int), .int (hiAt t (anyK ss) e : Int)]) → Q (.ref p) H'
def spWidth (C : Addr) : Sp := fun vs H Q _ => ∃ (a pn pk : Addr) (t : Table) (ss : List Nat) (e : Nat), vs = [.ref a, .int (e : Int)] ∧ At C H a t ss pn pk ∧ e < t.rows * t.cols ∧
  ∀ (H' : Hp), Same H H' → Q (.int ((hiAt t (anyK ss) e - loAt t (anyK ss) e : Nat) : Int)) H'
theorem lo_le_hi {t : Table} {ks : List Bool} {e : Nat} (h : e < t.rows * t.cols) : loAt t ks e ≤ hiAt t ks e := by
  unfold loAt hiAt
  by_cases k : ks.getD e false = true
  · rw [if_pos k, if_pos k]
    have := least_le_num (nodup_hid t ks) (in_hid t ks) (mem_hid.mpr ⟨h, k⟩)
    omega
  · rw [if_neg k, if_neg k]
    exact Nat.le_refl _
def spTold (C : Addr) (K : PySem.W.Frag) : Sp := fun vs H Q _ => ∃ (a pn pk b : Addr) (t : Table) (ss : List Nat) (l : List Nat), vs = [.ref a, .ref b] ∧ At C H a t ss pn pk ∧ SqL K H b (nv l) ∧ l.length ≤ 12 ∧
  ∀ (H' : Hp) (p : Addr), Same H H' → H p = none → H' p = some (.lst ((cellRow t l).map V.int)) → Q (.ref p) H'
section
variable {P : Program} {w : World} {K : PySem.W.Frag} {mg : Str → Option Value} {base : Heap} {C : Addr}
theorem scHas : FnScope ["self", "i", "j"] ["self", "i", "j"] (defScope sHas) := ⟨rfl, rfl, rfl, by decide +kernel, rfl, by decide +kernel, by decide +kernel⟩
theorem ok_has {f : Addr} {fd : FuncData} (F : Fun K "has_cell" "KeptTable.has_cell" sHas f fd) (T : Txt K mg C) : FnOk P w K mg base CX0 1 f fd ["self", "i", "j"] (spHas C) := by
  refine F.ok scHas (fun vs H Q E h => ?_) (fun cdv A outer s H vs Q E hr h => ?_)
  · obtain ⟨a, pn, pk, t, ss, i, j, rfl, _⟩ := h
    rfl
  · obtain ⟨a, pn, pk, t, ss, i, j, rfl, ⟨⟨dx, ho⟩, hn, hk, ok, hle, hne⟩, q⟩ := h
    refine ⟨_, pss_one (ps_ret (pe_and (pe_chain op_le op_le pe_int (pv 1) (pe_fld (pv 0) rfl)) (pe_one (pe_chain op_le op_le pe_int (pv 2) (pe_fld (pv 0) rfl))))), ?_⟩
    refine ⟨_, rfl, _, _, rfl, rfl, _, rfl, ?_⟩
    by_cases h1 : 1 ≤ i
    · rw [decide_eq_true (show (1 : Int) ≤ (i : Int) by omega)]
      refine iteT ⟨_, rfl, a, C, dx, _, _, rfl, ho, T.cl, T.nR, kF_rows, _, _, rfl, rfl, _, rfl, ?_⟩
      by_cases h2 : i ≤ t.rows
      · rw [decide_eq_true (show (i : Int) ≤ (t.rows : Int) by omega)]
        refine iteT ⟨_, rfl, _, _, rfl, rfl, _, rfl, ?_⟩
        by_cases h3 : 1 ≤ j
        · rw [decide_eq_true (show (1 : Int) ≤ (j : Int) by omega)]
          refine iteT ⟨_, rfl, a, C, dx, _, _, rfl, ho, T.cl, T.nC, kF_columns, _, _, rfl, rfl, ?_⟩
          have e : decide ((j : Int) ≤ (t.cols : Int)) = decide (inCell t i j) := by
            by_cases h4 : j ≤ t.cols
            · rw [decide_eq_true (show (j : Int) ≤ (t.cols : Int) by omega), decide_eq_true (show inCell t i j from ⟨h1, h2, h3, h4⟩)]
            · rw [decide_eq_false (show ¬ (j : Int) ≤ (t.cols : Int) by omega), decide_eq_false (show ¬ inCell t i j from fun z => h4 z.2.2.2)]
          show Q (.bl (decide ((j : Int) ≤ (t.cols : Int)))) H
          rw [e]
          exact q
        · rw [decide_eq_false (show ¬ (1 : Int) ≤ (j : Int) by omega)]
          refine iteF ?_
          rw [decide_eq_false (by unfold inCell; omega)] at q
          exact q
      · rw [decide_eq_false (show ¬ (i : Int) ≤ (t.rows : Int) by omega)]
        refine iteF ?_
        rw [decide_eq_false (by unfold inCell; omega)] at q
        exact q
    · rw [decide_eq_false (show ¬ (1 : Int) ≤ (i : Int) by omega)]
      refine iteF ?_
      refine ⟨_, rfl, iteF ?_⟩
      rw [decide_eq_false (by unfold inCell; omega)] at q
      exact q
theorem scPlace : FnScope ["self", "i", "j"] ["self", "i", "j"] (defScope sPlace) := ⟨rfl, rfl, rfl, by decide +kernel, rfl, by decide +kernel, by decide +kernel⟩
theorem ok_place {f : Addr} {fd : FuncData} (F : Fun K "place_of" "KeptTable.place_of" sPlace f fd) (T : Txt K mg C) : FnOk P w K mg base CX0 1 f fd ["self", "i", "j"] (spPlace C) := by
  refine F.ok scPlace (fun vs H Q E h => ?_) (fun cdv A outer s H vs Q E hr h => ?_)
  · obtain ⟨a, pn, pk, t, ss, i, j, rfl, _⟩ := h
    rfl
  · obtain ⟨a, pn, pk, t, ss, i, j, rfl, ⟨⟨dx, ho⟩, hn, hk, ok, hle, hne⟩, hc, q⟩ := h
    refine ⟨_, pss_one (ps_ret (pe_op op_sub (pe_op op_add (pe_op op_mul (pe_op op_sub (pv 1) pe_int) (pe_fld (pv 0) rfl)) (pv 2)) pe_int)), ?_⟩
    unfold inCell at hc
    have r3 := ok.r3
    refine ⟨_, rfl, _, _, rfl, rfl, _, rfl, a, C, dx, _, _, rfl, ho, T.cl, T.nC, kF_columns, _, _, rfl, rfl, .inl ⟨by omega, by omega⟩, _, rfl, _, _, rfl, rfl, _, _, rfl, rfl, ?_⟩
    have e : ((i : Int) - 1) * (t.cols : Int) + (j : Int) - 1 = (((i - 1) * t.cols + (j - 1) : Nat) : Int) := by
      rw [Int.natCast_add, Int.natCast_mul]
      have e1 : ((i - 1 : Nat) : Int) = (i : Int) - 1 := by omega
      have e2 : ((j - 1 : Nat) : Int) = (j : Int) - 1 := by omega
      rw [e1, e2]
      omega
    show Q (.int (((i : Int) - 1) * (t.cols : Int) + (j : Int) - 1)) H
    rw [e]
    exact q
theorem scKC : FnScope ["self", "state"] ["self"] (defScope sKeptC) := ⟨rfl, rfl, rfl, by decide +kernel, rfl, by decide +kernel, by decide +kernel⟩
theorem ok_keptC {f : Addr} {fd : FuncData} (F : Fun K "kept_cells" "KeptTable.kept_cells" sKeptC f fd) (T : Txt K mg C) (G : Cst mg) : FnOk P w K mg base CX0 1 f fd ["self"] (spKeptC C) := by
  obtain ⟨t0, m0⟩ := G.s0
  refine F.ok scKC (fun vs H Q E h => ?_) (fun cdv A outer s H vs Q E hr h => ?_)
  · obtain ⟨a, pn, pk, t, ss, rfl, _⟩ := h
    rfl
  · obtain ⟨a, pn, pk, t, ss, rfl, at0, k⟩ := h
    refine ⟨_, pss_one (ps_ret (pe_lc (own := [("state", 1)]) (g := gName 1) (tt := tYes) rfl scKC.nd (pi_list (pe_fld (pv 0) rfl)) (blkOk_by (N := ["self", "state"]) (sc := defScope sKeptC) (by decide +kernel))
      (fun _ _ _ _ _ => pg_name (i := 1) scKC.nd rfl (Or.inl rfl)) (fun _ _ _ _ _ => pts_nil) (fun _ _ _ _ _ => pe_cmpR op_ne (pv 1) (pe_glob (v := .int 0) rfl m0 ⟨_, rfl⟩) (nomark _)))), ?_⟩
    have n12 := at0.ok.n12
    have sl := at0.sl
    obtain ⟨⟨dx, ho⟩, hn, hk, ok, hle, hne⟩ := at0
    refine ⟨_, rfl, a, C, dx, _, _, rfl, ho, T.cl, T.nS, kF_states, pk, rfl, ⟨_, SqL.of hk⟩, fun D hD => ?_⟩
    refine lc_mapL (fun k => .bl (ss.getD k 0 != 0)) (SqL.of hk) hD (by rw [nv_len]; omega) ?_ ?_
    · intro k x H2 R hx s2 q
      obtain ⟨hk, rfl⟩ := nv_get hx
      refine ⟨_, rfl, rfl, ?_⟩
      have q' := q H2 (Same.refl _)
      rw [← int_ne] at q'
      exact q'
    · intro H2 s2 hD2
      rw [map_marks (fun s => s != 0)] at hD2
      exact k H2 D s2 hD hD2
theorem scRA : FnScope ["self", "place"] ["self", "place"] (defScope sRangeAt) := ⟨rfl, rfl, rfl, by decide +kernel, rfl, by decide +kernel, by decide +kernel⟩
theorem ok_rangeAt {f fR fK : Addr} {fd dR dK : FuncData} (F : Fun K "range_at" "KeptTable.range_at" sRangeAt f fd) (T : Txt K mg C) (G : Cst mg) (R : Def P w K mg base "range_of_cell" 3 ["columns", "numbers", "kept", "place"] (spRange K) fR dR) (M : MDef P w K mg base C "kept_cells" 1 ["self"] (spKeptC C) fK dK) :
    FnOk P w K mg base CX0 4 f fd ["self", "place"] (spRangeAt C) := by
  obtain ⟨t0, m0⟩ := G.s0
  refine F.ok scRA (fun vs H Q E h => ?_) (fun cdv A outer s H vs Q E hr h => ?_)
  · obtain ⟨a, pn, pk, t, ss, e, rfl, _⟩ := h
    rfl
  · obtain ⟨a, pn, pk, t, ss, e, rfl, at0, he, k⟩ := h
    refine ⟨_, pss_cons (ps_if (pt_cmpR op_eq (pe_ix ix_list (pe_fld (pv 0) rfl) (pv 1) (fun _ _ => rfl)) (pe_glob (v := .int 0) rfl m0 ⟨_, rfl⟩) (nomark _)) (pss_one (ps_ret (pe_tup (pa_cons (pe_ix ix_list (pe_fld (pv 0) rfl) (pv 1) (fun _ _ => rfl)) (pa_cons (pe_ix ix_list (pe_fld (pv 0) rfl) (pv 1) (fun _ _ => rfl)) pa_nil))))) pss_nil)
      (pss_one (ps_ret (pe_call R.ok hr (by rfl) R.mg R.kp R.b .nil pass0 (pa_cons (pe_fld (pv 0) rfl) (pa_cons (pe_fld (pv 0) rfl) (pa_cons (pe_meth0 (pv 0) T.cl M.m M.ok (hr.mono (by decide)) M.b .nil pass0) (pa_cons (pv 1) pa_nil))))))), ?_⟩
    have hss := at0.st he
    have hnn := at0.nu he
    have ea := any_at ss e
    have at1 := at0
    obtain ⟨⟨dx, ho⟩, hn, hk, ok, hle, hne⟩ := at1
    refine ⟨_, rfl, a, C, dx, _, _, rfl, ho, T.cl, T.nS, kF_states, _, rfl, pk, _, _, _, rfl, rfl, SqL.of hk, atI_nat (nv_at hss), rfl, _, rfl, ?_⟩
    show if decide (V.int ((ss.getD e 0 : Nat) : Int) = V.int ((0 : Nat) : Int)) = true then _ else _
    rw [int_eq]
    by_cases kk : ss.getD e 0 = 0
    · rw [kk]
      have kk' : (anyK ss).getD e false = false := by rw [ea, kk]; rfl
      refine iteT ?_
      refine ⟨_, rfl, a, C, dx, _, _, rfl, ho, T.cl, T.nN, kF_numbers, _, rfl, pn, _, _, _, rfl, rfl, SqL.of hn, atI_nat (nv_at hnn), ?_⟩
      refine ⟨_, rfl, a, C, dx, _, _, rfl, ho, T.cl, T.nN, kF_numbers, _, rfl, pn, _, _, _, rfl, rfl, SqL.of hn, atI_nat (nv_at hnn), (by decide : 2 ≤ sizeLine), fun p hp => ?_⟩
      refine k _ p (Same.new hp) hp ?_
      unfold loAt hiAt
      rw [kk', if_neg Bool.false_ne_true, if_neg Bool.false_ne_true]
      exact upd_same
    · have kk' : (anyK ss).getD e false = true := by rw [ea]; simpa using kk
      have e0 : (ss.getD e 0 == 0) = false := by simpa using kk
      rw [e0]
      refine iteF ?_
      refine ⟨_, rfl, a, C, dx, _, _, rfl, ho, T.cl, T.nC, kF_columns, _, rfl, a, C, dx, _, _, rfl, ho, T.cl, T.nN, kF_numbers, _, rfl, a, dx, _, rfl, ho, kF_no (by decide +kernel) (by decide +kernel) (by decide +kernel) (by decide +kernel), a, pn, pk, t, ss, rfl, at0, fun H1 pm s1 npm hpm => ?_⟩
      refine ⟨_, rfl, t, anyK ss, e, pn, pm, rfl, ok, s1.seq (SqL.of hn), SqL.of hpm, mem_hid.mpr ⟨he, kk'⟩, fun H' p s2 hp hp' => k H' p (s1.trans s2) (s1.free hp) ?_⟩
      unfold loAt hiAt
      rw [if_pos kk', if_pos kk']
      exact hp'
theorem scWi : FnScope ["self", "place", "ends"] ["self", "place"] (defScope sWidth) := ⟨rfl, rfl, rfl, by decide +kernel, rfl, by decide +kernel, by decide +kernel⟩
theorem ok_width {f fR : Addr} {fd dR : FuncData} (F : Fun K "width_at" "KeptTable.width_at" sWidth f fd) (T : Txt K mg C) (R : MDef P w K mg base C "range_at" 4 ["self", "place"] (spRangeAt C) fR dR) :
    FnOk P w K mg base CX0 5 f fd ["self", "place"] (spWidth C) := by
  refine F.ok scWi (fun vs H Q E h => ?_) (fun cdv A outer s H vs Q E hr h => ?_)
  · obtain ⟨a, pn, pk, t, ss, e, rfl, _⟩ := h
    rfl
  · obtain ⟨a, pn, pk, t, ss, e, rfl, at0, he, k⟩ := h
    refine ⟨_, pss_cons (ps_set (i := 2) scWi.nd rfl (Or.inl rfl) (pe_meth (pv 0) T.cl R.m R.ok hr R.b .nil pass0 (pa_cons (pv 1) pa_nil)))
      (pss_one (ps_ret (pe_op op_sub (pe_ix ix_tup (pv 2) pe_int (fun _ _ => rfl)) (pe_ix ix_tup (pv 2) pe_int (fun _ _ => rfl))))), ?_⟩
    obtain ⟨dx, ho⟩ := at0.obj
    refine ⟨_, rfl, a, dx, _, rfl, ho, kF_no (by decide +kernel) (by decide +kernel) (by decide +kernel) (by decide +kernel), _, rfl, a, pn, pk, t, ss, e, rfl, at0, he, fun H' p s1 hp hp' => ?_⟩
    refine ⟨_, rfl, p, _, _, _, rfl, rfl, SqT.of hp', atI_nat (j := 1) rfl, _, rfl, p, _, _, _, rfl, rfl, SqT.of hp', atI_nat (j := 0) rfl, _, _, rfl, rfl, ?_⟩
    have hle := lo_le_hi (ks := anyK ss) he
    have e1 : (hiAt t (anyK ss) e : Int) - (loAt t (anyK ss) e : Int) = ((hiAt t (anyK ss) e - loAt t (anyK ss) e : Nat) : Int) := by omega
    show Q (.int ((hiAt t (anyK ss) e : Int) - (loAt t (anyK ss) e : Int))) H'
    rw [e1]
    exact k H' s1
theorem scTo : FnScope ["self", "places", "told", "place"] ["self", "places"] (defScope sTold) := ⟨rfl, rfl, rfl, by decide +kernel, rfl, by decide +kernel, by decide +kernel⟩
def toldTo (t : Table) (l : List Nat) (i : Nat) : List Int := (l.length : Int) :: So02.ints ((l.take i).flatMap fun p => [rowOf t p + 1, colOf t p + 1])
theorem ok_told {f : Addr} {fd : FuncData} (F : Fun K "cells_told" "KeptTable.cells_told" sTold f fd) (T : Txt K mg C) (B : Blt mg) : FnOk P w K mg base CX0 1 f fd ["self", "places"] (spTold C K) := by
  refine F.ok scTo (fun vs H Q E h => ?_) (fun cdv A outer s H vs Q E hr h => ?_)
  · obtain ⟨a, pn, pk, b, t, ss, l, rfl, _⟩ := h
    rfl
  · obtain ⟨a, pn, pk, b, t, ss, l, rfl, ⟨⟨dx, ho⟩, hn, hk, ok, hle, hne⟩, hb, hl, k⟩ := h
    refine ⟨_, pss_cons (ps_set (i := 2) scTo.nd rfl (Or.inl rfl) (pe_lst (pa_cons (pe_callB call_len_seq (by rfl) B.len PySem.boot_len (pa_cons (pv 1) pa_nil)) pa_nil)))
      (pss_cons (ps_for PassesOwn.never rfl (pi_list (pv 1)) (pg_name (i := 3) scTo.nd rfl (Or.inl rfl))
        (pss_cons (ps_expr (pe_bm PySem.F.plainAttrs_list PySem.F.slot_list_append PySem.F.type_list_append mt_append (pv 2) (pa_cons (pe_op op_add (pe_op op_divU (pv 3) (pe_fld (pv 0) rfl)) pe_int) pa_nil)))
        (pss_one (ps_expr (pe_bm PySem.F.plainAttrs_list PySem.F.slot_list_append PySem.F.type_list_append mt_append (pv 2) (pa_cons (pe_op op_add (pe_op op_modU (pv 3) (pe_fld (pv 0) rfl)) pe_int) pa_nil))))))
      (pss_one (ps_ret (pv 2)))), ?_⟩
    refine ⟨_, rfl, b, _, rfl, .inl hb, (by decide : 1 ≤ sizeLine), fun p hp => ?_⟩
    have c1 := ok.c1
    have c4 := ok.c4
    refine ⟨_, rfl, b, rfl, ⟨_, Same.seq (Same.new hp) hb⟩, for_list (K := K) (a := b) (xs := nv l) (fun i σ H' => ∃ v3 : Option V, σ = [some (.ref a), some (.ref b), some (.ref p), v3] ∧ Same H H' ∧ H' p = some (.lst ((toldTo t l i).map V.int)))
      ⟨none, rfl, Same.new hp, by rw [upd_same]; show some (HO.lst [V.int ((nv l).length : Int)]) = _; rw [nv_len]; rfl⟩ (fun i σ H' _ ⟨_, _, s1, _⟩ => s1.seq hb) ?_ ?_⟩
    · rintro i x σ H1 hx ⟨v3, rfl, s1, hp1⟩
      obtain ⟨hi, rfl⟩ := nv_get hx
      have hli : l[i]? = some (l.getD i 0) := by
        rw [List.getD_eq_getElem?_getD, List.getElem?_eq_getElem hi]
        rfl
      have hlen : ∀ j, (toldTo t l j).length ≤ 30 := fun j => by
        unfold toldTo
        rw [List.length_cons, ints_len, List.length_flatMap]
        have : ∀ m : List Nat, (m.map fun p => [rowOf t p + 1, colOf t p + 1].length).sum = 2 * m.length := by
          intro m
          induction m with
          | nil => rfl
          | cons y m ih => rw [List.map_cons, List.sum_cons, ih]; show 2 + 2 * m.length = 2 * (m.length + 1); omega
        rw [this, List.length_take]
        omega
      have hl1 := hlen i
      refine ⟨_, rfl, .inl ⟨rfl, _, SqL.of hp1⟩, _, rfl, _, rfl, a, C, dx, _, _, rfl, s1 _ _ ho, T.cl, T.nC, kF_columns, l.getD i 0, t.cols, rfl, rfl, c1, by omega, _, _, rfl, rfl, p, _, _, rfl, rfl, hp1, ?_, ?_⟩
      · rw [List.length_map]
        exact Nat.lt_of_le_of_lt hl1 (by decide)
      have s2 : Same H (upd H1 p (.lst ((toldTo t l i).map V.int ++ [V.int (((l.getD i 0 / t.cols : Nat) : Int) + 1)]))) := Same.put hp s1
      refine ⟨_, rfl, .inl ⟨rfl, _, SqL.of upd_same⟩, _, rfl, _, rfl, a, C, dx, _, _, rfl, s2 _ _ ho, T.cl, T.nC, kF_columns, l.getD i 0, t.cols, rfl, rfl, c1, _, _, rfl, rfl, p, _, _, rfl, rfl, upd_same, ?_, ?_⟩
      · rw [List.length_append, List.length_map]
        exact Nat.lt_of_le_of_lt (show (toldTo t l i).length + 1 ≤ 31 by omega) (by decide)
      refine ⟨_, rfl, Same.put hp s2, ?_⟩
      rw [upd_same]
      refine congrArg (fun l => some (HO.lst l)) ?_
      unfold toldTo
      rw [take_more hli, List.flatMap_append]
      unfold So02.ints
      rw [List.map_append, List.map_cons, List.map_cons, List.map_append]
      rw [List.cons_append, List.cons_append, List.append_assoc]
      rfl
    · rintro σ H1 ⟨v3, rfl, s1, hp1⟩
      refine ⟨_, rfl, k H1 p s1 hp ?_⟩
      rw [hp1]
      unfold toldTo
      rw [nv_len, List.take_length]
      rfl
end
end CK
namespace CK
open PySem PySem.Spec PyProof.Rows L2 So02
/-! ### the fewest more: the specification's side -/
def frees (t : Table) (ks : List Bool) : List Nat := (List.range (t.rows * t.cols)).filter fun p => !ks.getD p false
def safeC (t : Table) (ks : List Bool) (w : Nat) (c : List Nat) : Bool := (hid t ks).all fun e => decide (w ≤ wide t (hid t (orL ks c)) e)
def moreK (t : Table) (ks : List Bool) (w : Nat) : Option (List Nat) := So02.more (stOf t ks []) w
theorem hid_or {t : Table} {ks : List Bool} (hk : ks.length = t.rows * t.cols) (c : List Nat) : hid t (orL ks c) = (cells t).filter fun p => ks.getD p false || c.contains p := by
  show (List.range _).filter _ = (List.range _).filter _
  refine List.filter_congr fun p hp => ?_
  exact orL_at c ks (by rw [hk]; exact List.mem_range.mp hp)
theorem moreK_eq {t : Table} {ks : List Bool} {w : Nat} (hk : ks.length = t.rows * t.cols) : moreK t ks w = ((List.range (t.rows * t.cols + 1)).flatMap fun k => choices k (frees t ks)).find? (safeC t ks w) := by
  unfold moreK So02.more
  have e1 : (cells (stOf t ks [])).length = t.rows * t.cols := List.length_range
  have e2 : ((cells (stOf t ks [])).filter fun p => !(stOf t ks []).kept.contains p) = frees t ks := by
    show (List.range _).filter _ = (List.range _).filter _
    refine List.filter_congr fun p hp => ?_
    show (!(pick _ _).contains p) = _
    rw [has_pick (show p < t.rows * t.cols from List.mem_range.mp hp)]
  rw [e1, e2]
  congr 1
  funext c
  unfold safe safeC
  have e3 : ((cells (stOf t ks [])).filter fun p => (stOf t ks []).kept.contains p || c.contains p) = hid t (orL ks c) := by
    rw [hid_or hk]
    show (List.range _).filter _ = (List.range _).filter _
    refine List.filter_congr fun p hp => ?_
    show ((pick _ _).contains p || _) = _
    rw [has_pick (show p < t.rows * t.cols from List.mem_range.mp hp)]
  rw [e3]
  rfl
theorem more_none {t : Table} {ks : List Bool} {w : Nat} (hk : ks.length = t.rows * t.cols) (h : safeC t ks w (frees t ks) = false) : moreK t ks w = none := by
  rw [moreK_eq hk, List.find?_eq_none]
  intro c hc hs
  obtain ⟨k, _, hc⟩ := List.mem_flatMap.mp hc
  have hsub := subs_sub (mem_choices hc).1
  have : safeC t ks w (frees t ks) = true := by
    unfold safeC at hs ⊢
    rw [hid_or hk] at hs ⊢
    rw [List.all_eq_true] at hs ⊢
    intro e he
    have h1 := hs e he
    rw [decide_eq_true_iff] at h1 ⊢
    refine Nat.le_trans h1 (wide_more (fun p hp => ?_) (List.mem_filter.mpr ⟨mem_cells.mpr (mem_hid.mp he).1, by rw [(mem_hid.mp he).2]; rfl⟩))
    rw [Bool.or_eq_true] at hp ⊢
    rcases hp with hp | hp
    · exact .inl hp
    · rw [List.contains_iff_mem] at hp ⊢
      exact .inr (hsub p hp)
  rw [h] at this
  cases this
theorem free_len (t : Table) (ks : List Bool) : (frees t ks).length ≤ t.rows * t.cols := by
  refine Nat.le_trans (List.length_filter_le _ _) ?_
  rw [List.length_range]
  exact Nat.le_refl _
theorem free_pw (t : Table) (ks : List Bool) : (frees t ks).Pairwise (· < ·) := List.Pairwise.filter _ List.pairwise_lt_range
theorem sub_len {l s : List Nat} (nd : l.Nodup) (h : s ∈ subsets l) : s.length ≤ l.length := by
  rw [subs_eq nd h]
  exact List.length_filter_le _ _
theorem free_nd (t : Table) (ks : List Bool) : (frees t ks).Nodup := List.Pairwise.filter _ List.nodup_range
theorem more_some {t : Table} {ks : List Bool} {w k : Nat} {c : List Nat} (hk : ks.length = t.rows * t.cols) (hn : ∀ i, i < k → ∀ d ∈ choices i (frees t ks), safeC t ks w d = false) (h : (choices k (frees t ks)).find? (safeC t ks w) = some c) : moreK t ks w = some c := by
  rw [moreK_eq hk]
  refine find_flat ?_ hn h
  obtain ⟨h1, h2⟩ := mem_choices (List.mem_of_find?_eq_some h)
  have := sub_len (free_nd t ks) h1
  have := free_len t ks
  omega
/-- what is found are free cells, in order -/
theorem more_sub {t : Table} {ks : List Bool} {w : Nat} {c : List Nat} (hk : ks.length = t.rows * t.cols) (h : moreK t ks w = some c) : c ∈ subsets (frees t ks) := by
  rw [moreK_eq hk] at h
  obtain ⟨k, _, hc⟩ := List.mem_flatMap.mp (List.mem_of_find?_eq_some h)
  exact (mem_choices hc).1
/-! ### the defs -/
abbrev sFew : Stmt := top 8
abbrev sOne : Stmt := top 9
abbrev sWide : Stmt := top 10
def spOne (K : PySem.W.Frag) : Sp := fun vs H Q _ => ∃ (c b : Addr) (as : List Addr) (cs : List (List Nat)) (l : List Nat), vs = [.ref c, .ref b] ∧ SqL K H c (as.map V.ref) ∧ Lie H as cs ∧ SqL K H b (nv l) ∧ l.length ≤ 12 ∧ cs.length ≤ 4096 ∧ (∀ s ∈ cs, s.length ≤ 12) ∧
  ∀ (H' : Hp) (p : Addr) (bs : List Addr), Same H H' → H' p = some (.lst (bs.map V.ref)) → Lie H' bs (cs.flatMap (ext l)) → Q (.ref p) H'
def spWide (K : PySem.W.Frag) : Sp := fun vs H Q _ => ∃ (t : Table) (ks : List Bool) (l : List Nat) (w : Nat) (a b c : Addr), vs = [.int (t.cols : Int), .ref a, .ref b, .ref c, .int (w : Int)] ∧ Ok t ks ∧ SqL K H a (nv t.nums) ∧ SqL K H b (ks.map V.bl) ∧ SqL K H c (nv l) ∧ (∀ x ∈ l, x < t.rows * t.cols) ∧
  ∀ (H' : Hp), Same H H' → Q (.bl (safeC t ks w l)) H'
def spFew (K : PySem.W.Frag) : Sp := fun vs H Q _ => ∃ (t : Table) (ks : List Bool) (w : Nat) (a b : Addr), vs = [.int (t.cols : Int), .ref a, .ref b, .int (w : Int)] ∧ Ok t ks ∧ SqL K H a (nv t.nums) ∧ SqL K H b (ks.map V.bl) ∧
  (∀ (H' : Hp), Same H H' → moreK t ks w = none → Q .non H') ∧
  (∀ (H' : Hp) (p : Addr) (c : List Nat), Same H H' → moreK t ks w = some c → H' p = some (.lst (nv c)) → Q (.ref p) H')
section
variable {P : Program} {w : World} {K : PySem.W.Frag} {mg : Str → Option Value} {base : Heap}
theorem ext_len (l s : List Nat) : (ext l s).length ≤ l.length := by
  unfold ext
  rw [List.length_map]
  exact List.length_filter_le _ _
theorem flat_len (l : List Nat) : ∀ (cs : List (List Nat)), (cs.flatMap (ext l)).length ≤ cs.length * l.length
  | [] => by simp
  | s :: cs => by
    rw [List.flatMap_cons, List.length_append, List.length_cons, Nat.add_mul]
    have := ext_len l s
    have := flat_len l cs
    omega
theorem scOne : FnScope ["choices", "places", "longer", "chosen", "place"] ["choices", "places"] (defScope sOne) := ⟨rfl, rfl, rfl, by decide +kernel, rfl, by decide +kernel, by decide +kernel⟩
theorem ok_one {f : Addr} {fd : FuncData} (F : Fun K "with_one_more" "with_one_more" sOne f fd) : FnOk P w K mg base CX0 1 f fd ["choices", "places"] (spOne K) := by
  refine F.ok scOne (fun vs H Q E h => ?_) (fun cdv A outer st H vs Q E hr h => ?_)
  · obtain ⟨c, b, as, cs, l, rfl, _⟩ := h
    rfl
  · obtain ⟨c, b, as, cs, l, rfl, hc, lie, hb, hl, hcs, hss, k⟩ := h
    refine ⟨_, pss_cons (ps_set (i := 2) scOne.nd rfl (Or.inl rfl) (pe_lst pa_nil))
      (pss_cons (ps_for PassesOwn.never rfl (pi_list (pv 0)) (pg_name (i := 3) scOne.nd rfl (Or.inl rfl))
        (pss_one (ps_for PassesOwn.never rfl (pi_list (pv 1)) (pg_name (i := 4) scOne.nd rfl (Or.inl rfl))
          (pss_one (ps_if (PW.pt (pw_or (pt_not (pt_truth (pv 3) (by intro _; rfl))) (pw_or1 (pt_cmpR op_gt (pv 4) (pe_ix ix_list (pv 3) (pe_un un_neg pe_int) (fun _ _ => rfl)) (nomark _)))))
            (pss_one (ps_expr (pe_bm PySem.F.plainAttrs_list PySem.F.slot_list_append PySem.F.type_list_append mt_append (pv 2) (pa_cons (pe_op op_cat (pv 3) (pe_lst (pa_cons (pv 4) pa_nil))) pa_nil)))) pss_nil)))))
      (pss_one (ps_ret (pv 2)))), ?_⟩
    refine ⟨(by decide : 0 ≤ sizeLine), fun p hp => ?_⟩
    refine ⟨_, rfl, c, rfl, ⟨_, Same.seq (Same.new hp) hc⟩, for_list (K := K) (a := c) (xs := as.map V.ref) (fun i σ H' => ∃ (bs : List Addr) (v3 v4 : Option V), σ = [some (.ref c), some (.ref b), some (.ref p), v3, v4] ∧ Same H H' ∧ H' p = some (.lst (bs.map V.ref)) ∧ p ∉ bs ∧ Lie H' bs ((cs.take i).flatMap (ext l)))
      ⟨[], none, none, rfl, Same.new hp, upd_same, by simp, trivial⟩ (fun i σ H' _ ⟨_, _, _, _, s5, _⟩ => s5.seq hc) ?_ ?_⟩
    · rintro i x σ H1 hx ⟨bs, v3, v4, rfl, s1, hp1, np1, lb⟩
      obtain ⟨a, s, rfl, hsi, ha⟩ := lie.at hx
      have hsl : s.length ≤ 12 := hss s (List.mem_of_getElem? hsi)
      have hi : i < cs.length := (List.getElem?_eq_some_iff.mp hsi).1
      have flen : ((cs.take i).flatMap (ext l)).length ≤ 50000 := by
        have h1 := flat_len l (cs.take i)
        have h2 : (cs.take i).length * l.length ≤ 4096 * 12 := Nat.mul_le_mul (by rw [List.length_take]; omega) hl
        omega
      refine ⟨_, rfl, b, rfl, ⟨_, s1.seq hb⟩, for_list (K := K) (a := b) (xs := nv l) (fun j σ H' => ∃ (bs : List Addr) (v4 : Option V), σ = [some (.ref c), some (.ref b), some (.ref p), some (.ref a), v4] ∧ Same H H' ∧ H' p = some (.lst (bs.map V.ref)) ∧ p ∉ bs ∧ Lie H' bs ((cs.take i).flatMap (ext l) ++ (((l.take j).filter (lastLt s)).map fun q => s ++ [q])))
        ⟨bs, v4, rfl, s1, hp1, np1, by simpa using lb⟩ (fun j σ H' _ ⟨_, _, _, s5, _⟩ => s5.seq hb) ?_ ?_⟩
      · rintro j x σ H2 hx ⟨bs, v4, rfl, s2, hp2, np2, lb⟩
        obtain ⟨hj, rfl⟩ := nv_get hx
        have hlj : l[j]? = some (l.getD j 0) := by
          rw [List.getD_eq_getElem?_getD, List.getElem?_eq_getElem hj]
          rfl
        have hlen := lb.len
        have ha2 : H2 a = some (.lst (nv s)) := s2 _ _ ha
        have hbl : bs.length ≤ 60000 := by
          rw [hlen, List.length_append, List.length_map]
          have := List.length_filter_le (lastLt s) (l.take j)
          rw [List.length_take] at this
          omega
        have add : ∀ (D : Ends) (σ : L2.St), lastLt s (l.getD j 0) = true → (∀ (H' : Hp) (bs : List Addr), Same H H' → H' p = some (.lst (bs.map V.ref)) → p ∉ bs → Lie H' bs ((cs.take i).flatMap (ext l) ++ (((l.take (j + 1)).filter (lastLt s)).map fun q => s ++ [q])) → D.nx [some (.ref c), some (.ref b), some (.ref p), some (.ref a), some (.int ((l.getD j 0 : Nat) : Int))] H') →
            ∀ l2, H2 l2 = none → ∀ q, upd H2 l2 (.lst [V.int ((l.getD j 0 : Nat) : Int)]) q = none → D.nx [some (.ref c), some (.ref b), some (.ref p), some (.ref a), some (.int ((l.getD j 0 : Nat) : Int))] (upd (upd (upd H2 l2 (.lst [V.int ((l.getD j 0 : Nat) : Int)])) q (.lst (nv s ++ [V.int ((l.getD j 0 : Nat) : Int)]))) p (.lst (bs.map V.ref ++ [V.ref q]))) := by
          intro D σ hlast kk l2 hl2 q hq
          have s3 : Same H2 (upd (upd H2 l2 (.lst [V.int ((l.getD j 0 : Nat) : Int)])) q (.lst (nv s ++ [V.int ((l.getD j 0 : Nat) : Int)]))) := (Same.new hl2).trans (Same.new hq)
          have nq : p ≠ q := ne_of_none (Same.new hl2 _ _ hp2) hq
          have np' : p ∉ bs ++ [q] := by
            intro z
            rcases List.mem_append.mp z with z | z
            · exact np2 z
            · exact nq (List.mem_singleton.mp z)
          refine kk _ (bs ++ [q]) (Same.put hp (s2.trans s3)) ?_ np' ?_
          · rw [upd_same, List.map_append]
            rfl
          · rw [take_more hlj, List.filter_append, List.map_append, ← List.append_assoc]
            refine Lie.upd np' (Lie.app (lb.mono s3) ?_)
            have e : [l.getD j 0].filter (lastLt s) = [l.getD j 0] := by rw [List.filter_cons, hlast, if_pos rfl]; rfl
            rw [e]
            refine ⟨?_, trivial⟩
            rw [upd_same]
            show some (HO.lst (nv s ++ [V.int ((l.getD j 0 : Nat) : Int)])) = some (HO.lst (nv (s ++ [l.getD j 0])))
            unfold nv
            rw [List.map_append]
            rfl
        refine ⟨_, rfl, !(nv s).isEmpty, .inl ⟨nv s, SqL.of ha2, rfl⟩, ?_⟩
        rcases List.eq_nil_or_concat s with e | ⟨s', z, e⟩
        · subst e
          refine iteT ?_
          refine ⟨_, rfl, .inl ⟨rfl, _, SqL.of hp2⟩, _, rfl, _, rfl, (by decide : 1 ≤ sizeLine), fun l2 hl2 => ?_⟩
          refine ⟨a, l2, _, _, rfl, rfl, Same.new hl2 _ _ ha2, upd_same, (by decide : 1 ≤ sizeLine), fun q hq => ?_⟩
          refine ⟨p, _, _, rfl, rfl, (Same.new hl2).trans (Same.new hq) _ _ hp2, ?_, ?_⟩
          · rw [List.length_map]
            exact Nat.lt_of_le_of_lt hbl (by decide)
          · exact add { nx := fun σ H' => ∃ (bs : List Addr) (v4 : Option V), σ = [some (.ref c), some (.ref b), some (.ref p), some (.ref a), v4] ∧ Same H H' ∧ H' p = some (.lst (bs.map V.ref)) ∧ p ∉ bs ∧ Lie H' bs ((cs.take i).flatMap (ext l) ++ (((l.take (j + 1)).filter (lastLt [])).map fun q => [] ++ [q])), rt := fun _ _ => False } [] rfl (fun H' bs h1 h2 h3 h4 => ⟨bs, _, rfl, h1, h2, h3, h4⟩) l2 hl2 q hq
        · have elast : lastLt s (l.getD j 0) = decide (z < l.getD j 0) := by
            unfold lastLt
            rw [e, List.concat_eq_append, List.getLast?_append]
            rfl
          have env : nv s = nv s' ++ [V.int (z : Int)] := by
            rw [e, List.concat_eq_append]
            unfold nv
            rw [List.map_append]
            rfl
          have e0 : (nv s).isEmpty = false := by rw [env]; cases nv s' <;> rfl
          rw [e0]
          refine iteF ⟨_, rfl, _, rfl, _, rfl, a, _, _, _, rfl, rfl, SqL.of ha2, by rw [env]; exact atI_last _ _, _, _, rfl, rfl, _, rfl, ?_⟩
          have ed : decide ((z : Int) < ((l.getD j 0 : Nat) : Int)) = lastLt s (l.getD j 0) := by
            rw [elast, Bool.eq_iff_iff, decide_eq_true_iff, decide_eq_true_iff]
            omega
          show if decide ((z : Int) < ((l.getD j 0 : Nat) : Int)) = true then _ else _
          rw [ed]
          by_cases hlast : lastLt s (l.getD j 0) = true
          · rw [hlast]
            refine iteT ?_
            refine ⟨_, rfl, .inl ⟨rfl, _, SqL.of hp2⟩, _, rfl, _, rfl, (by decide : 1 ≤ sizeLine), fun l2 hl2 => ?_⟩
            refine ⟨a, l2, _, _, rfl, rfl, Same.new hl2 _ _ ha2, upd_same, small_size (by rw [nv_len]; show s.length + 1 ≤ 100000; omega), fun q hq => ?_⟩
            refine ⟨p, _, _, rfl, rfl, (Same.new hl2).trans (Same.new hq) _ _ hp2, ?_, ?_⟩
            · rw [List.length_map]
              exact Nat.lt_of_le_of_lt hbl (by decide)
            · exact add { nx := fun σ H' => ∃ (bs : List Addr) (v4 : Option V), σ = [some (.ref c), some (.ref b), some (.ref p), some (.ref a), v4] ∧ Same H H' ∧ H' p = some (.lst (bs.map V.ref)) ∧ p ∉ bs ∧ Lie H' bs ((cs.take i).flatMap (ext l) ++ (((l.take (j + 1)).filter (lastLt s)).map fun q => s ++ [q])), rt := fun _ _ => False } [] hlast (fun H' bs h1 h2 h3 h4 => ⟨bs, _, rfl, h1, h2, h3, h4⟩) l2 hl2 q hq
          · have hl' : lastLt s (l.getD j 0) = false := by simpa using hlast
            rw [hl']
            refine iteF ⟨bs, _, rfl, s2, hp2, np2, ?_⟩
            have e1 : [l.getD j 0].filter (lastLt s) = [] := by rw [List.filter_cons, hl', if_neg Bool.false_ne_true]; rfl
            rw [take_more hlj, List.filter_append, e1, List.append_nil]
            exact lb
      · rintro σ H2 ⟨bs, v4, rfl, s2, hp2, np2, lb⟩
        refine ⟨bs, _, _, rfl, s2, hp2, np2, ?_⟩
        rw [nv_len, List.take_length] at lb
        rw [take_more hsi, List.flatMap_append]
        have e : [s].flatMap (ext l) = (l.filter (lastLt s)).map fun q => s ++ [q] := by
          rw [List.flatMap_cons]
          show ext l s ++ [] = _
          rw [List.append_nil]
          rfl
        rw [e]
        exact lb
    · rintro σ H1 ⟨bs, v3, v4, rfl, s1, hp1, np1, lb⟩
      refine ⟨_, rfl, k H1 p bs s1 hp1 ?_⟩
      rw [List.length_map, lie.len, List.take_length] at lb
      exact lb
end
end CK
namespace CK
open PySem PySem.Spec PyProof.Rows L2 So02
theorem bl_at {ks : List Bool} {i : Nat} (h : i < ks.length) : (ks.map V.bl)[i]? = some (V.bl (ks.getD i false)) := by
  rw [List.getElem?_map, List.getD_eq_getElem?_getD, List.getElem?_eq_getElem h]
  rfl
section
variable {P : Program} {w : World} {K : PySem.W.Frag} {mg : Str → Option Value} {base : Heap}
abbrev nmWd : List Str := ["columns", "numbers", "own", "chosen", "w", "kept", "place", "rows_left", "columns_left", "is_own", "ends"]
theorem scWd : FnScope nmWd ["columns", "numbers", "own", "chosen", "w"] (defScope sWide) := ⟨rfl, rfl, rfl, by decide +kernel, rfl, by decide +kernel, by decide +kernel⟩
theorem ok_wide {f fR fC fB : Addr} {fd dR dC dB : FuncData} (F : Fun K "all_are_wide" "all_are_wide" sWide f fd) (B : Blt mg)
    (R : Def P w K mg base "left_in_rows" 1 ["columns", "numbers", "kept"] (spLeftR K) fR dR) (C : Def P w K mg base "left_in_columns" 1 ["columns", "numbers", "kept"] (spLeftC K) fC dC)
    (G : Def P w K mg base "range_by_left" 2 ["rows_left", "columns_left", "kept", "place"] (spByLeft K) fB dB) :
    FnOk P w K mg base CX0 3 f fd ["columns", "numbers", "own", "chosen", "w"] (spWide K) := by
  refine F.ok scWd (fun vs H Q E h => ?_) (fun cdv A outer st H vs Q E hr h => ?_)
  · obtain ⟨t, ks, l, wd, a, b, c, rfl, _⟩ := h
    rfl
  · obtain ⟨t, ks, l, wd, a, b, c, rfl, ok, ha, hb, hc, hl, k⟩ := h
    refine ⟨_, pss_cons (ps_set (i := 5) scWd.nd rfl (Or.inl rfl) (pe_callTy call_list_of (by rfl) B.list (by decide +kernel) (pa_cons (pv 2) pa_nil)))
      (pss_cons (ps_for PassesOwn.never rfl (pi_list (pv 3)) (pg_name (i := 6) scWd.nd rfl (Or.inl rfl)) (pss_one (ps_asg pe_bl (pg_sub (pv 5) (pv 6) set_list))))
      (pss_cons (ps_set (i := 7) scWd.nd rfl (Or.inl rfl) (pe_call R.ok (hr.mono (by decide)) (by rfl) R.mg R.kp R.b .nil pass0 (pa_cons (pv 0) (pa_cons (pv 1) (pa_cons (pv 5) pa_nil)))))
      (pss_cons (ps_set (i := 8) scWd.nd rfl (Or.inl rfl) (pe_call C.ok (hr.mono (by decide)) (by rfl) C.mg C.kp C.b .nil pass0 (pa_cons (pv 0) (pa_cons (pv 1) (pa_cons (pv 5) pa_nil)))))
      (pss_cons (ps_for PassesOwn.never rfl (pi_enum (by rfl) B.enumerate (pa_cons (pv 2) pa_nil)) (pg_tup rfl (pgs_cons (pg_name (i := 6) scWd.nd rfl (Or.inl rfl)) (pgs_cons (pg_name (i := 9) scWd.nd rfl (Or.inl rfl)) pgs_nil)))
        (pss_one (ps_if (pt_val (pv 9))
          (pss_cons (ps_set (i := 10) scWd.nd rfl (Or.inl rfl) (pe_call G.ok hr (by rfl) G.mg G.kp G.b .nil pass0 (pa_cons (pv 7) (pa_cons (pv 8) (pa_cons (pv 5) (pa_cons (pv 6) pa_nil))))))
          (pss_one (ps_if (pt_cmpR op_lt (pe_op op_sub (pe_ix ix_tup (pv 10) pe_int (fun _ _ => rfl)) (pe_ix ix_tup (pv 10) pe_int (fun _ _ => rfl))) (pv 4) (nomark _)) (pss_one (ps_ret pe_bl)) pss_nil))) pss_nil)))
      (pss_one (ps_ret pe_bl)))))), ?_⟩
    have n12 := ok.n12
    have kl := ok.kl
    refine ⟨_, rfl, b, _, rfl, .inl hb, fun pk hpk => ?_⟩
    have s0 : Same H (upd H pk (.lst (ks.map V.bl))) := Same.new hpk
    refine ⟨_, rfl, c, rfl, ⟨_, s0.seq hc⟩, for_list (K := K) (a := c) (xs := nv l) (fun i σ H' => ∃ v6 : Option V, σ = [some (.int (t.cols : Int)), some (.ref a), some (.ref b), some (.ref c), some (.int (wd : Int)), some (.ref pk), v6, none, none, none, none] ∧ Same H H' ∧ H' pk = some (.lst ((orL ks (l.take i)).map V.bl)))
      ⟨none, rfl, s0, upd_same⟩ (fun i σ H' _ ⟨_, _, s5, _⟩ => s5.seq hc) ?_ ?_⟩
    · rintro i x σ H1 hx ⟨v6, rfl, s1, hk1⟩
      obtain ⟨hi, rfl⟩ := nv_get hx
      have hli : l[i]? = some (l.getD i 0) := by
        rw [List.getD_eq_getElem?_getD, List.getElem?_eq_getElem hi]
        rfl
      have hlt := hl _ (getD_mem hi)
      refine ⟨_, rfl, _, rfl, pk, _, _, l.getD i 0, rfl, rfl, hk1, ixN_nat (by rw [List.length_map, orL_len, kl]; exact hlt), ?_⟩
      refine ⟨_, rfl, Same.put hpk s1, ?_⟩
      rw [upd_same, take_more hli, orL_snoc, List.map_set]
    · rintro σ H1 ⟨v6, rfl, s1, hk1⟩
      rw [nv_len, List.take_length] at hk1
      have ok' : Ok t (orL ks l) := ⟨ok.r1, ok.r3, ok.c1, ok.c4, ok.len, by rw [orL_len]; exact kl⟩
      refine ⟨_, rfl, _, rfl, _, rfl, t, orL ks l, a, pk, rfl, ok', s1.seq ha, SqL.of hk1, fun H2 pR s2 nR hR => ?_⟩
      refine ⟨_, rfl, _, rfl, _, rfl, t, orL ks l, a, pk, rfl, ok', (s1.trans s2).seq ha, SqL.of (s2 _ _ hk1), fun H3 pC s3 nC hC => ?_⟩
      have s13 : Same H H3 := (s1.trans s2).trans s3
      refine ⟨_, rfl, b, _, rfl, s13.seq hb, for_it (walk_enum (K := K) (a := b) (xs := ks.map V.bl)) (fun i σ H' => ∃ v6 v9 v10 : Option V, σ = [some (.int (t.cols : Int)), some (.ref a), some (.ref b), some (.ref c), some (.int (wd : Int)), some (.ref pk), v6, some (.ref pR), some (.ref pC), v9, v10] ∧ Same H3 H' ∧ (upTo ks i).all (fun e => decide (wd ≤ wide t (hid t (orL ks l)) e)) = true)
        ⟨_, none, none, rfl, Same.refl _, rfl⟩ (fun i σ H' _ ⟨_, _, _, _, s5, _⟩ => (s13.trans s5).seq hb) ?_ ?_⟩
      · rintro i x σ H4 H5 hi ⟨v6, v9, v10, rfl, s4, hall⟩ ⟨T, x1, x2, rfl, hT, rfl, e1, e2⟩
        cases e1
        have hi' : i < ks.length := by rw [List.length_map] at hi; exact hi
        have ex : x2 = V.bl (ks.getD i false) := (Option.some.inj ((bl_at hi').symm.trans e2)).symm
        subst ex
        have sT : Same H4 (upd H4 T (.tup [.int (i : Int), V.bl (ks.getD i false)])) := Same.new hT
        refine ⟨T, _, rfl, SqT.of upd_same, rfl, _, _, rfl, _, _, rfl, rfl, ?_⟩
        refine ⟨_, rfl, _, rfl, ?_⟩
        by_cases kk : ks.getD i false = true
        · rw [kk] at sT ⊢
          refine iteT ?_
          have s35 := s4.trans sT
          have hin : i < t.rows * t.cols := by omega
          have heo : i ∈ hid t (orL ks l) := mem_hid.mpr ⟨hin, by rw [orL_at l ks hi', kk]; rfl⟩
          refine ⟨_, rfl, _, rfl, _, rfl, _, rfl, t, orL ks l, i, pR, pC, pk, rfl, ok', SqL.of (s35 _ _ (s3 _ _ hR)), SqL.of (s35 _ _ hC), SqL.of (s35 _ _ (s3 _ _ (s2 _ _ hk1))), heo, fun H6 p s6 hp hp6 => ?_⟩
          refine ⟨_, rfl, p, _, _, _, rfl, rfl, SqT.of hp6, atI_nat (j := 1) rfl, _, rfl, p, _, _, _, rfl, rfl, SqT.of hp6, atI_nat (j := 0) rfl, _, _, rfl, rfl, _, rfl, _, _, rfl, rfl, _, rfl, ?_⟩
          have hle := least_le_num (nodup_hid t (orL ks l)) (in_hid t (orL ks l)) heo
          have ed : decide ((greatest t (hid t (orL ks l)) i : Int) - (least t (hid t (orL ks l)) i : Int) < (wd : Int)) = !decide (wd ≤ wide t (hid t (orL ks l)) i) := by
            unfold wide
            rw [Bool.eq_iff_iff, decide_eq_true_iff, Bool.not_eq_true', decide_eq_false_iff_not]
            omega
          show if decide ((greatest t (hid t (orL ks l)) i : Int) - (least t (hid t (orL ks l)) i : Int) < (wd : Int)) = true then _ else _
          rw [ed]
          have hhid : i ∈ hid t ks := mem_hid.mpr ⟨hin, kk⟩
          by_cases ww : wd ≤ wide t (hid t (orL ks l)) i
          · rw [decide_eq_true ww]
            refine iteF ⟨_, _, _, rfl, s35.trans s6, ?_⟩
            rw [upTo_succ, kk, if_pos rfl, List.all_append, hall]
            simp [ww]
          · rw [decide_eq_false ww]
            refine iteT ?_
            have es : safeC t ks wd l = false := by
              unfold safeC
              rw [List.all_eq_false]
              exact ⟨i, hhid, by simpa using ww⟩
            have := k H6 ((s13.trans s35).trans s6)
            rw [es] at this
            exact this
        · have kk' : ks.getD i false = false := by simpa using kk
          rw [kk'] at sT ⊢
          refine iteF ⟨_, _, _, rfl, s4.trans sT, ?_⟩
          rw [upTo_out kk']
          exact hall
      · rintro σ H4 ⟨v6, v9, v10, rfl, s4, hall⟩
        rw [List.length_map, kl] at hall
        have := k H4 (s13.trans s4)
        have es : safeC t ks wd l = true := hall
        rw [es] at this
        exact this
abbrev nmFw : List Str := ["columns", "numbers", "own", "w", "free", "choices", "chosen", "place", "is_own"]
theorem scFw : FnScope nmFw ["columns", "numbers", "own", "w"] (defScope sFew) := ⟨rfl, rfl, rfl, by decide +kernel, rfl, by decide +kernel, by decide +kernel⟩
def freeTo (ks : List Bool) (i : Nat) : List Nat := (List.range i).filter fun p => !ks.getD p false
theorem freeTo_succ (ks : List Bool) (i : Nat) : freeTo ks (i + 1) = freeTo ks i ++ (if ks.getD i false = true then [] else [i]) := by
  unfold freeTo
  rw [List.range_succ, List.filter_append, List.filter_cons]
  cases ks.getD i false <;> rfl
theorem ok_few {f fW fO : Addr} {fd dW dO : FuncData} (F : Fun K "fewest_more" "fewest_more" sFew f fd) (B : Blt mg)
    (W : Def P w K mg base "all_are_wide" 3 ["columns", "numbers", "own", "chosen", "w"] (spWide K) fW dW) (O : Def P w K mg base "with_one_more" 1 ["choices", "places"] (spOne K) fO dO) :
    FnOk P w K mg base CX0 4 f fd ["columns", "numbers", "own", "w"] (spFew K) := by
  refine F.ok scFw (fun vs H Q E h => ?_) (fun cdv A outer st H vs Q E hr h => ?_)
  · obtain ⟨t, ks, wd, a, b, rfl, _⟩ := h
    rfl
  · obtain ⟨t, ks, wd, a, b, rfl, ok, ha, hb, k0, k1⟩ := h
    refine ⟨_, pss_cons (ps_setLc (i := 4) (own := [("place", 7), ("is_own", 8)]) (g := gTup K 2 (gCons (gName 7) (gCons (gName 8) gNil))) (tt := tNot (tB (tVar 8))) (te := tVar 7) rfl scFw.nd rfl rfl (sw_true rfl rfl rfl (by decide +kernel)) (pi_enum (by rfl) B.enumerate (pa_cons (pv 2) pa_nil)) (blkOk_by (N := nmFw) (sc := defScope sFew) (by decide +kernel))
        (fun _ _ _ _ _ => pg_tup rfl (pgs_cons (pg_name (i := 7) scFw.nd rfl (Or.inl rfl)) (pgs_cons (pg_name (i := 8) scFw.nd rfl (Or.inl rfl)) pgs_nil))) (fun _ _ _ _ _ => pts_one (pt_not (pt_val (pv 8)))) (fun _ _ _ _ _ => pv 7))
      (pss_cons (ps_if (pt_not (pt_val (pe_call W.ok hr (by rfl) W.mg W.kp W.b .nil pass0 (pa_cons (pv 0) (pa_cons (pv 1) (pa_cons (pv 2) (pa_cons (pv 4) (pa_cons (pv 3) pa_nil)))))))) (pss_one (ps_ret pe_non)) pss_nil)
      (pss_cons (ps_set (i := 5) scFw.nd rfl (Or.inl rfl) (pe_lst (pa_cons (pe_lst pa_nil) pa_nil)))
      (pss_cons (ps_while PassesOwn.never (pt_truth (pv 5) (by intro _; rfl))
        (pss_cons (ps_for PassesOwn.never rfl (pi_list (pv 5)) (pg_name (i := 6) scFw.nd rfl (Or.inl rfl))
          (pss_one (ps_if (pt_val (pe_call W.ok hr (by rfl) W.mg W.kp W.b .nil pass0 (pa_cons (pv 0) (pa_cons (pv 1) (pa_cons (pv 2) (pa_cons (pv 6) (pa_cons (pv 3) pa_nil))))))) (pss_one (ps_ret (pv 6))) pss_nil)))
        (pss_one (ps_set (i := 5) scFw.nd rfl (Or.inl rfl) (pe_call O.ok (hr.mono (by decide)) (by rfl) O.mg O.kp O.b .nil pass0 (pa_cons (pv 5) (pa_cons (pv 4) pa_nil)))))))
      (pss_one (ps_ret pe_non))))), ?_⟩
    have n12 := ok.n12
    have kl := ok.kl
    refine ⟨_, rfl, b, _, rfl, hb, fun D hD => ?_⟩
    refine lc_it (walk_enum (K := K) (a := b) (xs := ks.map V.bl)) (fun i H' => Same H H' ∧ H' D = some (.lst (nv (freeTo ks i)))) ⟨Same.new hD, upd_same⟩ (fun i H' _ p => p.1.seq hb) ?_ ?_
    · rintro i x H1 H2 hi ⟨s1, hD1⟩ ⟨T', x1, x2, rfl, hT, rfl, e1, e2⟩
      cases e1
      have hi' : i < ks.length := by rw [List.length_map] at hi; exact hi
      have ex : x2 = V.bl (ks.getD i false) := (Option.some.inj ((bl_at hi').symm.trans e2)).symm
      subst ex
      have sT : Same H1 (upd H1 T' (.tup [.int (i : Int), V.bl (ks.getD i false)])) := Same.new hT
      refine ⟨T', _, rfl, SqT.of upd_same, rfl, _, _, rfl, _, _, rfl, rfl, rfl, ?_⟩
      refine ⟨_, rfl, _, rfl, ?_⟩
      by_cases kk : ks.getD i false = true
      · rw [kk] at sT ⊢
        refine iteF ⟨s1.trans sT, ?_⟩
        rw [freeTo_succ, kk, if_pos rfl, List.append_nil]
        exact sT _ _ hD1
      · have kk' : ks.getD i false = false := by simpa using kk
        rw [kk'] at sT ⊢
        refine iteT ⟨_, rfl, _, sT _ _ hD1, ?_, ?_, ?_⟩
        · rw [nv_len]
          refine Nat.lt_of_le_of_lt (List.length_filter_le _ _) ?_
          rw [List.length_range]
          exact Nat.lt_of_lt_of_le (show i < 100000 by omega) (small_size (Nat.le_refl _))
        · exact Same.put hD (s1.trans sT)
        · rw [upd_same, freeTo_succ, kk', if_neg Bool.false_ne_true]
          unfold nv
          rw [List.map_append]
          rfl
    · rintro H1 ⟨s1, hD1⟩
      rw [List.length_map, kl] at hD1
      have eF : freeTo ks (t.rows * t.cols) = frees t ks := rfl
      rw [eF] at hD1
      have fl : ∀ x ∈ frees t ks, x < t.rows * t.cols := fun x hx => List.mem_range.mp (List.mem_filter.mp hx).1
      have flen := free_len t ks
      refine ⟨_, rfl, _, rfl, _, rfl, _, rfl, _, rfl, t, ks, frees t ks, wd, a, b, D, rfl, ok, s1.seq ha, s1.seq hb, SqL.of hD1, fl, fun H2 s2 => ⟨_, rfl, ?_⟩⟩
      by_cases hs : safeC t ks wd (frees t ks) = true
      · rw [hs]
        refine iteF ?_
        refine ⟨(by decide : 0 ≤ sizeLine), fun l0 hl0 => ⟨(by decide : 1 ≤ sizeLine), fun l1 hl1 => ?_⟩⟩
        have s3 : Same H2 (upd (upd H2 l0 (.lst [])) l1 (.lst [V.ref l0])) := (Same.new hl0).trans (Same.new hl1)
        have lie0 : Lie (upd (upd H2 l0 (.lst [])) l1 (.lst [V.ref l0])) [l0] (choices 0 (frees t ks)) := by
          rw [ch0]
          refine ⟨?_, trivial⟩
          rw [upd_ne (ne_of_none upd_same hl1), upd_same]
          rfl
        refine ⟨fun m σ H' => ∃ (k : Nat) (p : Addr) (as : List Addr) (v6 : Option V), m = (frees t ks).length + 1 - k ∧ k ≤ (frees t ks).length + 1 ∧ σ = [some (.int (t.cols : Int)), some (.ref a), some (.ref b), some (.int (wd : Int)), some (.ref D), some (.ref p), v6, none, none] ∧ Same H2 H' ∧ H' p = some (.lst (as.map V.ref)) ∧ Lie H' as (choices k (frees t ks)) ∧ ∀ i, i < k → ∀ d ∈ choices i (frees t ks), safeC t ks wd d = false,
          ⟨_, 0, l1, [l0], none, rfl, Nat.zero_le _, rfl, s3, upd_same, lie0, fun i hi => absurd hi (Nat.not_lt_zero _)⟩, ?_⟩
        rintro m σ H3 ⟨k, p, as, v6, rfl, hk, rfl, s4, hp, lie, hno⟩
        have s13 : Same H H3 := (s1.trans s2).trans s4
        have lenA := lie.len
        refine ⟨_, rfl, !(as.map V.ref).isEmpty, .inl ⟨_, SqL.of hp, rfl⟩, ?_⟩
        by_cases hemp : as = []
        · exfalso
          have hk1 : k = (frees t ks).length + 1 ∨ k ≤ (frees t ks).length := by omega
          rcases hk1 with hk1 | hk1
          · have := hno (frees t ks).length (by omega) (frees t ks) (by rw [choices_all]; exact List.mem_singleton.mpr rfl)
            rw [hs] at this
            cases this
          · rw [hemp] at lenA
            have := choices_pos k (frees t ks) hk1
            rw [← lenA] at this
            exact Nat.lt_irrefl _ this
        · have e0 : (as.map V.ref).isEmpty = false := by
            cases as with
            | nil => exact absurd rfl hemp
            | cons _ _ => rfl
          rw [e0]
          refine iteT ⟨fun σ' H' => _, fun σ' H' h => h, ?_⟩
          have mem : ∀ {d : List Nat}, d ∈ choices k (frees t ks) → (∀ x ∈ d, x < t.rows * t.cols) ∧ d.length ≤ 12 := fun {d} hd => by
            obtain ⟨h1, _⟩ := mem_choices hd
            have := sub_len (free_nd t ks) h1
            exact ⟨fun x hx => fl x (subs_sub h1 x hx), by omega⟩
          refine ⟨_, rfl, p, rfl, ⟨_, SqL.of hp⟩, for_list (K := K) (a := p) (xs := as.map V.ref) (fun i σ H' => ∃ v6 : Option V, σ = [some (.int (t.cols : Int)), some (.ref a), some (.ref b), some (.int (wd : Int)), some (.ref D), some (.ref p), v6, none, none] ∧ Same H3 H' ∧ ∀ d ∈ (choices k (frees t ks)).take i, safeC t ks wd d = false)
            ⟨v6, rfl, Same.refl _, fun d hd => by simp at hd⟩ (fun i σ H' _ ⟨_, _, s5, _⟩ => s5.seq (SqL.of hp)) ?_ ?_⟩
          · rintro i x σ H4 hx ⟨v6, rfl, s5, hn⟩
            obtain ⟨aj, s, rfl, hsi, haj⟩ := lie.at hx
            obtain ⟨hsx, _⟩ := mem (List.mem_of_getElem? hsi)
            refine ⟨_, rfl, _, rfl, _, rfl, _, rfl, _, rfl, t, ks, s, wd, a, b, aj, rfl, ok, (s13.trans s5).seq ha, (s13.trans s5).seq hb, SqL.of (s5 _ _ haj), hsx, fun H5 s6 => ⟨_, rfl, ?_⟩⟩
            by_cases hss : safeC t ks wd s = true
            · rw [hss]
              refine iteT ⟨_, rfl, ?_⟩
              exact k1 H5 aj s ((s13.trans s5).trans s6) (more_some kl hno (find_at hsi hn hss)) (s6 _ _ (s5 _ _ haj))
            · have hss' : safeC t ks wd s = false := by simpa using hss
              rw [hss']
              refine iteF ⟨_, rfl, s5.trans s6, fun d hd => ?_⟩
              rw [take_more hsi] at hd
              rcases List.mem_append.mp hd with hd | hd
              · exact hn d hd
              · rw [List.mem_singleton.mp hd]
                exact hss'
          · rintro σ H4 ⟨v6, rfl, s5, hn⟩
            rw [List.length_map, lenA, List.take_length] at hn
            have clen := choices_len k (frees t ks)
            have c4096 : (choices k (frees t ks)).length ≤ 4096 := Nat.le_trans clen (Nat.pow_le_pow_right (n := 2) (j := 12) (by omega) (by omega))
            refine ⟨_, rfl, _, rfl, p, D, as, choices k (frees t ks), frees t ks, rfl, SqL.of (s5 _ _ hp), lie.mono s5, SqL.of (s5 _ _ (s4 _ _ (s2 _ _ hD1))), by omega, c4096, fun s hs => (mem hs).2, fun H5 p' bs s6 hp' lie' => ?_⟩
            have hk2 : k ≤ (frees t ks).length := by
              refine Classical.byContradiction fun z => ?_
              have hk1 : k = (frees t ks).length + 1 := by omega
              have := hno (frees t ks).length (by omega) (frees t ks) (by rw [choices_all]; exact List.mem_singleton.mpr rfl)
              rw [hs] at this
              cases this
            rw [choices_up k _ (free_pw t ks)] at lie'
            refine ⟨_, by omega, k + 1, p', bs, _, rfl, by omega, rfl, (s4.trans s5).trans s6, hp', lie', fun i hi d hd => ?_⟩
            by_cases z : i = k
            · subst z
              exact hn d hd
            · exact hno i (by omega) d hd
      · have hs' : safeC t ks wd (frees t ks) = false := by simpa using hs
        rw [hs']
        refine iteT ?_
        exact k0 H2 (s1.trans s2) (more_none kl hs')
end
end CK
namespace CK
open PySem PySem.Spec PyProof.Rows L2 So02
/-! ### the first table, cell by cell: the order, what is settled -/
def ordr (t : Table) (ks : List Bool) (e : Nat) : List Nat := e :: but (hid t ks) e
def tkn (t : Table) (ks : List Bool) (e k p : Nat) : Bool := ((ordr t ks e).take k).contains p
def usK (t : Table) (ks : List Bool) (e k : Nat) : List Bool := (List.range (t.rows * t.cols)).map fun p => ks.getD p false && !tkn t ks e k p
def fdK (t : Table) (ks : List Bool) (e : Nat) (x : Nat → Nat) (k : Nat) : List Nat := (List.range (t.rows * t.cols)).map fun p => if tkn t ks e k p = true then x p else num t p
def made' (t : Table) (ks : List Bool) (x : Nat → Nat) : List Nat := (List.range (t.rows * t.cols)).map fun p => if ks.getD p false = true then x p else num t p
def tX (t : Table) (ks : List Bool) (x : Nat → Nat) : Table := { t with nums := made' t ks x }
/-- x is the first filling that has v at e -/
structure Fst (t : Table) (ks : List Bool) (e v : Nat) (x : Nat → Nat) : Prop where
  fil : Filt t (hid t ks) (rowLeft t (hid t ks)) (colLeft t (hid t ks)) x
  at_ : x e = v
  min : ∀ y, Filt t (hid t ks) (rowLeft t (hid t ks)) (colLeft t (hid t ks)) y → y e = v → lexLe ((hid t ks).map x) ((hid t ks).map y)
theorem range_getD {α : Type} {n p : Nat} {f : Nat → α} {d : α} (h : p < n) : ((List.range n).map f).getD p d = f p := by
  rw [List.getD_eq_getElem?_getD, List.getElem?_map, List.getElem?_range h]
  rfl
theorem range_set {α : Type} {n k : Nat} {f g : Nat → α} {v : α} (hv : v = g k) (hne : ∀ i, i < n → i ≠ k → f i = g i) : ((List.range n).map f).set k v = (List.range n).map g := by
  refine List.ext_getElem? fun i => ?_
  rw [List.getElem?_set, List.getElem?_map, List.getElem?_map]
  by_cases hi : i < n
  · rw [List.getElem?_range hi]
    by_cases z : k = i
    · subst z
      rw [if_pos rfl, if_pos (by rw [List.length_map, List.length_range]; exact hi), hv]
      rfl
    · rw [if_neg z]
      show some (f i) = some (g i)
      rw [hne i hi fun q => z q.symm]
  · have e : (List.range n)[i]? = none := List.getElem?_eq_none (by rw [List.length_range]; omega)
    rw [e]
    by_cases z : k = i
    · rw [if_pos z, if_neg (by rw [List.length_map, List.length_range]; omega)]
      rfl
    · rw [if_neg z]
      rfl
theorem not_taken {o : Nat} : ∀ {l : List Nat} {k : Nat}, l.Nodup → l[k]? = some o → o ∉ l.take k
  | [], _, _, h => by simp at h
  | x :: l, 0, _, _ => by simp
  | x :: l, k + 1, nd, h => by
    rw [List.take_succ_cons]
    intro z
    rcases List.mem_cons.mp z with z | z
    · have : o ∈ l := List.mem_of_getElem? (i := k) h
      exact (List.nodup_cons.mp nd).1 (z ▸ this)
    · exact not_taken (k := k) (List.nodup_cons.mp nd).2 h z
section
variable {t : Table} {ks : List Bool} {e v : Nat} {x : Nat → Nat}
theorem ordr_nd : (ordr t ks e).Nodup := List.nodup_cons.mpr ⟨fun z => (mem_but.mp z).2 rfl, nodup_but (nodup_hid t ks) e⟩
theorem mem_ordr (he : e ∈ hid t ks) {p : Nat} : p ∈ ordr t ks e ↔ p ∈ hid t ks := by
  unfold ordr
  rw [List.mem_cons, mem_but]
  constructor
  · rintro (z | z)
    · rw [z]; exact he
    · exact z.1
  · intro z
    by_cases w : p = e
    · exact .inl w
    · exact .inr ⟨z, w⟩
theorem tkn_succ {k o : Nat} (h : (ordr t ks e)[k]? = some o) (p : Nat) : tkn t ks e (k + 1) p = (tkn t ks e k p || p == o) := by
  unfold tkn
  rw [take_more h, Bool.eq_iff_iff, List.contains_iff_mem, List.mem_append, Bool.or_eq_true, List.contains_iff_mem, List.mem_singleton, beq_iff_eq]
theorem us_at {k p : Nat} (h : p < t.rows * t.cols) : (usK t ks e k).getD p false = (ks.getD p false && !tkn t ks e k p) := range_getD h
theorem hid_us (k : Nat) : hid (tX t ks x) (usK t ks e k) = (cells (tX t ks x)).filter fun p => ks.getD p false && !tkn t ks e k p := by
  show (List.range _).filter _ = (List.range _).filter _
  exact List.filter_congr fun p hp => us_at (List.mem_range.mp hp)
theorem us_set {k o : Nat} (h : (ordr t ks e)[k]? = some o) : (usK t ks e k).set o false = usK t ks e (k + 1) := by
  refine range_set ?_ fun i _ hi => ?_
  · rw [tkn_succ h]; simp
  · have : (i == o) = false := by simpa using hi
    rw [tkn_succ h, this, Bool.or_false]
theorem fd_set {k o : Nat} (h : (ordr t ks e)[k]? = some o) : (fdK t ks e x k).set o (x o) = fdK t ks e x (k + 1) := by
  refine range_set ?_ fun i _ hi => ?_
  · rw [tkn_succ h]; simp
  · have : (i == o) = false := by simpa using hi
    rw [tkn_succ h, this, Bool.or_false]
theorem us_zero (hk : ks.length = t.rows * t.cols) : usK t ks e 0 = ks := by
  refine List.ext_getElem? fun i => ?_
  unfold usK
  rw [List.getElem?_map]
  by_cases h : i < t.rows * t.cols
  · rw [List.getElem?_range h, List.getElem?_eq_getElem (by omega)]
    show some (ks.getD i false && !tkn t ks e 0 i) = _
    have : tkn t ks e 0 i = false := rfl
    rw [this, List.getD_eq_getElem?_getD, List.getElem?_eq_getElem (by omega)]
    simp
  · rw [List.getElem?_eq_none (by rw [List.length_range]; omega), List.getElem?_eq_none (by omega)]
    rfl
theorem fd_zero (hn : t.nums.length = t.rows * t.cols) : fdK t ks e x 0 = t.nums := by
  refine List.ext_getElem? fun i => ?_
  unfold fdK
  rw [List.getElem?_map]
  by_cases h : i < t.rows * t.cols
  · rw [List.getElem?_range h, List.getElem?_eq_getElem (by omega)]
    show some (if tkn t ks e 0 i = true then x i else num t i) = _
    have : tkn t ks e 0 i = false := rfl
    rw [this, if_neg Bool.false_ne_true]
    unfold num
    rw [List.getD_eq_getElem?_getD, List.getElem?_eq_getElem (by omega)]
    rfl
  · rw [List.getElem?_eq_none (by rw [List.length_range]; omega), List.getElem?_eq_none (by omega)]
    rfl
theorem fd_all (he : e ∈ hid t ks) : fdK t ks e x (ordr t ks e).length = made' t ks x := by
  refine List.map_congr_left fun p hp => ?_
  have hp := List.mem_range.mp hp
  have : tkn t ks e (ordr t ks e).length p = ks.getD p false := by
    unfold tkn
    rw [List.take_length, Bool.eq_iff_iff, List.contains_iff_mem, mem_ordr he, mem_hid]
    exact ⟨fun z => z.2, fun z => ⟨hp, z⟩⟩
  rw [this]
theorem num_tX {p : Nat} (h : p ∈ hid t ks) : num (tX t ks x) p = x p := by
  obtain ⟨h1, h2⟩ := mem_hid.mp h
  show (made' t ks x).getD p 0 = _
  unfold made'
  rw [range_getD h1, if_pos h2]
theorem row_start (F : Fst t ks e v x) (hk : ks.length = t.rows * t.cols) : (List.range t.rows).map (rowLeft t (hid t ks)) = (List.range t.rows).map (rowLeft (tX t ks x) (hid (tX t ks x) (usK t ks e 0))) := by
  rw [us_zero hk]
  refine List.map_congr_left fun i hi => ?_
  show _ = rs (rowOf t) (hid t ks) (num (tX t ks x)) i
  rw [rs_congr (fun p hp => num_tX hp) i, F.fil.row i (List.mem_range.mp hi)]
theorem col_start (F : Fst t ks e v x) (hk : ks.length = t.rows * t.cols) : (List.range t.cols).map (colLeft t (hid t ks)) = (List.range t.cols).map (colLeft (tX t ks x) (hid (tX t ks x) (usK t ks e 0))) := by
  rw [us_zero hk]
  refine List.map_congr_left fun i hi => ?_
  show _ = rs (colOf t) (hid t ks) (num (tX t ks x)) i
  rw [rs_congr (fun p hp => num_tX hp) i, F.fil.col i (List.mem_range.mp hi)]
theorem o_in {k o : Nat} (he : e ∈ hid t ks) (h : (ordr t ks e)[k]? = some o) : o ∈ hid t ks := (mem_ordr he).mp (List.mem_of_getElem? h)
theorem o_out {k o : Nat} (h : (ordr t ks e)[k]? = some o) : tkn t ks e k o = false := by
  have := not_taken ordr_nd h
  unfold tkn
  cases z : ((ordr t ks e).take k).contains o with
  | false => rfl
  | true => exact absurd (List.contains_iff_mem.mp z) this
theorem o_us {k o : Nat} (he : e ∈ hid t ks) (h : (ordr t ks e)[k]? = some o) : o ∈ hid (tX t ks x) (usK t ks e k) := by
  obtain ⟨h1, h2⟩ := mem_hid.mp (o_in he h)
  refine mem_hid.mpr ⟨h1, ?_⟩
  rw [us_at h1, h2, o_out h]
  rfl
theorem but_us {k o : Nat} (h : (ordr t ks e)[k]? = some o) : but (hid (tX t ks x) (usK t ks e k)) o = hid (tX t ks x) (usK t ks e (k + 1)) := by
  rw [hid_us, hid_us]
  unfold but
  rw [List.filter_filter]
  refine List.filter_congr fun p _ => ?_
  rw [tkn_succ h]
  show ((p != o) && (ks.getD p false && !tkn t ks e k p)) = _
  cases ks.getD p false <;> cases tkn t ks e k p <;> cases z : (p == o) <;> simp [bne, z]
theorem rs_step {f : Nat → Nat} {k o : Nat} (he : e ∈ hid t ks) (h : (ordr t ks e)[k]? = some o) (i : Nat) :
    rs f (hid (tX t ks x) (usK t ks e k)) (num (tX t ks x)) i = (if f o = i then x o else 0) + rs f (hid (tX t ks x) (usK t ks e (k + 1))) (num (tX t ks x)) i := by
  rw [rs_but (nodup_hid _ _) (o_us he h) i, but_us h, num_tX (o_in he h)]
theorem least_is {k o : Nat} (F : Fst t ks e v x) (he : e ∈ hid t ks) (hk : 1 ≤ k) (h : (ordr t ks e)[k]? = some o) : least (tX t ks x) (hid (tX t ks x) (usK t ks e k)) o = x o := by
  rw [hid_us]
  obtain ⟨j, rfl⟩ : ∃ j, k = j + 1 := ⟨k - 1, by omega⟩
  have hin := o_in he h
  refine greedy (t := t) (t' := tX t ks x) (Q := fun p => ks.getD p false) (e := e) (v := v) rfl rfl (fun p hp => num_tX hp) F.fil F.at_ F.min (fun p hp => ?_) he ?_ ?_ fun p hp lt => ?_
  · rw [Bool.and_eq_true] at hp
    exact hp.1
  · have : tkn t ks e (j + 1) e = true := List.contains_iff_mem.mpr List.mem_cons_self
    show (_ && !tkn t ks e (j + 1) e) = false
    rw [this]
    simp
  · refine List.mem_filter.mpr ⟨(List.mem_filter.mp hin).1, ?_⟩
    show (ks.getD o false && !tkn t ks e (j + 1) o) = true
    rw [o_out h, (mem_hid.mp hin).2]
    rfl
  · have : tkn t ks e (j + 1) p = true := by
      refine List.contains_iff_mem.mpr ?_
      show p ∈ (e :: but (hid t ks) e).take (j + 1)
      rw [List.take_succ_cons]
      by_cases w : p = e
      · rw [w]; exact List.mem_cons_self
      · refine List.mem_cons_of_mem _ (before (o := o) ?_ h (mem_but.mpr ⟨hp, w⟩) lt)
        exact List.Pairwise.filter _ (List.Pairwise.filter _ List.pairwise_lt_range)
    show (_ && !tkn t ks e (j + 1) p) = false
    rw [this]
    simp
end
theorem nv_set {l : List Nat} {k v : Nat} : (nv l).set k (.int (v : Int)) = nv (l.set k v) := by
  unfold nv
  rw [List.map_set]
abbrev sFirst : Stmt := top 12
def spFirst (K : PySem.W.Frag) : Sp := fun vs H Q _ => ∃ (t : Table) (ks : List Bool) (e v : Nat) (x : Nat → Nat) (a b : Addr), vs = [.int (t.cols : Int), .ref a, .ref b, .int (e : Int), .int (v : Int)] ∧ Ok t ks ∧ SqL K H a (nv t.nums) ∧ SqL K H b (ks.map V.bl) ∧ e ∈ hid t ks ∧ Fst t ks e v x ∧
  ∀ (H' : Hp) (p : Addr), Same H H' → H p = none → H' p = some (.lst (nv (made' t ks x))) → Q (.ref p) H'
section
variable {P : Program} {w : World} {K : PySem.W.Frag} {mg : Str → Option Value} {base : Heap}
abbrev nmFi : List Str := ["columns", "numbers", "kept", "place", "v", "rows_left", "columns_left", "unsettled", "found", "other", "number", "each"]
theorem scFi : FnScope nmFi ["columns", "numbers", "kept", "place", "v"] (defScope sFirst) := ⟨rfl, rfl, rfl, by decide +kernel, rfl, by decide +kernel, by decide +kernel⟩
theorem ok_firstT {f fR fC fB : Addr} {fd dR dC dB : FuncData} (F : Fun K "first_table" "first_table" sFirst f fd) (B : Blt mg)
    (R : Def P w K mg base "left_in_rows" 1 ["columns", "numbers", "kept"] (spLeftR K) fR dR) (C : Def P w K mg base "left_in_columns" 1 ["columns", "numbers", "kept"] (spLeftC K) fC dC)
    (G : Def P w K mg base "range_by_left" 2 ["rows_left", "columns_left", "kept", "place"] (spByLeft K) fB dB) :
    FnOk P w K mg base CX0 3 f fd ["columns", "numbers", "kept", "place", "v"] (spFirst K) := by
  refine F.ok scFi (fun vs H Q E h => ?_) (fun cdv A outer st H vs Q E hr h => ?_)
  · obtain ⟨t, ks, e, v, x, a, b, rfl, _⟩ := h
    rfl
  · obtain ⟨t, ks, e, v, x, a, b, rfl, ok, ha, hb, he, fst, k⟩ := h
    refine ⟨_, pss_cons (ps_set (i := 5) scFi.nd rfl (Or.inl rfl) (pe_call R.ok (hr.mono (by decide)) (by rfl) R.mg R.kp R.b .nil pass0 (pa_cons (pv 0) (pa_cons (pv 1) (pa_cons (pv 2) pa_nil)))))
      (pss_cons (ps_set (i := 6) scFi.nd rfl (Or.inl rfl) (pe_call C.ok (hr.mono (by decide)) (by rfl) C.mg C.kp C.b .nil pass0 (pa_cons (pv 0) (pa_cons (pv 1) (pa_cons (pv 2) pa_nil)))))
      (pss_cons (ps_set (i := 7) scFi.nd rfl (Or.inl rfl) (pe_callTy call_list_of (by rfl) B.list (by decide +kernel) (pa_cons (pv 2) pa_nil)))
      (pss_cons (ps_set (i := 8) scFi.nd rfl (Or.inl rfl) (pe_callTy call_list_of (by rfl) B.list (by decide +kernel) (pa_cons (pv 1) pa_nil)))
      (pss_cons (ps_for PassesOwn.never rfl (pi_list (pe_op op_cat (pe_lst (pa_cons (pv 3) pa_nil))
          (pe_lc (own := [("each", 11)]) (g := gName 11) (tt := tAnd (tB (tOp (rIxL K) (tVar 2) (tVar 11))) (tTest (tOp rNe (tVar 11) (tVar 3)))) (te := tVar 11) rfl scFi.nd (pi_range1 rfl B.range (pa_cons (pe_callB call_len_seq (by rfl) B.len PySem.boot_len (pa_cons (pv 1) pa_nil)) pa_nil)) (blkOk_by (N := nmFi) (sc := defScope sFirst) (by decide +kernel))
            (fun _ _ _ _ _ => pg_name (i := 11) scFi.nd rfl (Or.inl rfl)) (fun _ _ _ _ _ => pts_one (PW.pt (pw_and (pt_val (pe_ix ix_list (pv 2) (pv 11) (fun _ _ => rfl))) (pw_and1 (pt_cmpR op_ne (pv 11) (pv 3) (nomark _)))))) (fun _ _ _ _ _ => pv 11)))) (pg_name (i := 9) scFi.nd rfl (Or.inl rfl))
        (pss_cons (ps_set (i := 10) scFi.nd rfl (Or.inl rfl) (pv 4))
        (pss_cons (ps_if (pt_cmpR op_ne (pv 9) (pv 3) (nomark _)) (pss_one (ps_set (i := 10) scFi.nd rfl (Or.inl rfl) (pe_ix ix_tup (pe_call G.ok hr (by rfl) G.mg G.kp G.b .nil pass0 (pa_cons (pv 5) (pa_cons (pv 6) (pa_cons (pv 7) (pa_cons (pv 9) pa_nil))))) pe_int (fun _ _ => rfl)))) pss_nil)
        (pss_cons (ps_asg (pv 10) (pg_sub (pv 8) (pv 9) set_list))
        (pss_cons (ps_asg pe_bl (pg_sub (pv 7) (pv 9) set_list))
        (pss_cons (ps_augS (pv 5) (pe_op op_divU (pv 9) (pv 0)) get_list (pv 10) ip_sub set_list)
        (pss_one (ps_augS (pv 6) (pe_op op_modU (pv 9) (pv 0)) get_list (pv 10) ip_sub set_list))))))))
      (pss_one (ps_ret (pv 8))))))), ?_⟩
    have c1 := ok.c1
    have c4 := ok.c4
    have r3 := ok.r3
    have n12 := ok.n12
    have kl := ok.kl
    refine ⟨_, rfl, _, rfl, _, rfl, t, ks, a, b, rfl, ok, ha, hb, fun H1 pR s1 nR hR => ?_⟩
    refine ⟨_, rfl, _, rfl, _, rfl, t, ks, a, b, rfl, ok, s1.seq ha, s1.seq hb, fun H2 pC s2 nC hC => ?_⟩
    have s02 : Same H H2 := s1.trans s2
    refine ⟨_, rfl, b, _, rfl, .inl (s02.seq hb), fun pU hpU => ?_⟩
    have s3 : Same H2 (upd H2 pU (.lst (ks.map V.bl))) := Same.new hpU
    refine ⟨_, rfl, a, _, rfl, .inl ((s02.trans s3).seq ha), fun pF hpF => ?_⟩
    have s4 : Same (upd H2 pU (.lst (ks.map V.bl))) (upd (upd H2 pU (.lst (ks.map V.bl))) pF (.lst (nv t.nums))) := Same.new hpF
    have hU4 : upd (upd H2 pU (.lst (ks.map V.bl))) pF (.lst (nv t.nums)) pU = some (.lst (ks.map V.bl)) := s4 _ _ upd_same
    have hF4 : upd (upd H2 pU (.lst (ks.map V.bl))) pF (.lst (nv t.nums)) pF = some (.lst (nv t.nums)) := upd_same
    have s04 : Same H (upd (upd H2 pU (.lst (ks.map V.bl))) pF (.lst (nv t.nums))) := (s02.trans s3).trans s4
    have hR4 := s4 _ _ (s3 _ _ (s2 _ _ hR))
    have hC4 := s4 _ _ (s3 _ _ hC)
    have nFH : H pF = none := (s02.trans s3).free hpF
    have nUH : H pU = none := s02.free hpU
    have nCH : H pC = none := s1.free nC
    have ne1 : pR ≠ pC := ne_of_none hR nC
    have ne2 : pR ≠ pU := ne_of_none (s2 _ _ hR) hpU
    have ne3 : pR ≠ pF := ne_of_none (s3 _ _ (s2 _ _ hR)) hpF
    have ne4 : pC ≠ pU := ne_of_none hC hpU
    have ne5 : pC ≠ pF := ne_of_none (s3 _ _ hC) hpF
    have ne6 : pU ≠ pF := ne_of_none upd_same hpF
    generalize upd (upd H2 pU (.lst (ks.map V.bl))) pF (.lst (nv t.nums)) = H4 at s04 hR4 hC4 hU4 hF4 ⊢
    refine ⟨_, rfl, (by decide : 1 ≤ sizeLine), fun l0 hl0 => ?_⟩
    have s5 : Same H4 (upd H4 l0 (.lst [V.int (e : Int)])) := Same.new hl0
    refine ⟨_, rfl, a, _, rfl, .inl ((s04.trans s5).seq ha), (((nv t.nums).length : Nat) : Int), rfl, by omega, by rw [nv_len, ok.len]; omega, fun D hD => ?_⟩
    have toN : ((((nv t.nums).length : Nat) : Int)).toNat = t.rows * t.cols := by rw [nv_len, ok.len]; omega
    refine lc_range (lo := 0) (n := ((((nv t.nums).length : Nat) : Int)).toNat) (fun i H' => Same (upd H4 l0 (.lst [V.int (e : Int)])) H' ∧ H' D = some (.lst (nv (but (upTo ks i) e)))) ⟨Same.new hD, upd_same⟩ ?_ ?_
    · rintro i H5 hi ⟨s6, hD5⟩
      rw [toN] at hi
      have sH5 : Same H H5 := (s04.trans s5).trans s6
      have e0 : (0 : Int) + (i : Int) = (i : Int) := Int.zero_add _
      refine ⟨wipe1, ?_⟩
      refine ⟨_, rfl, _, rfl, b, _, _, _, rfl, congrArg V.int e0, sH5.seq hb, atI_nat (bl_at (by rw [kl]; exact hi)), _, rfl, ?_⟩
      have em : ∀ l : List Nat, but (upTo ks i ++ l) e = but (upTo ks i) e ++ but l e := fun l => by unfold but; rw [List.filter_append]
      by_cases kk : ks.getD i false = true
      · rw [kk]
        refine iteT ⟨_, rfl, _, rfl, rfl, _, rfl, ?_⟩
        show if (!decide (V.int ((0 : Int) + (i : Int)) = V.int (e : Int))) = true then _ else _
        rw [e0, int_ne]
        by_cases ne : (i != e) = true
        · rw [ne]
          refine iteT ⟨_, rfl, _, hD5, ?_, Same.put hD s6, ?_⟩
          · rw [nv_len]
            refine Nat.lt_of_le_of_lt (List.length_filter_le _ _) (Nat.lt_of_le_of_lt (List.length_filter_le _ _) ?_)
            rw [List.length_range]
            exact Nat.lt_of_lt_of_le (show i < 100000 by omega) (small_size (Nat.le_refl _))
          · rw [upd_same, upTo_succ, if_pos kk, em]
            have : but [i] e = [i] := by unfold but; rw [List.filter_cons, ne, if_pos rfl]; rfl
            rw [this]
            unfold nv
            rw [List.map_append]
            rfl
        · have ne' : (i != e) = false := by simpa using ne
          rw [ne']
          refine iteF ⟨s6, ?_⟩
          rw [upTo_succ, if_pos kk, em]
          have : but [i] e = [] := by unfold but; rw [List.filter_cons, ne', if_neg Bool.false_ne_true]; rfl
          rw [this, List.append_nil]
          exact hD5
      · have kk' : ks.getD i false = false := by simpa using kk
        rw [kk']
        refine iteF (iteF ⟨s6, ?_⟩)
        rw [upTo_out kk']
        exact hD5
    · rintro H5 ⟨s6, hD5⟩
      rw [toN] at hD5
      have hl5 := s6 _ _ (upd_same (H := H4) (a := l0) (o := .lst [V.int (e : Int)]))
      have lb : (but (upTo ks (t.rows * t.cols)) e).length ≤ 12 := by
        refine Nat.le_trans (List.length_filter_le _ _) (Nat.le_trans (List.length_filter_le _ _) ?_)
        rw [List.length_range]
        exact n12
      refine ⟨l0, D, _, _, rfl, rfl, hl5, hD5, small_size (by rw [nv_len]; show 1 + _ ≤ 100000; omega), fun pO hpO => ?_⟩
      have eO : [V.int (e : Int)] ++ nv (but (upTo ks (t.rows * t.cols)) e) = nv (ordr t ks e) := rfl
      rw [eO]
      have s7 : Same H5 (upd H5 pO (.lst (nv (ordr t ks e)))) := Same.new hpO
      have s47 := (s5.trans s6).trans s7
      have hO7 : upd H5 pO (.lst (nv (ordr t ks e))) pO = some (.lst (nv (ordr t ks e))) := upd_same
      have nOR : pR ≠ pO := ne_of_none ((s5.trans s6) _ _ hR4) hpO
      have nOC : pC ≠ pO := ne_of_none ((s5.trans s6) _ _ hC4) hpO
      have nOU : pU ≠ pO := ne_of_none ((s5.trans s6) _ _ hU4) hpO
      have nOF : pF ≠ pO := ne_of_none ((s5.trans s6) _ _ hF4) hpO
      generalize upd H5 pO (.lst (nv (ordr t ks e))) = H7 at s7 s47 hO7 ⊢
      have okX : ∀ k, Ok (tX t ks x) (usK t ks e k) := fun k => ⟨ok.r1, ok.r3, ok.c1, ok.c4, by show (made' t ks x).length = _; unfold made'; rw [List.length_map, List.length_range]; rfl, by unfold usK; rw [List.length_map, List.length_range]; rfl⟩
      refine ⟨pO, rfl, ⟨_, SqL.of hO7⟩, for_list (K := K) (a := pO) (xs := nv (ordr t ks e)) (fun k σ H' => ∃ v9 v10 : Option V, σ = [some (.int (t.cols : Int)), some (.ref a), some (.ref b), some (.int (e : Int)), some (.int (v : Int)), some (.ref pR), some (.ref pC), some (.ref pU), some (.ref pF), v9, v10, none] ∧ Same H H' ∧ H' pO = some (.lst (nv (ordr t ks e))) ∧
          H' pR = some (.lst (nv ((List.range t.rows).map (rowLeft (tX t ks x) (hid (tX t ks x) (usK t ks e k)))))) ∧ H' pC = some (.lst (nv ((List.range t.cols).map (colLeft (tX t ks x) (hid (tX t ks x) (usK t ks e k)))))) ∧ H' pU = some (.lst ((usK t ks e k).map V.bl)) ∧ H' pF = some (.lst (nv (fdK t ks e x k))))
        ⟨none, none, rfl, s04.trans s47, hO7, by rw [s47 _ _ hR4, row_start fst kl], by rw [s47 _ _ hC4, col_start fst kl], by rw [s47 _ _ hU4, us_zero kl], by rw [s47 _ _ hF4, fd_zero ok.len]⟩ (fun k σ H' _ ⟨_, _, _, _, h, _⟩ => SqL.of h) ?_ ?_⟩
      · rintro i y σ H8 hy ⟨v9, v10, rfl, s8, hO, hR8, hC8, hU8, hF8⟩
        obtain ⟨hi, rfl⟩ := nv_get hy
        have hoi : (ordr t ks e)[i]? = some ((ordr t ks e).getD i 0) := by
          rw [List.getD_eq_getElem?_getD, List.getElem?_eq_getElem hi]
          rfl
        generalize (ordr t ks e).getD i 0 = o at hoi
        have hin := o_in he hoi
        have hlt := (mem_hid.mp hin).1
        have hrow : o / t.cols < t.rows := (Nat.div_lt_iff_lt_mul ok.c1).mpr hlt
        have hcol : o % t.cols < t.cols := Nat.mod_lt _ ok.c1
        -- the stores, once the number is x o
        have store : ∀ (H9 H' : Hp), H' = (upd (upd (upd (upd H9 pF (.lst ((nv (fdK t ks e x i)).set o (.int (x o : Int))))) pU (.lst (((usK t ks e i).map V.bl).set o (.bl false)))) pR (.lst ((nv ((List.range t.rows).map (rowLeft (tX t ks x) (hid (tX t ks x) (usK t ks e i))))).set (o / t.cols) (.int ((rowLeft (tX t ks x) (hid (tX t ks x) (usK t ks e i)) (o / t.cols) : Int) - (x o : Int)))))) pC (.lst ((nv ((List.range t.cols).map (colLeft (tX t ks x) (hid (tX t ks x) (usK t ks e i))))).set (o % t.cols) (.int ((colLeft (tX t ks x) (hid (tX t ks x) (usK t ks e i)) (o % t.cols) : Int) - (x o : Int)))))) → Same H8 H9 → Same H H' ∧ H' pO = some (.lst (nv (ordr t ks e))) ∧ H' pR = some (.lst (nv ((List.range t.rows).map (rowLeft (tX t ks x) (hid (tX t ks x) (usK t ks e (i + 1))))))) ∧ H' pC = some (.lst (nv ((List.range t.cols).map (colLeft (tX t ks x) (hid (tX t ks x) (usK t ks e (i + 1))))))) ∧ H' pU = some (.lst ((usK t ks e (i + 1)).map V.bl)) ∧ H' pF = some (.lst (nv (fdK t ks e x (i + 1)))) := by
          rintro H9 H' rfl s9
          refine ⟨Same.put nCH (Same.put nR (Same.put nUH (Same.put nFH (s8.trans s9)))), ?_, ?_, ?_, ?_, ?_⟩
          · rw [upd_ne nOC.symm, upd_ne nOR.symm, upd_ne nOU.symm, upd_ne nOF.symm]
            exact s9 _ _ hO
          · rw [upd_ne ne1, upd_same]
            have hstep := rs_step (f := rowOf (tX t ks x)) (x := x) he hoi
            have eR : ∀ q, rowLeft (tX t ks x) (hid (tX t ks x) (usK t ks e i)) q = (if rowOf (tX t ks x) o = q then x o else 0) + rowLeft (tX t ks x) (hid (tX t ks x) (usK t ks e (i + 1))) q := hstep
            refine congrArg (fun l => some (HO.lst l)) (map_range_set ?_ fun q _ hq => ?_)
            · have := eR (o / t.cols)
              rw [if_pos (show rowOf (tX t ks x) o = o / t.cols from rfl)] at this
              rw [this]
              refine congrArg V.int ?_
              omega
            · rw [eR q, if_neg (fun z => hq z.symm), Nat.zero_add]
          · rw [upd_same]
            have hstep := rs_step (f := colOf (tX t ks x)) (x := x) he hoi
            have eR : ∀ q, colLeft (tX t ks x) (hid (tX t ks x) (usK t ks e i)) q = (if colOf (tX t ks x) o = q then x o else 0) + colLeft (tX t ks x) (hid (tX t ks x) (usK t ks e (i + 1))) q := hstep
            refine congrArg (fun l => some (HO.lst l)) (map_range_set ?_ fun q _ hq => ?_)
            · have := eR (o % t.cols)
              rw [if_pos (show colOf (tX t ks x) o = o % t.cols from rfl)] at this
              rw [this]
              refine congrArg V.int ?_
              omega
            · rw [eR q, if_neg (fun z => hq z.symm), Nat.zero_add]
          · rw [upd_ne ne4.symm, upd_ne ne2.symm, upd_same, ← us_set hoi, List.map_set]
          · rw [upd_ne ne5.symm, upd_ne ne3.symm, upd_ne ne6.symm, upd_same, ← fd_set hoi, nv_set]
        have lF : (nv (fdK t ks e x i)).length = t.rows * t.cols := by rw [nv_len]; unfold fdK; rw [List.length_map, List.length_range]
        have lU : ((usK t ks e i).map V.bl).length = t.rows * t.cols := by rw [List.length_map]; unfold usK; rw [List.length_map, List.length_range]
        have lR : (nv ((List.range t.rows).map (rowLeft (tX t ks x) (hid (tX t ks x) (usK t ks e i))))).length = t.rows := by rw [nv_len, List.length_map, List.length_range]
        have lC : (nv ((List.range t.cols).map (colLeft (tX t ks x) (hid (tX t ks x) (usK t ks e i))))).length = t.cols := by rw [nv_len, List.length_map, List.length_range]
        refine ⟨_, rfl, _, rfl, _, rfl, rfl, _, rfl, ?_⟩
        show if (!decide (V.int (o : Int) = V.int (e : Int))) = true then _ else _
        rw [int_ne]
        by_cases z : o = e
        · have ez : (o != e) = false := by simp [z]
          rw [ez]
          refine iteF ?_
          have xv : (v : Int) = (x o : Int) := by rw [z, fst.at_]
          rw [xv]
          refine ⟨_, rfl, _, rfl, _, rfl, pF, _, _, o, rfl, rfl, hF8, ixN_nat (by rw [lF]; exact hlt), ?_⟩
          refine ⟨_, rfl, _, rfl, pU, _, _, o, rfl, rfl, by rw [upd_ne ne6]; exact hU8, ixN_nat (by rw [lU]; exact hlt), ?_⟩
          have hR9 : upd (upd H8 pF (.lst ((nv (fdK t ks e x i)).set o (.int (x o : Int))))) pU (.lst (((usK t ks e i).map V.bl).set o (.bl false))) pR = some (.lst (nv ((List.range t.rows).map (rowLeft (tX t ks x) (hid (tX t ks x) (usK t ks e i)))))) := by rw [upd_ne ne2, upd_ne ne3]; exact hR8
          refine ⟨_, rfl, _, rfl, _, rfl, o, t.cols, rfl, rfl, c1, by omega, pR, _, o / t.cols, _, rfl, rfl, SqL.of hR9, nv_at (range_at hrow), _, rfl, _, _, rfl, rfl, pR, _, _, o / t.cols, rfl, rfl, hR9, ixN_nat (by rw [lR]; exact hrow), ?_⟩
          have hC9 : upd (upd (upd H8 pF (.lst ((nv (fdK t ks e x i)).set o (.int (x o : Int))))) pU (.lst (((usK t ks e i).map V.bl).set o (.bl false)))) pR (.lst ((nv ((List.range t.rows).map (rowLeft (tX t ks x) (hid (tX t ks x) (usK t ks e i))))).set (o / t.cols) (.int ((rowLeft (tX t ks x) (hid (tX t ks x) (usK t ks e i)) (o / t.cols) : Int) - (x o : Int))))) pC = some (.lst (nv ((List.range t.cols).map (colLeft (tX t ks x) (hid (tX t ks x) (usK t ks e i)))))) := by rw [upd_ne ne1.symm, upd_ne ne4, upd_ne ne5]; exact hC8
          refine ⟨_, rfl, _, rfl, _, rfl, o, t.cols, rfl, rfl, c1, pC, _, o % t.cols, _, rfl, rfl, SqL.of hC9, nv_at (range_at hcol), _, rfl, _, _, rfl, rfl, pC, _, _, o % t.cols, rfl, rfl, hC9, ixN_nat (by rw [lC]; exact hcol), ?_⟩
          exact ⟨_, _, rfl, store H8 _ rfl (Same.refl _)⟩
        · have ez : (o != e) = true := by simpa using z
          rw [ez]
          refine iteT ?_
          have hi1 : 1 ≤ i := by
            cases i with
            | zero => exact absurd (Option.some.inj hoi).symm z
            | succ i => omega
          refine ⟨_, rfl, _, rfl, _, rfl, _, rfl, tX t ks x, usK t ks e i, o, pR, pC, pU, rfl, okX i, SqL.of hR8, SqL.of hC8, SqL.of hU8, o_us he hoi, fun H9 p s9 np hp9 => ?_⟩
          rw [least_is fst he hi1 hoi] at hp9
          refine ⟨p, _, _, _, rfl, rfl, SqT.of hp9, atI_nat (j := 0) rfl, ?_⟩
          refine ⟨_, rfl, _, rfl, _, rfl, pF, _, _, o, rfl, rfl, s9 _ _ hF8, ixN_nat (by rw [lF]; exact hlt), ?_⟩
          refine ⟨_, rfl, _, rfl, pU, _, _, o, rfl, rfl, by rw [upd_ne ne6]; exact s9 _ _ hU8, ixN_nat (by rw [lU]; exact hlt), ?_⟩
          have hR9 : upd (upd H9 pF (.lst ((nv (fdK t ks e x i)).set o (.int (x o : Int))))) pU (.lst (((usK t ks e i).map V.bl).set o (.bl false))) pR = some (.lst (nv ((List.range t.rows).map (rowLeft (tX t ks x) (hid (tX t ks x) (usK t ks e i)))))) := by rw [upd_ne ne2, upd_ne ne3]; exact s9 _ _ hR8
          refine ⟨_, rfl, _, rfl, _, rfl, o, t.cols, rfl, rfl, c1, by omega, pR, _, o / t.cols, _, rfl, rfl, SqL.of hR9, nv_at (range_at hrow), _, rfl, _, _, rfl, rfl, pR, _, _, o / t.cols, rfl, rfl, hR9, ixN_nat (by rw [lR]; exact hrow), ?_⟩
          have hC9 : upd (upd (upd H9 pF (.lst ((nv (fdK t ks e x i)).set o (.int (x o : Int))))) pU (.lst (((usK t ks e i).map V.bl).set o (.bl false)))) pR (.lst ((nv ((List.range t.rows).map (rowLeft (tX t ks x) (hid (tX t ks x) (usK t ks e i))))).set (o / t.cols) (.int ((rowLeft (tX t ks x) (hid (tX t ks x) (usK t ks e i)) (o / t.cols) : Int) - (x o : Int))))) pC = some (.lst (nv ((List.range t.cols).map (colLeft (tX t ks x) (hid (tX t ks x) (usK t ks e i)))))) := by rw [upd_ne ne1.symm, upd_ne ne4, upd_ne ne5]; exact s9 _ _ hC8
          refine ⟨_, rfl, _, rfl, _, rfl, o, t.cols, rfl, rfl, c1, pC, _, o % t.cols, _, rfl, rfl, SqL.of hC9, nv_at (range_at hcol), _, rfl, _, _, rfl, rfl, pC, _, _, o % t.cols, rfl, rfl, hC9, ixN_nat (by rw [lC]; exact hcol), ?_⟩
          exact ⟨_, _, rfl, store H9 _ rfl s9⟩
      · rintro σ H8 ⟨v9, v10, rfl, s8, hO, hR8, hC8, hU8, hF8⟩
        refine ⟨_, rfl, k H8 pF s8 nFH ?_⟩
        rw [nv_len, fd_all he] at hF8
        exact hF8
end
end CK
namespace CK
open PySem PySem.Spec PyProof.Rows L2 So02
/-! ### the rest of the text -/
abbrev sInit : Stmt := inClass sCls 0
abbrev sTable : Stmt := inClass sCls 1
abbrev sKeep : Stmt := inClass sCls 2
abbrev sTell : Stmt := inClass sCls 3
abbrev sRangeOf : Stmt := inClass sCls 4
abbrev sKnown : Stmt := inClass sCls 5
abbrev sNear : Stmt := inClass sCls 6
abbrev sMore : Stmt := inClass sCls 7
abbrev sHide : Stmt := inClass sCls 8
abbrev sShown : Stmt := inClass sCls 9
abbrev sFits : Stmt := inClass sCls 10
abbrev sFirstM : Stmt := inClass sCls 11
abbrev sSums : Stmt := inClass sCls 12
abbrev sMay : Stmt := top 40
abbrev sSumsOf : Stmt := top 41
def good (r c : Nat) (l : List Nat) : Prop := 1 ≤ r ∧ r ≤ 3 ∧ 1 ≤ c ∧ c ≤ 4 ∧ l.length = r * c ∧ ∀ x ∈ l, x ≤ 99
def spMay (K : PySem.W.Frag) : Sp := fun vs H Q _ => ∃ (b : Addr) (r c : Nat) (l : List Nat), vs = [.int (r : Int), .int (c : Int), .ref b] ∧ SqL K H b (nv l) ∧ nat32 r ∧ (good r c l → Q (.bl true) H) ∧ (¬ good r c l → Q (.bl false) H)
/-- what was there and is none of the object's own -/
def Frame (H H' : Hp) (a pn pk : Addr) : Prop := ∀ b o, H b = some o → b ≠ a → b ≠ pn → b ≠ pk → H' b = some o
def StepQ (C a pn pk : Addr) (t : Table) (ss : List Nat) (cl : Call) (H : Hp) (Q : VK) : Prop :=
  ∀ (H' : Hp) (p pn' pk' : Addr) (t' : Table) (ss' : List Nat), stS t' ss' = (So02.step (stS t ss) cl).1 → Frame H H' a pn pk → At C H' a t' ss' pn' pk' → (pn' = pn ∨ H pn' = none) → (pk' = pk ∨ H pk' = none) →
    H p = none → H' p = some (.lst ((So02.step (stS t ss) cl).2.map V.int)) → Q (.ref p) H'
/-- nothing of the object changes -/
theorem StepQ.same {C a pn pk : Addr} {t : Table} {ss : List Nat} {cl : Call} {H : Hp} {Q : VK} (q : StepQ C a pn pk t ss cl H Q) (at0 : At C H a t ss pn pk) {H' : Hp} {p : Addr} {ans : List Int} (e : So02.step (stS t ss) cl = (stS t ss, ans)) (s : Same H H') (hp : H p = none) (hp' : H' p = some (.lst (ans.map V.int))) : Q (.ref p) H' :=
  q H' p pn pk t ss (by rw [e]) (fun b o h _ _ _ => s b o h) (at0.mono s) (.inl rfl) (.inl rfl) hp (by rw [e]; exact hp')
def spTable (C : Addr) (K : PySem.W.Frag) : Sp := fun vs H Q _ => ∃ (a pn pk b : Addr) (t : Table) (ss : List Nat) (r c : Nat) (l : List Nat), vs = [.ref a, .int (r : Int), .int (c : Int), .ref b] ∧ At C H a t ss pn pk ∧ SqL K H b (nv l) ∧ nat32 r ∧ StepQ C a pn pk t ss (.table r c l) H Q
def spCell (C : Addr) (f : Nat → Nat → Call) : Sp := fun vs H Q _ => ∃ (a pn pk : Addr) (t : Table) (ss : List Nat) (i j : Nat), vs = [.ref a, .int (i : Int), .int (j : Int)] ∧ At C H a t ss pn pk ∧ StepQ C a pn pk t ss (f i j) H Q
def spNo (C : Addr) (cl : Call) : Sp := fun vs H Q _ => ∃ (a pn pk : Addr) (t : Table) (ss : List Nat), vs = [.ref a] ∧ At C H a t ss pn pk ∧ StepQ C a pn pk t ss cl H Q
def spW (C : Addr) (f : Nat → Call) : Sp := fun vs H Q _ => ∃ (a pn pk : Addr) (t : Table) (ss : List Nat) (w : Nat), vs = [.ref a, .int (w : Int)] ∧ At C H a t ss pn pk ∧ StepQ C a pn pk t ss (f w) H Q
def spFits (C : Addr) (K : PySem.W.Frag) : Sp := fun vs H Q _ => ∃ (a pn pk b : Addr) (t : Table) (ss : List Nat) (l : List Nat), vs = [.ref a, .ref b] ∧ At C H a t ss pn pk ∧ SqL K H b (nv l) ∧ StepQ C a pn pk t ss (.fits l) H Q
def spFirstM (C : Addr) : Sp := fun vs H Q _ => ∃ (a pn pk : Addr) (t : Table) (ss : List Nat) (i j v : Nat), vs = [.ref a, .int (i : Int), .int (j : Int), .int (v : Int)] ∧ At C H a t ss pn pk ∧ StepQ C a pn pk t ss (.first i j v) H Q
def spInit (C : Addr) : Sp := fun vs H Q _ => ∃ (p dx : Addr), vs = [.ref p] ∧ H p = some (.ins C dx []) ∧
  ∀ (H' : Hp) (pn pk : Addr), At C H' p ⟨1, 1, [0], [], []⟩ [0] pn pk → H pn = none → H pk = none → (∀ b o, H b = some o → b ≠ p → H' b = some o) → Q .non H'
def spFewP (C : Addr) : Sp := fun vs H Q _ => ∃ (a pn pk : Addr) (t : Table) (ss : List Nat) (w : Nat), vs = [.ref a, .int (w : Int)] ∧ At C H a t ss pn pk ∧
  (∀ (H' : Hp), Same H H' → moreK t (ownK ss) w = none → Q .non H') ∧
  (∀ (H' : Hp) (p : Addr) (c : List Nat), Same H H' → moreK t (ownK ss) w = some c → H' p = some (.lst (nv c)) → Q (.ref p) H')
def tN (t : Table) (l : List Nat) : Table := { t with nums := l }
def sumsL (t : Table) (l : List Nat) : List Nat := (List.range t.rows).map (rowLeft (tN t l) (cells t)) ++ (List.range t.cols).map (colLeft (tN t l) (cells t))
def spSumsOf (K : PySem.W.Frag) : Sp := fun vs H Q _ => ∃ (t : Table) (ks : List Bool) (l : List Nat) (b : Addr), vs = [.int (t.cols : Int), .ref b] ∧ Ok t ks ∧ l.length = t.rows * t.cols ∧ SqL K H b (nv l) ∧
  ∀ (H' : Hp) (p : Addr), Same H H' → H p = none → H' p = some (.lst (nv (sumsL t l))) → Q (.ref p) H'
def k4 (v1 v2 v3 v4 : V) : List (Str × V) := [("rows", v1), ("columns", v2), ("numbers", v3), ("states", v4)]
theorem k4_new {v1 v2 v3 v4 : V} : putF "states" v4 (putF "numbers" v3 (putF "columns" v2 (putF "rows" v1 []))) = k4 v1 v2 v3 v4 := by
  have e1 : putF "columns" v2 [(("rows" : Str), v1)] = [(("rows" : Str), v1), (("columns" : Str), v2)] := (put_past (by decide +kernel)).trans rfl
  have e2 : putF "numbers" v3 [(("rows" : Str), v1), (("columns" : Str), v2)] = [(("rows" : Str), v1), (("columns" : Str), v2), (("numbers" : Str), v3)] := (put_past (by decide +kernel)).trans (congrArg _ ((put_past (by decide +kernel)).trans rfl))
  have e3 : putF "states" v4 [(("rows" : Str), v1), (("columns" : Str), v2), (("numbers" : Str), v3)] = k4 v1 v2 v3 v4 := (put_past (by decide +kernel)).trans (congrArg _ ((put_past (by decide +kernel)).trans (congrArg _ ((put_past (by decide +kernel)).trans rfl))))
  show putF "states" v4 (putF "numbers" v3 (putF "columns" v2 [(("rows" : Str), v1)])) = _
  rw [e1, e2, e3]
theorem k4_rows {v v1 v2 v3 v4 : V} : putF "rows" v (k4 v1 v2 v3 v4) = k4 v v2 v3 v4 := put_here
theorem k4_columns {v v1 v2 v3 v4 : V} : putF "columns" v (k4 v1 v2 v3 v4) = k4 v1 v v3 v4 := (put_past (by decide +kernel)).trans (congrArg _ put_here)
theorem k4_numbers {v v1 v2 v3 v4 : V} : putF "numbers" v (k4 v1 v2 v3 v4) = k4 v1 v2 v v4 := (put_past (by decide +kernel)).trans (congrArg _ ((put_past (by decide +kernel)).trans (congrArg _ put_here)))
theorem k4_states {v v1 v2 v3 v4 : V} : putF "states" v (k4 v1 v2 v3 v4) = k4 v1 v2 v3 v := (put_past (by decide +kernel)).trans (congrArg _ ((put_past (by decide +kernel)).trans (congrArg _ ((put_past (by decide +kernel)).trans (congrArg _ put_here)))))
theorem k4_len {v1 v2 v3 v4 : V} : (k4 v1 v2 v3 v4).length < 1000 := by show 4 < 1000; decide
/-- a list read stays where an object is written -/
theorem SqL.past {K : PySem.W.Frag} {H : Hp} {a b : Addr} {xs : List V} {C dx : Addr} {fs : List (Str × V)} {o : HO} (h : SqL K H b xs) (ha : H a = some (.ins C dx fs)) : SqL K (upd H a o) b xs := by
  rcases h with (h | ⟨u, h⟩) | h
  · exact .inl (.inl (by rw [upd_ne (fun z => by rw [z, ha] at h; cases h)]; exact h))
  · exact .inl (.inr ⟨u, by rw [upd_ne (fun z => by rw [z, ha] at h; cases h)]; exact h⟩)
  · exact .inr h
theorem max_le_all {l : List Nat} {m : Int} (hm : m ∈ l.map fun (n : Nat) => (n : Int)) (hle : ∀ y, y ∈ (l.map fun (n : Nat) => (n : Int)) → y ≤ m) : (m ≤ 99) ↔ ∀ x ∈ l, x ≤ 99 := by
  constructor
  · intro h x hx
    have := hle _ (List.mem_map.mpr ⟨x, hx, rfl⟩)
    omega
  · intro h
    obtain ⟨x, hx, rfl⟩ := List.mem_map.mp hm
    have := h x hx
    omega
/-! ### [x for x in xs if ..] -/
theorem lc_filtL {K : PySem.W.Frag} {a : Addr} {l : List Nat} {tt : TT} {i : Nat} {σ : L2.St} {H1 : Hp} {D : Addr} {Qd : Hp → Prop} (f : Nat → Bool) (hi : i < σ.length) (hq : SqL K H1 a (nv l)) (hD : H1 D = none) (hz : l.length ≤ 100000)
    (hs : ∀ k H (R : Bool → Hp → Prop), k < l.length → Same H1 H → (∀ H', Same H H' → R (f (l.getD k 0)) H') → tt ((wipe σ [i]).set i (some (.int ((l.getD k 0 : Nat) : Int)))) H R)
    (hd : ∀ H, Same H1 H → H D = some (.lst (nv (l.filter f))) → Qd H) :
    ∃ W : Nat → Nat → Hp → Prop, (∃ m, W 0 m (upd H1 D (.lst []))) ∧ ∀ k m H, W k m H →
      ((Itl K a).stop k H ∧ Qd H) ∨ ((Itl K a).go k H ∧ ∃ Nx : Hp → Prop, (∀ H', Nx H' → ∃ m', m' < m ∧ W (k + 1) m' H') ∧ ∀ x H', (Itl K a).yld k H x H' → gName i x (wipe σ [i]) H' fun σ2 H2 => wipe σ2 [i] = wipe σ [i] ∧ tt σ2 H2 fun b H3 =>
        if b = true then tVar i σ2 H3 fun y H4 => ∃ acc, H4 D = some (.lst acc) ∧ acc.length < sizeLine ∧ Nx (upd H4 D (.lst (acc ++ [y]))) else Nx H3) := by
  refine lc_list (K := K) (a := a) (xs := nv l) (Qd := Qd) (fun k H => Same H1 H ∧ H D = some (.lst (nv ((l.take k).filter f)))) ⟨Same.new hD, upd_same⟩ (fun k H _ p => p.1.seq hq) ?_ (fun H p => hd H p.1 (by rw [p.2, nv_len, List.take_length]))
  rintro k x H hx ⟨s, e⟩
  obtain ⟨hk, rfl⟩ := nv_get hx
  have hlk : l[k]? = some (l.getD k 0) := by
    rw [List.getD_eq_getElem?_getD, List.getElem?_eq_getElem hk]
    rfl
  refine ⟨wipe1, ?_⟩
  refine hs k H _ hk s fun H' s' => ?_
  have et : (l.take (k + 1)).filter f = (l.take k).filter f ++ (if f (l.getD k 0) = true then [l.getD k 0] else []) := by
    rw [take_more hlk, List.filter_append, List.filter_cons]
    rfl
  by_cases hf : f (l.getD k 0) = true
  · rw [hf]
    refine iteT ⟨V.int ((l.getD k 0 : Nat) : Int), ?_, _, s' _ _ e, ?_, Same.put hD (s.trans s'), ?_⟩
    · show ((σ.set i none).set i _)[i]? = _
      rw [List.getElem?_set_self (by rw [List.length_set]; exact hi)]
    · rw [nv_len]
      refine Nat.lt_of_le_of_lt (List.length_filter_le _ _) ?_
      rw [List.length_take]
      exact Nat.lt_of_lt_of_le (show min k l.length < 100000 by omega) (small_size (Nat.le_refl _))
    · rw [upd_same, et, if_pos hf]
      unfold nv
      rw [List.map_append]
      rfl
  · have hf' : f (l.getD k 0) = false := by simpa using hf
    rw [hf']
    refine iteF ⟨s.trans s', ?_⟩
    rw [et, hf', if_neg Bool.false_ne_true, List.append_nil]
    exact s' _ _ e
/-! ### heaps in which the object alone changes -/
def Fr (H H' : Hp) (a : Addr) : Prop := ∀ b o, H b = some o → b ≠ a → H' b = some o
theorem Fr.refl (H : Hp) (a : Addr) : Fr H H a := fun _ _ h _ => h
theorem Fr.new {H H' : Hp} {a p : Addr} {o : HO} (f : Fr H H' a) (h : H' p = none) : Fr H (upd H' p o) a := fun b u e n => by
  have := f b u e n
  rw [upd_ne (ne_of_none this h)]
  exact this
theorem Fr.put {H H' : Hp} {a : Addr} {o : HO} (f : Fr H H' a) : Fr H (upd H' a o) a := fun b u e n => by
  rw [upd_ne n]
  exact f b u e n
theorem Fr.free {H H' : Hp} {a p : Addr} (f : Fr H H' a) (n : p ≠ a) (h : H' p = none) : H p = none := by
  cases e : H p with
  | none => rfl
  | some o => rw [f p o e n] at h; cases h
section
variable {P : Program} {w : World} {K : PySem.W.Frag} {mg : Str → Option Value} {base : Heap} {C : Addr}
theorem scMay : FnScope ["r", "c", "numbers"] ["r", "c", "numbers"] (defScope sMay) := ⟨rfl, rfl, rfl, by decide +kernel, rfl, by decide +kernel, by decide +kernel⟩
theorem ok_may {f : Addr} {fd : FuncData} (F : Fun K "may_be_table" "may_be_table" sMay f fd) (B : Blt mg) (G : Cst mg) : FnOk P w K mg base CX0 1 f fd ["r", "c", "numbers"] (spMay K) := by
  obtain ⟨t1, m1⟩ := G.mR
  obtain ⟨t2, m2⟩ := G.mC
  obtain ⟨t3, m3⟩ := G.mV
  refine F.ok scMay (fun vs H Q E h => ?_) (fun cdv A outer s H vs Q E hr h => ?_)
  · obtain ⟨b, r, c, l, rfl, _⟩ := h
    rfl
  · obtain ⟨b, r, c, l, rfl, hb, hr32, q1, q0⟩ := h
    refine ⟨_, pss_cons (ps_if (PW.pt (pw_or (pt_not (pt_chain op_le op_le pe_int (pv 0) (pe_glob (v := .int 3) rfl m1 ⟨_, rfl⟩))) (pw_or1 (pt_not (pt_chain op_le op_le pe_int (pv 1) (pe_glob (v := .int 4) rfl m2 ⟨_, rfl⟩)))))) (pss_one (ps_ret pe_bl)) pss_nil)
      (pss_one (ps_ret (pe_and (pe_cmpR op_eq (pe_callB call_len_seq (by rfl) B.len PySem.boot_len (pa_cons (pv 2) pa_nil)) (pe_op op_mul (pv 0) (pv 1)) (nomark _))
        (pe_one (pe_cmpR op_le (pe_callB (cr_max rfl) (by rfl) B.max (by decide +kernel) (pa_cons (pv 2) pa_nil)) (pe_glob (v := .int 99) rfl m3 ⟨_, rfl⟩) (nomark _)))))), ?_⟩
    refine ⟨_, rfl, _, _, rfl, rfl, _, rfl, ?_⟩
    have bad : ∀ {X : Prop}, (¬ good r c l) → (Q (.bl false) H → X) → X := fun h k => k (q0 h)
    by_cases h1 : 1 ≤ r
    · rw [decide_eq_true (show (1 : Int) ≤ (r : Int) by omega)]
      refine iteT ⟨_, _, rfl, rfl, _, rfl, ?_⟩
      by_cases h2 : r ≤ 3
      · rw [decide_eq_true (show (r : Int) ≤ 3 by omega)]
        refine iteF ⟨_, rfl, _, _, rfl, rfl, _, rfl, ?_⟩
        by_cases h3 : 1 ≤ c
        · rw [decide_eq_true (show (1 : Int) ≤ (c : Int) by omega)]
          refine iteT ⟨_, _, rfl, rfl, _, rfl, ?_⟩
          by_cases h4 : c ≤ 4
          · rw [decide_eq_true (show (c : Int) ≤ 4 by omega)]
            refine iteF ?_
            refine ⟨_, rfl, b, _, rfl, .inl hb, _, rfl, _, rfl, _, _, rfl, rfl, .inl ⟨by omega, by omega⟩, rfl, _, rfl, ?_⟩
            have e : decide (V.int ((nv l).length : Int) = V.int ((r : Int) * (c : Int))) = decide (l.length = r * c) := by
              rw [nv_len, Bool.eq_iff_iff, decide_eq_true_iff, decide_eq_true_iff]
              constructor
              · intro z
                injection z with z
                rw [← Int.natCast_mul] at z
                omega
              · intro z
                rw [z, Int.natCast_mul]
            show if decide (V.int ((nv l).length : Int) = V.int ((r : Int) * (c : Int))) = true then _ else _
            rw [e]
            by_cases h5 : l.length = r * c
            · rw [decide_eq_true h5]
              have hpos : 0 < (l.map fun (n : Nat) => (n : Int)).length := by
                rw [List.length_map, h5]
                exact Nat.mul_le_mul h1 h3
              refine iteT ⟨_, rfl, b, l.map (fun (n : Nat) => (n : Int)), rfl, by rw [← nv_ints]; exact hb, hpos, fun m hm hle => ⟨_, _, rfl, rfl, ?_⟩⟩
              have k99 := max_le_all hm hle
              by_cases h6 : m ≤ 99
              · show Q (.bl (decide (m ≤ 99))) H
                rw [decide_eq_true h6]
                exact q1 ⟨h1, h2, h3, h4, h5, k99.mp h6⟩
              · show Q (.bl (decide (m ≤ 99))) H
                rw [decide_eq_false h6]
                exact q0 fun z => h6 (k99.mpr z.2.2.2.2.2)
            · rw [decide_eq_false h5]
              exact iteF (q0 fun z => h5 z.2.2.2.2.1)
          · rw [decide_eq_false (show ¬ (c : Int) ≤ 4 by omega)]
            exact iteT (q0 fun z => h4 z.2.2.2.1)
        · rw [decide_eq_false (show ¬ (1 : Int) ≤ (c : Int) by omega)]
          exact iteF ⟨_, rfl, iteT (q0 fun z => h3 z.2.2.1)⟩
      · rw [decide_eq_false (show ¬ (r : Int) ≤ 3 by omega)]
        exact iteT (iteT (q0 fun z => h2 z.2.1))
    · rw [decide_eq_false (show ¬ (1 : Int) ≤ (r : Int) by omega)]
      exact iteF ⟨_, rfl, iteT (iteT (q0 fun z => h1 z.1))⟩
theorem scI : FnScope ["self"] ["self"] (defScope sInit) := ⟨rfl, rfl, rfl, by decide +kernel, rfl, by decide +kernel, by decide +kernel⟩
theorem ok_init {f : Addr} {fd : FuncData} (F : Fun K "__init__" "KeptTable.__init__" sInit f fd) (T : Txt K mg C) (G : Cst mg) : FnOk P w K mg base CX0 1 f fd ["self"] (spInit C) := by
  obtain ⟨t0, m0⟩ := G.s0
  refine F.ok scI (fun vs H Q E h => ?_) (fun cdv A outer s H vs Q E hr h => ?_)
  · obtain ⟨p, dx, rfl, _⟩ := h
    rfl
  · obtain ⟨p, dx, rfl, hp, k⟩ := h
    refine ⟨_, pss_cons (ps_fld (pv 0) pe_int rfl) (pss_cons (ps_fld (pv 0) pe_int rfl) (pss_cons (ps_fld (pv 0) (pe_lst (pa_cons pe_int pa_nil)) rfl) (pss_one (ps_fld (pv 0) (pe_lst (pa_cons (pe_glob (v := .int 0) rfl m0 ⟨_, rfl⟩) pa_nil)) rfl)))), ?_⟩
    refine ⟨_, rfl, p, C, dx, [], rfl, hp, T.cl, T.nR, (by show 0 < 1000; decide), ?_⟩
    refine ⟨_, rfl, p, C, dx, _, rfl, upd_same, T.cl, T.nC, (by show 1 < 1000; decide), ?_⟩
    refine ⟨(by decide : 1 ≤ sizeLine), fun pn hpn => ⟨_, rfl, p, C, dx, _, rfl, Same.new hpn _ _ upd_same, T.cl, T.nN, (by show 2 < 1000; decide), ?_⟩⟩
    refine ⟨(by decide : 1 ≤ sizeLine), fun pk hpk => ⟨_, rfl, p, C, dx, _, rfl, Same.new hpk _ _ upd_same, T.cl, T.nS, (by show 3 < 1000; decide), ?_⟩⟩
    have np : pn ≠ p := fun z => by rw [z, upd_same] at hpn; cases hpn
    have nq : pk ≠ p := fun z => by rw [z, upd_same] at hpk; cases hpk
    have nk : pk ≠ pn := fun z => by rw [z, upd_ne np, upd_same] at hpk; cases hpk
    have fpn : H pn = none := by rw [upd_ne np, upd_ne np] at hpn; exact hpn
    have fpk : H pk = none := by rw [upd_ne nq, upd_ne nk, upd_ne nq, upd_ne nq] at hpk; exact hpk
    refine k _ pn pk ⟨⟨dx, ?_⟩, ?_, ?_, ⟨by decide, by decide, by decide, by decide, rfl, rfl⟩, fun s hs => by rw [List.mem_singleton.mp hs]; decide, nk.symm⟩ fpn fpk fun b o hb nb => ?_
    · rw [upd_same, k4_new]
      rfl
    · rw [upd_ne np, upd_ne nk.symm, upd_ne np, upd_same]
      rfl
    · rw [upd_ne nq, upd_same]
      rfl
    · rw [upd_ne nb, upd_ne (ne_of_none hb fpk), upd_ne nb, upd_ne (ne_of_none hb fpn), upd_ne nb, upd_ne nb]
      exact hb
theorem scFP : FnScope ["self", "w", "state"] ["self", "w"] (defScope sFewP) := ⟨rfl, rfl, rfl, by decide +kernel, rfl, by decide +kernel, by decide +kernel⟩
theorem ok_fewP {f fF : Addr} {fd dF : FuncData} (F : Fun K "fewest_places" "KeptTable.fewest_places" sFewP f fd) (T : Txt K mg C) (G : Cst mg) (M : Def P w K mg base "fewest_more" 4 ["columns", "numbers", "own", "w"] (spFew K) fF dF) :
    FnOk P w K mg base CX0 5 f fd ["self", "w"] (spFewP C) := by
  obtain ⟨t1, m1⟩ := G.s1
  refine F.ok scFP (fun vs H Q E h => ?_) (fun cdv A outer s H vs Q E hr h => ?_)
  · obtain ⟨a, pn, pk, t, ss, wd, rfl, _⟩ := h
    rfl
  · obtain ⟨a, pn, pk, t, ss, wd, rfl, at0, k0, k1⟩ := h
    refine ⟨_, pss_one (ps_ret (pe_call M.ok hr (by rfl) M.mg M.kp M.b .nil pass0 (pa_cons (pe_fld (pv 0) rfl) (pa_cons (pe_fld (pv 0) rfl) (pa_cons
      (pe_lc (own := [("state", 2)]) (g := gName 2) (tt := tYes) rfl scFP.nd (pi_list (pe_fld (pv 0) rfl)) (blkOk_by (N := ["self", "w", "state"]) (sc := defScope sFewP) (by decide +kernel))
      (fun _ _ _ _ _ => pg_name (i := 2) scFP.nd rfl (Or.inl rfl)) (fun _ _ _ _ _ => pts_nil) (fun _ _ _ _ _ => pe_cmpR op_eq (pv 2) (pe_glob (v := .int 1) rfl m1 ⟨_, rfl⟩) (nomark _))) (pa_cons (pv 1) pa_nil)))))), ?_⟩
    have n12 := at0.ok.n12
    have sl := at0.sl
    obtain ⟨⟨dx, ho⟩, hn, hk, ok, hle, hne⟩ := at0
    refine ⟨_, rfl, a, C, dx, _, _, rfl, ho, T.cl, T.nC, kF_columns, _, rfl, a, C, dx, _, _, rfl, ho, T.cl, T.nN, kF_numbers, _, rfl, a, C, dx, _, _, rfl, ho, T.cl, T.nS, kF_states, pk, rfl, ⟨_, SqL.of hk⟩, fun D hD => ?_⟩
    refine lc_mapL (fun k => .bl (ss.getD k 0 == 1)) (SqL.of hk) hD (by rw [nv_len]; omega) ?_ ?_
    · intro k x H2 R hx s2 q
      obtain ⟨hk, rfl⟩ := nv_get hx
      refine ⟨_, rfl, rfl, ?_⟩
      have q' := q H2 (Same.refl _)
      rw [← int_eq] at q'
      exact q'
    · intro H2 s2 hD2
      rw [map_marks (fun s => s == 1)] at hD2
      refine ⟨_, rfl, t, ownK ss, wd, pn, D, rfl, ok.marks (by rw [own_len, any_len]), s2.seq (SqL.of hn), SqL.of hD2, fun H' s3 e => k0 H' (s2.trans s3) e, fun H' p c s3 e hp => k1 H' p c (s2.trans s3) e hp⟩
theorem scSO : FnScope ["columns", "numbers", "every"] ["columns", "numbers"] (defScope sSumsOf) := ⟨rfl, rfl, rfl, by decide +kernel, rfl, by decide +kernel, by decide +kernel⟩
theorem rep_true (n : Nat) : (List.replicate n [V.bl true]).flatten = (List.replicate n true).map V.bl := by
  induction n with
  | zero => rfl
  | succ n ih => rw [List.replicate_succ, List.flatten_cons, ih, List.replicate_succ]; rfl
theorem hid_all (t : Table) : hid t (List.replicate (t.rows * t.cols) true) = cells t := by
  refine List.filter_eq_self.mpr fun p hp => ?_
  have hp : p < t.rows * t.cols := List.mem_range.mp hp
  rw [List.getD_eq_getElem?_getD, List.getElem?_replicate, if_pos hp]
  rfl
theorem ok_sumsOf {f fR fC : Addr} {fd dR dC : FuncData} (F : Fun K "sums_of" "sums_of" sSumsOf f fd) (B : Blt mg)
    (R : Def P w K mg base "left_in_rows" 1 ["columns", "numbers", "kept"] (spLeftR K) fR dR) (L : Def P w K mg base "left_in_columns" 1 ["columns", "numbers", "kept"] (spLeftC K) fC dC) :
    FnOk P w K mg base CX0 2 f fd ["columns", "numbers"] (spSumsOf K) := by
  refine F.ok scSO (fun vs H Q E h => ?_) (fun cdv A outer s H vs Q E hr h => ?_)
  · obtain ⟨t, ks, l, b, rfl, _⟩ := h
    rfl
  · obtain ⟨t, ks, l, b, rfl, ok, hl, hb, k⟩ := h
    refine ⟨_, pss_cons (ps_set (i := 2) scSO.nd rfl (Or.inl rfl) (pe_op op_rep (pe_lst (pa_cons pe_bl pa_nil)) (pe_callB call_len_seq (by rfl) B.len PySem.boot_len (pa_cons (pv 1) pa_nil))))
      (pss_one (ps_ret (pe_op op_cat (pe_call R.ok hr (by rfl) R.mg R.kp R.b .nil pass0 (pa_cons (pv 0) (pa_cons (pv 1) (pa_cons (pv 2) pa_nil)))) (pe_call L.ok hr (by rfl) L.mg L.kp L.b .nil pass0 (pa_cons (pv 0) (pa_cons (pv 1) (pa_cons (pv 2) pa_nil))))))), ?_⟩
    have n12 := ok.n12
    have r3 := ok.r3
    have c4 := ok.c4
    refine ⟨(by decide : 1 ≤ sizeLine), fun l0 hl0 => ⟨_, rfl, b, _, rfl, .inl (Same.seq (Same.new hl0) hb), ?_⟩⟩
    refine ⟨l0, _, _, rfl, rfl, upd_same, by omega, by rw [nv_len]; omega, small_size (by rw [nv_len]; show 1 * (l.length : Int).toNat ≤ 100000; omega), fun pe hpe => ?_⟩
    have s1 := (Same.new (o := .lst [V.bl true]) hl0).trans (Same.new (o := .lst (List.replicate ((nv l).length : Int).toNat [V.bl true]).flatten) hpe)
    have eE : (List.replicate ((nv l).length : Int).toNat [V.bl true]).flatten = (List.replicate (t.rows * t.cols) true).map V.bl := by
      rw [rep_true, nv_len, hl]
      rfl
    have hE : upd (upd H l0 (.lst [V.bl true])) pe (.lst (List.replicate ((nv l).length : Int).toNat [V.bl true]).flatten) pe = some (.lst ((List.replicate (t.rows * t.cols) true).map V.bl)) := by rw [upd_same, eE]
    generalize upd (upd H l0 (.lst [V.bl true])) pe (.lst (List.replicate ((nv l).length : Int).toNat [V.bl true]).flatten) = H1 at s1 hE ⊢
    have okN : Ok (tN t l) (List.replicate (t.rows * t.cols) true) := ⟨ok.r1, ok.r3, ok.c1, ok.c4, hl, List.length_replicate⟩
    have eh : hid (tN t l) (List.replicate (t.rows * t.cols) true) = cells t := hid_all (tN t l)
    refine ⟨_, rfl, _, rfl, _, rfl, tN t l, List.replicate (t.rows * t.cols) true, b, pe, rfl, okN, s1.seq hb, SqL.of hE, fun H2 pR s2 nR hR => ?_⟩
    refine ⟨_, rfl, _, rfl, _, rfl, tN t l, List.replicate (t.rows * t.cols) true, b, pe, rfl, okN, (s1.trans s2).seq hb, SqL.of (s2 _ _ hE), fun H3 pC s3 nC hC => ?_⟩
    rw [eh] at hR hC
    refine ⟨pR, pC, _, _, rfl, rfl, s3 _ _ hR, hC, small_size (by rw [nv_len, nv_len, List.length_map, List.length_map, List.length_range, List.length_range]; show t.rows + t.cols ≤ 100000; omega), fun p hp => ?_⟩
    have s03 := (s1.trans s2).trans s3
    refine k _ p (s03.trans (Same.new hp)) (s03.free hp) ?_
    rw [upd_same]
    unfold sumsL nv
    rw [List.map_append]
    rfl
end
end CK
namespace CK
open PySem PySem.Spec PyProof.Rows L2 So02
theorem own_set (ss : List Nat) (p v : Nat) : ownK (ss.set p v) = (ownK ss).set p (v == 1) := List.map_set
theorem als_set (ss : List Nat) (p v : Nat) : alsK (ss.set p v) = (alsK ss).set p (v == 2) := List.map_set
theorem any_set (ss : List Nat) (p v : Nat) : anyK (ss.set p v) = (anyK ss).set p (v != 0) := List.map_set
theorem le_set {ss : List Nat} {p v : Nat} (h : ∀ s ∈ ss, s ≤ 2) (hv : v ≤ 2) : ∀ s ∈ ss.set p v, s ≤ 2 := fun s hs => by
  rcases List.mem_or_eq_of_mem_set hs with h1 | h1
  · exact h s h1
  · rw [h1]; exact hv
/-- a cell is another: the object behind the store -/
theorem At.put {C : Addr} {H : Hp} {a : Addr} {t : Table} {ss : List Nat} {pn pk : Addr} (h : At C H a t ss pn pk) {p v : Nat} (hv : v ≤ 2) : At C (upd H pk (.lst ((nv ss).set p (.int (v : Int))))) a t (ss.set p v) pn pk := by
  obtain ⟨⟨dx, ho⟩, hn, hk, ok, hle, hne⟩ := h
  refine ⟨⟨dx, ?_⟩, ?_, ?_, ok.marks (by rw [any_len, any_len, List.length_set]), le_set hle hv, hne⟩
  · rw [upd_ne (fun z => by rw [z, hk] at ho; cases ho)]
    exact ho
  · rw [upd_ne hne]
    exact hn
  · rw [upd_same, nv_set]
theorem in_kept {t : Table} {ss : List Nat} {p : Nat} (hp : p < t.rows * t.cols) : (stS t ss).kept.contains p = (ss.getD p 0 == 1) := by
  show (pick _ _).contains p = _
  rw [has_pick hp, own_at]
theorem in_hidden_S {t : Table} {ss : List Nat} {p : Nat} (le : ∀ s ∈ ss, s ≤ 2) (hp : p < t.rows * t.cols) : (hidden (stS t ss)).contains p = (ss.getD p 0 != 0) := by
  rw [hidden_S le]
  show (pick _ _).contains p = _
  rw [has_pick hp, any_at]
theorem put_free {H H2 : Hp} {pk pA : Addr} {o o' : HO} (_ : H pk = some o') (s : Same (upd H pk o) H2) (h : H2 pA = none) : H pA = none := by
  have h1 := s.free h
  have ne : pA ≠ pk := fun z => by rw [z, upd_same] at h1; cases h1
  rw [upd_ne ne] at h1
  exact h1
theorem keep_hid {t : Table} {ss : List Nat} {p : Nat} (le : ∀ s ∈ ss, s ≤ 2) (hl : ss.length = t.rows * t.cols) (hp : p < t.rows * t.cols) : hidden ({ stS t ss with kept := So02.insert p (stS t ss).kept } : Table) = hid t (anyK (ss.set p 1)) := by
  refine (keep_hidden hp).trans (pick_congr fun q _ => ?_)
  rw [any_set, getD_set (by rw [any_len]; omega), orAt_S le]
  by_cases z : q = p
  · rw [if_pos z, z]; simp
  · have : (q == p) = false := by simpa using z
    rw [if_neg z, this, Bool.or_false]
section
variable {P : Program} {w : World} {K : PySem.W.Frag} {mg : Str → Option Value} {base : Heap} {C : Addr}
theorem kF_m {r c : Nat} {pn pk : Addr} {m : Str} (h1 : (m == ("rows" : Str)) = false := by decide +kernel) (h2 : (m == ("columns" : Str)) = false := by decide +kernel) (h3 : (m == ("numbers" : Str)) = false := by decide +kernel) (h4 : (m == ("states" : Str)) = false := by decide +kernel) : (kF r c pn pk).lookup m = none := kF_no h1 h2 h3 h4
theorem scT : FnScope ["self", "r", "c", "numbers"] ["self", "r", "c", "numbers"] (defScope sTable) := ⟨rfl, rfl, rfl, by decide +kernel, rfl, by decide +kernel, by decide +kernel⟩
theorem rep_zero (n : Nat) : (List.replicate n [V.int 0]).flatten = nv (List.replicate n 0) := by
  induction n with
  | zero => rfl
  | succ n ih => rw [List.replicate_succ, List.flatten_cons, ih, List.replicate_succ]; rfl
theorem st_told (t : Table) (n : Nat) : stS t (List.replicate n 0) = ⟨t.rows, t.cols, t.nums, [], []⟩ := by
  have z : ∀ p, (List.replicate n 0).getD p 0 = 0 := fun p => by
    rw [List.getD_eq_getElem?_getD, List.getElem?_replicate]
    split <;> rfl
  unfold stS stOf
  congr 1
  · refine List.filter_eq_nil_iff.mpr fun p _ => ?_
    rw [own_at, z]
    decide
  · refine List.filter_eq_nil_iff.mpr fun p _ => ?_
    rw [als_at, z]
    decide
theorem ok_table {f fM : Addr} {fd dM : FuncData} (F : Fun K "table" "KeptTable.table" sTable f fd) (T : Txt K mg C) (B : Blt mg) (G : Cst mg) (M : Def P w K mg base "may_be_table" 1 ["r", "c", "numbers"] (spMay K) fM dM) :
    FnOk P w K mg base CX0 2 f fd ["self", "r", "c", "numbers"] (spTable C K) := by
  obtain ⟨t1, m1⟩ := G.nT
  obtain ⟨t0, m0⟩ := G.s0
  refine F.ok scT (fun vs H Q E h => ?_) (fun cdv A outer s H vs Q E hr h => ?_)
  · obtain ⟨a, pn, pk, b, t, ss, r, c, l, rfl, _⟩ := h
    rfl
  · obtain ⟨a, pn, pk, b, t, ss, r, c, l, rfl, at0, hb, hr32, q⟩ := h
    refine ⟨_, pss_cons (ps_if (pt_not (pt_val (pe_call M.ok hr (by rfl) M.mg M.kp M.b .nil pass0 (pa_cons (pv 1) (pa_cons (pv 2) (pa_cons (pv 3) pa_nil)))))) (pss_one (ps_ret (pe_lst (pa_cons (pe_glob (v := .int (-1)) rfl m1 ⟨_, rfl⟩) pa_nil)))) pss_nil)
      (pss_cons (ps_fld (pv 0) (pv 1) rfl) (pss_cons (ps_fld (pv 0) (pv 2) rfl)
      (pss_cons (ps_fld (pv 0) (pe_callTy call_list_of (by rfl) B.list (by decide +kernel) (pa_cons (pv 3) pa_nil)) rfl)
      (pss_cons (ps_fld (pv 0) (pe_op op_rep (pe_lst (pa_cons (pe_glob (v := .int 0) rfl m0 ⟨_, rfl⟩) pa_nil)) (pe_callB call_len_seq (by rfl) B.len PySem.boot_len (pa_cons (pv 3) pa_nil))) rfl)
      (pss_one (ps_ret (pe_lst (pa_cons (pe_callB (cr_sumU rfl) (by rfl) B.sum (by decide +kernel) (pa_cons (pv 3) pa_nil)) pa_nil)))))))), ?_⟩
    have at1 := at0
    obtain ⟨⟨dx, ho⟩, hn, hk, ok, hle, hne⟩ := at1
    refine ⟨_, rfl, _, rfl, _, rfl, b, r, c, l, rfl, hb, hr32, fun g => ?_, fun ng => ?_⟩
    · refine ⟨_, rfl, iteF ?_⟩
      have gl := g.2.2.2.2.1
      have g12 : l.length ≤ 12 := by rw [gl]; exact Nat.mul_le_mul g.2.1 g.2.2.2.1
      have oR : putF "rows" (.int (r : Int)) (kF t.rows t.cols pn pk) = k4 (.int (r : Int)) (.int (t.cols : Int)) (.ref pn) (.ref pk) := k4_rows
      refine ⟨_, rfl, _, rfl, a, C, dx, _, rfl, ho, T.cl, T.nR, k4_len, ?_⟩
      rw [oR]
      refine ⟨_, rfl, _, rfl, a, C, dx, _, rfl, upd_same, T.cl, T.nC, k4_len, ?_⟩
      rw [k4_columns]
      have hb2 := SqL.past hb ho (o := .ins C dx (k4 (.int (r : Int)) (.int (t.cols : Int)) (.ref pn) (.ref pk)))
      have hb3 := SqL.past hb2 upd_same (o := .ins C dx (k4 (.int (r : Int)) (.int (c : Int)) (.ref pn) (.ref pk)))
      have f3 := ((Fr.refl H a).put (o := .ins C dx (k4 (.int (r : Int)) (.int (t.cols : Int)) (.ref pn) (.ref pk)))).put (o := .ins C dx (k4 (.int (r : Int)) (.int (c : Int)) (.ref pn) (.ref pk)))
      have a3 : upd (upd H a (.ins C dx (k4 (.int (r : Int)) (.int (t.cols : Int)) (.ref pn) (.ref pk)))) a (.ins C dx (k4 (.int (r : Int)) (.int (c : Int)) (.ref pn) (.ref pk))) a = some (.ins C dx (k4 (.int (r : Int)) (.int (c : Int)) (.ref pn) (.ref pk))) := upd_same
      generalize upd (upd H a (.ins C dx (k4 (.int (r : Int)) (.int (t.cols : Int)) (.ref pn) (.ref pk)))) a (.ins C dx (k4 (.int (r : Int)) (.int (c : Int)) (.ref pn) (.ref pk))) = H3 at hb3 f3 a3 ⊢
      refine ⟨_, rfl, b, _, rfl, .inl hb3, fun pn' hpn' => ?_⟩
      have nna : pn' ≠ a := fun z => by rw [z, a3] at hpn'; cases hpn'
      refine ⟨_, rfl, a, C, dx, _, rfl, Same.new hpn' _ _ a3, T.cl, T.nN, k4_len, ?_⟩
      rw [k4_numbers]
      have hb4 := SqL.past (Same.seq (Same.new (o := .lst (nv l)) hpn') hb3) (Same.new hpn' _ _ a3) (o := .ins C dx (k4 (.int (r : Int)) (.int (c : Int)) (.ref pn') (.ref pk)))
      have f4 := (f3.new (o := .lst (nv l)) hpn').put (o := .ins C dx (k4 (.int (r : Int)) (.int (c : Int)) (.ref pn') (.ref pk)))
      have n4 : upd (upd H3 pn' (.lst (nv l))) a (.ins C dx (k4 (.int (r : Int)) (.int (c : Int)) (.ref pn') (.ref pk))) pn' = some (.lst (nv l)) := by rw [upd_ne nna, upd_same]
      have a4 : upd (upd H3 pn' (.lst (nv l))) a (.ins C dx (k4 (.int (r : Int)) (.int (c : Int)) (.ref pn') (.ref pk))) a = some (.ins C dx (k4 (.int (r : Int)) (.int (c : Int)) (.ref pn') (.ref pk))) := upd_same
      generalize upd (upd H3 pn' (.lst (nv l))) a (.ins C dx (k4 (.int (r : Int)) (.int (c : Int)) (.ref pn') (.ref pk))) = H4 at hb4 f4 n4 a4 ⊢
      refine ⟨(by decide : 1 ≤ sizeLine), fun l0 hl0 => ⟨_, rfl, b, _, rfl, .inl (Same.seq (Same.new hl0) hb4), ?_⟩⟩
      refine ⟨l0, _, _, rfl, rfl, upd_same, by omega, by rw [nv_len]; omega, small_size (by rw [nv_len]; show 1 * (l.length : Int).toNat ≤ 100000; omega), fun pk' hpk' => ?_⟩
      have eZ : (List.replicate ((nv l).length : Int).toNat [V.int 0]).flatten = nv (List.replicate l.length 0) := by
        rw [rep_zero, nv_len]
        rfl
      rw [eZ]
      have s5 := (Same.new (o := .lst [V.int 0]) hl0).trans (Same.new (o := .lst (nv (List.replicate l.length 0))) hpk')
      have f5 := (f4.new (o := .lst [V.int 0]) hl0).new (o := .lst (nv (List.replicate l.length 0))) hpk'
      have k5 : upd (upd H4 l0 (.lst [V.int 0])) pk' (.lst (nv (List.replicate l.length 0))) pk' = some (.lst (nv (List.replicate l.length 0))) := upd_same
      have fk : H4 pk' = none := (Same.new (o := .lst [V.int 0]) hl0).free hpk'
      generalize upd (upd H4 l0 (.lst [V.int 0])) pk' (.lst (nv (List.replicate l.length 0))) = H5 at s5 f5 k5 ⊢
      have nka : pk' ≠ a := fun z => by rw [z, a4] at fk; cases fk
      refine ⟨_, rfl, a, C, dx, _, rfl, s5 _ _ a4, T.cl, T.nS, k4_len, ?_⟩
      rw [k4_states]
      have hb6 := SqL.past (Same.seq s5 hb4) (s5 _ _ a4) (o := .ins C dx (k4 (.int (r : Int)) (.int (c : Int)) (.ref pn') (.ref pk')))
      refine ⟨_, rfl, b, l, rfl, hb6, (by decide : 1 ≤ sizeLine), fun p hp => ?_⟩
      have f6 := (f5.put (o := .ins C dx (k4 (.int (r : Int)) (.int (c : Int)) (.ref pn') (.ref pk')))).new (o := .lst [V.int ((total l : Nat) : Int)]) hp
      have a6 : upd H5 a (.ins C dx (k4 (.int (r : Int)) (.int (c : Int)) (.ref pn') (.ref pk'))) a = _ := upd_same
      have npa : p ≠ a := fun z => by rw [z, a6] at hp; cases hp
      have e : So02.step (stS t ss) (.table r c l) = (⟨r, c, l, [], []⟩, So02.ints [total l]) := by
        refine if_neg ?_
        rintro (z | z | z | z | z | z)
        · have := g.1; omega
        · have := g.2.1; omega
        · have := g.2.2.1; omega
        · have := g.2.2.2.1; omega
        · exact z gl
        · rw [List.all_eq_false] at z
          obtain ⟨x, hx, hz⟩ := z
          exact hz (decide_eq_true (g.2.2.2.2.2 x hx))
      refine q _ p pn' pk' ⟨r, c, l, [], []⟩ (List.replicate l.length 0) (by rw [e, st_told]) (fun b' o hb' n1 _ _ => f6 b' o hb' n1) ⟨⟨dx, ?_⟩, ?_, ?_, ⟨g.1, g.2.1, g.2.2.1, g.2.2.2.1, gl, by rw [any_len, List.length_replicate]; exact gl⟩, fun s hs => by rw [(List.mem_replicate.mp hs).2]; decide, ne_of_none n4 fk⟩ (.inr (f3.free nna hpn')) (.inr (f4.free nka fk)) ((f5.put (o := .ins C dx (k4 (.int (r : Int)) (.int (c : Int)) (.ref pn') (.ref pk')))).free npa hp) ?_
      · exact Same.new hp _ _ upd_same
      · refine Same.new hp _ _ ?_
        rw [upd_ne nna]
        exact s5 _ _ n4
      · refine Same.new hp _ _ ?_
        rw [upd_ne nka]
        exact k5
      · rw [upd_same, e]
        rfl
    · refine ⟨_, rfl, iteT ?_⟩
      refine ⟨(by decide : 1 ≤ sizeLine), fun p hp => ?_⟩
      refine q.same at0 (ans := [-1]) (if_pos ?_) (Same.new hp) hp upd_same
      by_cases h1 : r = 0
      · exact .inl h1
      by_cases h2 : 3 < r
      · exact .inr (.inl h2)
      by_cases h3 : c = 0
      · exact .inr (.inr (.inl h3))
      by_cases h4 : 4 < c
      · exact .inr (.inr (.inr (.inl h4)))
      by_cases h5 : l.length = r * c
      · refine .inr (.inr (.inr (.inr (.inr ?_))))
        by_cases h6 : l.all (fun v => decide (v ≤ 99)) = true
        · exfalso
          refine ng ⟨by omega, by omega, by omega, by omega, h5, fun x hx => ?_⟩
          exact decide_eq_true_iff.mp (List.all_eq_true.mp h6 x hx)
        · simpa using h6
      · exact .inr (.inr (.inr (.inr (.inl h5))))
/-! ### keep, tell, range_of -/
theorem scK : FnScope ["self", "i", "j", "place"] ["self", "i", "j"] (defScope sKeep) := ⟨rfl, rfl, rfl, by decide +kernel, rfl, by decide +kernel, by decide +kernel⟩
theorem ok_keep {f fH fP fR : Addr} {fd dH dP dR : FuncData} (F : Fun K "keep" "KeptTable.keep" sKeep f fd) (T : Txt K mg C) (B : Blt mg) (G : Cst mg) (Hm : MDef P w K mg base C "has_cell" 1 ["self", "i", "j"] (spHas C) fH dH) (Pm : MDef P w K mg base C "place_of" 1 ["self", "i", "j"] (spPlace C) fP dP) (R : MDef P w K mg base C "range_at" 4 ["self", "place"] (spRangeAt C) fR dR) :
    FnOk P w K mg base CX0 5 f fd ["self", "i", "j"] (spCell C .keep) := by
  obtain ⟨t1, m1⟩ := G.nC
  obtain ⟨t2, m2⟩ := G.kA
  obtain ⟨t3, m3⟩ := G.s1
  refine F.ok scK (fun vs H Q E h => ?_) (fun cdv A outer s H vs Q E hr h => ?_)
  · obtain ⟨a, pn, pk, t, ss, i, j, rfl, _⟩ := h
    rfl
  · obtain ⟨a, pn, pk, t, ss, i, j, rfl, at0, q⟩ := h
    refine ⟨_, pss_cons (ps_if (pt_not (pt_val (pe_meth (pv 0) T.cl Hm.m Hm.ok (hr.mono (by decide)) Hm.b .nil pass0 (pa_cons (pv 1) (pa_cons (pv 2) pa_nil))))) (pss_one (ps_ret (pe_lst (pa_cons (pe_glob (v := .int (-1)) rfl m1 ⟨_, rfl⟩) pa_nil)))) pss_nil)
      (pss_cons (ps_set (i := 3) scK.nd rfl (Or.inl rfl) (pe_meth (pv 0) T.cl Pm.m Pm.ok (hr.mono (by decide)) Pm.b .nil pass0 (pa_cons (pv 1) (pa_cons (pv 2) pa_nil))))
      (pss_cons (ps_if (pt_cmpR op_eq (pe_ix ix_list (pe_fld (pv 0) rfl) (pv 3) (fun _ _ => rfl)) (pe_glob (v := .int 1) rfl m3 ⟨_, rfl⟩) (nomark _)) (pss_one (ps_ret (pe_lst (pa_cons (pe_glob (v := .int (-4)) rfl m2 ⟨_, rfl⟩) pa_nil)))) pss_nil)
      (pss_cons (ps_asg (pe_glob (v := .int 1) rfl m3 ⟨_, rfl⟩) (pg_sub (pe_fld (pv 0) rfl) (pv 3) set_list))
      (pss_one (ps_ret (pe_callTy call_list_of (by rfl) B.list (by decide +kernel) (pa_cons (pe_meth (pv 0) T.cl R.m R.ok hr R.b .nil pass0 (pa_cons (pv 3) pa_nil)) pa_nil))))))), ?_⟩
    have at1 := at0
    obtain ⟨⟨dx, ho⟩, hn, hk, ok, hle, hne⟩ := at1
    refine ⟨_, rfl, a, dx, _, rfl, ho, kF_m, _, rfl, _, rfl, a, pn, pk, t, ss, i, j, rfl, at0, _, rfl, ?_⟩
    by_cases hc : inCell t i j
    · rw [decide_eq_true hc]
      refine iteF ?_
      refine ⟨_, rfl, a, dx, _, rfl, ho, kF_m, _, rfl, _, rfl, a, pn, pk, t, ss, i, j, rfl, at0, hc, ?_⟩
      have epl : place (stS t ss) i j = some ((i - 1) * t.cols + (j - 1)) := place_some hc
      have hp : (i - 1) * t.cols + (j - 1) < t.rows * t.cols := place_lt hc
      have estep : ∀ p, place (stS t ss) i j = some p → So02.step (stS t ss) (.keep i j) = if (stS t ss).kept.contains p = true then (stS t ss, [-4]) else ({ stS t ss with kept := So02.insert p (stS t ss).kept, also := (stS t ss).also.filter fun q => q != p }, So02.ints [least (stS t ss) (hidden { stS t ss with kept := So02.insert p (stS t ss).kept }) p, greatest (stS t ss) (hidden { stS t ss with kept := So02.insert p (stS t ss).kept }) p]) := by
        intro p hp
        show (match place (stS t ss) i j with | none => _ | some p => _) = _
        rw [hp]
      have estep := estep _ epl
      generalize (i - 1) * t.cols + (j - 1) = p at hp estep
      refine ⟨_, rfl, a, C, dx, _, _, rfl, ho, T.cl, T.nS, kF_states, _, rfl, pk, _, _, _, rfl, rfl, SqL.of hk, atI_nat (nv_at (at0.st hp)), rfl, _, rfl, ?_⟩
      show if decide (V.int ((ss.getD p 0 : Nat) : Int) = V.int ((1 : Nat) : Int)) = true then _ else _
      rw [int_eq]
      rw [in_kept hp] at estep
      by_cases own : (ss.getD p 0 == 1) = true
      · rw [own]
        refine iteT ⟨(by decide : 1 ≤ sizeLine), fun pA hpA => ?_⟩
        rw [if_pos own] at estep
        exact q.same at0 estep (Same.new hpA) hpA upd_same
      · have own' : (ss.getD p 0 == 1) = false := by simpa using own
        rw [own']
        rw [if_neg own] at estep
        refine iteF ?_
        refine ⟨_, rfl, a, C, dx, _, _, rfl, ho, T.cl, T.nS, kF_states, _, rfl, pk, _, _, p, rfl, rfl, hk, ixN_nat (by rw [nv_len, at0.sl]; exact hp), ?_⟩
        have at2 := at0.put (p := p) (v := 1) (by decide)
        obtain ⟨dx2, ho2⟩ := at2.obj
        refine ⟨_, rfl, a, dx2, _, rfl, ho2, kF_m, _, rfl, a, pn, pk, t, ss.set p 1, p, rfl, at2, hp, fun H2 pT s2 hT hT2 => ?_⟩
        refine ⟨pT, _, rfl, .inr (SqT.of hT2), fun pA hpA => ?_⟩
        have fA : H pA = none := put_free hk s2 hpA
        have kk : (anyK (ss.set p 1)).getD p false = true := by rw [any_set, getD_set (by rw [any_len, at0.sl]; exact hp), if_pos rfl]; rfl
        have est : stS t (ss.set p 1) = { stS t ss with kept := So02.insert p (stS t ss).kept, also := (stS t ss).also.filter fun q => q != p } := by
          show stOf t (ownK (ss.set p 1)) (alsK (ss.set p 1)) = _
          rw [own_set, als_set]
          exact (keep_of (by rw [own_len]; exact at0.sl) (by rw [als_len]; exact at0.sl) hp).symm
        refine q _ pA pn pk t (ss.set p 1) (by rw [estep]; exact est) (fun b o hb _ _ n3 => Same.new hpA _ _ (s2 _ _ (by rw [upd_ne n3]; exact hb))) ((at2.mono s2).mono (Same.new hpA)) (.inl rfl) (.inl rfl) fA ?_
        rw [upd_same, estep, keep_hid hle at0.sl hp]
        unfold loAt hiAt
        rw [if_pos kk, if_pos kk]
        rfl
    · rw [decide_eq_false hc]
      refine iteT ⟨(by decide : 1 ≤ sizeLine), fun pA hpA => ?_⟩
      have e : So02.step (stS t ss) (.keep i j) = (stS t ss, [-1]) := by
        show (match place (stS t ss) i j with | none => _ | some p => _) = _
        rw [place_none (show ¬ (1 ≤ i ∧ i ≤ (stS t ss).rows ∧ 1 ≤ j ∧ j ≤ (stS t ss).cols) from hc)]
      exact q.same at0 e (Same.new hpA) hpA upd_same
theorem scTe : FnScope ["self", "i", "j", "place"] ["self", "i", "j"] (defScope sTell) := ⟨rfl, rfl, rfl, by decide +kernel, rfl, by decide +kernel, by decide +kernel⟩
theorem ok_tell {f fH fP : Addr} {fd dH dP : FuncData} (F : Fun K "tell" "KeptTable.tell" sTell f fd) (T : Txt K mg C) (G : Cst mg) (Hm : MDef P w K mg base C "has_cell" 1 ["self", "i", "j"] (spHas C) fH dH) (Pm : MDef P w K mg base C "place_of" 1 ["self", "i", "j"] (spPlace C) fP dP) :
    FnOk P w K mg base CX0 2 f fd ["self", "i", "j"] (spCell C .tell) := by
  obtain ⟨t1, m1⟩ := G.nC
  obtain ⟨t2, m2⟩ := G.nK
  obtain ⟨t3, m3⟩ := G.s0
  refine F.ok scTe (fun vs H Q E h => ?_) (fun cdv A outer s H vs Q E hr h => ?_)
  · obtain ⟨a, pn, pk, t, ss, i, j, rfl, _⟩ := h
    rfl
  · obtain ⟨a, pn, pk, t, ss, i, j, rfl, at0, q⟩ := h
    refine ⟨_, pss_cons (ps_if (pt_not (pt_val (pe_meth (pv 0) T.cl Hm.m Hm.ok hr Hm.b .nil pass0 (pa_cons (pv 1) (pa_cons (pv 2) pa_nil))))) (pss_one (ps_ret (pe_lst (pa_cons (pe_glob (v := .int (-1)) rfl m1 ⟨_, rfl⟩) pa_nil)))) pss_nil)
      (pss_cons (ps_set (i := 3) scTe.nd rfl (Or.inl rfl) (pe_meth (pv 0) T.cl Pm.m Pm.ok hr Pm.b .nil pass0 (pa_cons (pv 1) (pa_cons (pv 2) pa_nil))))
      (pss_cons (ps_if (pt_cmpR op_eq (pe_ix ix_list (pe_fld (pv 0) rfl) (pv 3) (fun _ _ => rfl)) (pe_glob (v := .int 0) rfl m3 ⟨_, rfl⟩) (nomark _)) (pss_one (ps_ret (pe_lst (pa_cons (pe_glob (v := .int (-3)) rfl m2 ⟨_, rfl⟩) pa_nil)))) pss_nil)
      (pss_cons (ps_asg (pe_glob (v := .int 0) rfl m3 ⟨_, rfl⟩) (pg_sub (pe_fld (pv 0) rfl) (pv 3) set_list))
      (pss_one (ps_ret (pe_lst (pa_cons (pe_ix ix_list (pe_fld (pv 0) rfl) (pv 3) (fun _ _ => rfl)) pa_nil))))))), ?_⟩
    have at1 := at0
    obtain ⟨⟨dx, ho⟩, hn, hk, ok, hle, hne⟩ := at1
    refine ⟨_, rfl, a, dx, _, rfl, ho, kF_m, _, rfl, _, rfl, a, pn, pk, t, ss, i, j, rfl, at0, _, rfl, ?_⟩
    by_cases hc : inCell t i j
    · rw [decide_eq_true hc]
      refine iteF ?_
      refine ⟨_, rfl, a, dx, _, rfl, ho, kF_m, _, rfl, _, rfl, a, pn, pk, t, ss, i, j, rfl, at0, hc, ?_⟩
      have epl : place (stS t ss) i j = some ((i - 1) * t.cols + (j - 1)) := place_some hc
      have hp : (i - 1) * t.cols + (j - 1) < t.rows * t.cols := place_lt hc
      have estep : ∀ p, place (stS t ss) i j = some p → So02.step (stS t ss) (.tell i j) = if (hidden (stS t ss)).contains p = false then (stS t ss, [-3]) else ({ stS t ss with kept := (stS t ss).kept.filter (fun q => q != p), also := (stS t ss).also.filter fun q => q != p }, So02.ints [num (stS t ss) p]) := by
        intro p hp
        show (match place (stS t ss) i j with | none => _ | some p => _) = _
        rw [hp]
      have estep := estep _ epl
      generalize (i - 1) * t.cols + (j - 1) = p at hp estep
      refine ⟨_, rfl, a, C, dx, _, _, rfl, ho, T.cl, T.nS, kF_states, _, rfl, pk, _, _, _, rfl, rfl, SqL.of hk, atI_nat (nv_at (at0.st hp)), rfl, _, rfl, ?_⟩
      show if decide (V.int ((ss.getD p 0 : Nat) : Int) = V.int ((0 : Nat) : Int)) = true then _ else _
      rw [int_eq]
      rw [in_hidden_S hle hp] at estep
      by_cases z : ss.getD p 0 = 0
      · rw [z] at estep ⊢
        refine iteT ⟨(by decide : 1 ≤ sizeLine), fun pA hpA => ?_⟩
        rw [if_pos (by decide)] at estep
        exact q.same at0 estep (Same.new hpA) hpA upd_same
      · have z' : (ss.getD p 0 == 0) = false := by simpa using z
        rw [z']
        rw [if_neg (by simpa using z)] at estep
        refine iteF ?_
        refine ⟨_, rfl, a, C, dx, _, _, rfl, ho, T.cl, T.nS, kF_states, _, rfl, pk, _, _, p, rfl, rfl, hk, ixN_nat (by rw [nv_len, at0.sl]; exact hp), ?_⟩
        have at2 := at0.put (p := p) (v := 0) (by decide)
        obtain ⟨dx2, ho2⟩ := at2.obj
        refine ⟨_, rfl, a, C, dx2, _, _, rfl, ho2, T.cl, T.nN, kF_numbers, _, rfl, pn, _, _, _, rfl, rfl, SqL.of at2.nums, atI_nat (nv_at (at0.nu hp)), (by decide : 1 ≤ sizeLine), fun pA hpA => ?_⟩
        have fA : H pA = none := put_free hk (Same.refl _) hpA
        have est : stS t (ss.set p 0) = { stS t ss with kept := (stS t ss).kept.filter (fun q => q != p), also := (stS t ss).also.filter fun q => q != p } := by
          show stOf t (ownK (ss.set p 0)) (alsK (ss.set p 0)) = _
          rw [own_set, als_set]
          exact (tell_of (by rw [own_len]; exact at0.sl) (by rw [als_len]; exact at0.sl) hp).symm
        refine q _ pA pn pk t (ss.set p 0) (by rw [estep]; exact est) (fun b o hb _ _ n3 => Same.new hpA _ _ (by rw [upd_ne n3]; exact hb)) (at2.mono (Same.new hpA)) (.inl rfl) (.inl rfl) fA ?_
        rw [upd_same, estep]
        rfl
    · rw [decide_eq_false hc]
      refine iteT ⟨(by decide : 1 ≤ sizeLine), fun pA hpA => ?_⟩
      have e : So02.step (stS t ss) (.tell i j) = (stS t ss, [-1]) := by
        show (match place (stS t ss) i j with | none => _ | some p => _) = _
        rw [place_none (show ¬ (1 ≤ i ∧ i ≤ (stS t ss).rows ∧ 1 ≤ j ∧ j ≤ (stS t ss).cols) from hc)]
      exact q.same at0 e (Same.new hpA) hpA upd_same
theorem scRo2 : FnScope ["self", "i", "j"] ["self", "i", "j"] (defScope sRangeOf) := ⟨rfl, rfl, rfl, by decide +kernel, rfl, by decide +kernel, by decide +kernel⟩
theorem ok_rangeOf {f fH fP fR : Addr} {fd dH dP dR : FuncData} (F : Fun K "range_of" "KeptTable.range_of" sRangeOf f fd) (T : Txt K mg C) (B : Blt mg) (G : Cst mg) (Hm : MDef P w K mg base C "has_cell" 1 ["self", "i", "j"] (spHas C) fH dH) (Pm : MDef P w K mg base C "place_of" 1 ["self", "i", "j"] (spPlace C) fP dP) (R : MDef P w K mg base C "range_at" 4 ["self", "place"] (spRangeAt C) fR dR) :
    FnOk P w K mg base CX0 5 f fd ["self", "i", "j"] (spCell C .range) := by
  obtain ⟨t1, m1⟩ := G.nC
  refine F.ok scRo2 (fun vs H Q E h => ?_) (fun cdv A outer s H vs Q E hr h => ?_)
  · obtain ⟨a, pn, pk, t, ss, i, j, rfl, _⟩ := h
    rfl
  · obtain ⟨a, pn, pk, t, ss, i, j, rfl, at0, q⟩ := h
    refine ⟨_, pss_cons (ps_if (pt_not (pt_val (pe_meth (pv 0) T.cl Hm.m Hm.ok (hr.mono (by decide)) Hm.b .nil pass0 (pa_cons (pv 1) (pa_cons (pv 2) pa_nil))))) (pss_one (ps_ret (pe_lst (pa_cons (pe_glob (v := .int (-1)) rfl m1 ⟨_, rfl⟩) pa_nil)))) pss_nil)
      (pss_one (ps_ret (pe_callTy call_list_of (by rfl) B.list (by decide +kernel) (pa_cons (pe_meth (pv 0) T.cl R.m R.ok hr R.b .nil pass0 (pa_cons (pe_meth (pv 0) T.cl Pm.m Pm.ok (hr.mono (by decide)) Pm.b .nil pass0 (pa_cons (pv 1) (pa_cons (pv 2) pa_nil))) pa_nil)) pa_nil)))), ?_⟩
    have at1 := at0
    obtain ⟨⟨dx, ho⟩, hn, hk, ok, hle, hne⟩ := at1
    refine ⟨_, rfl, a, dx, _, rfl, ho, kF_m, _, rfl, _, rfl, a, pn, pk, t, ss, i, j, rfl, at0, _, rfl, ?_⟩
    by_cases hc : inCell t i j
    · rw [decide_eq_true hc]
      refine iteF ?_
      refine ⟨_, rfl, a, dx, _, rfl, ho, kF_m, _, rfl, a, dx, _, rfl, ho, kF_m, _, rfl, _, rfl, a, pn, pk, t, ss, i, j, rfl, at0, hc, ?_⟩
      have epl : place (stS t ss) i j = some ((i - 1) * t.cols + (j - 1)) := place_some hc
      have hp : (i - 1) * t.cols + (j - 1) < t.rows * t.cols := place_lt hc
      have estep : ∀ p, place (stS t ss) i j = some p → So02.step (stS t ss) (.range i j) = (stS t ss, if (hidden (stS t ss)).contains p = false then So02.ints [num (stS t ss) p, num (stS t ss) p] else So02.ints [least (stS t ss) (hidden (stS t ss)) p, greatest (stS t ss) (hidden (stS t ss)) p]) := by
        intro p hp
        show (_, match place (stS t ss) i j with | none => _ | some p => _) = _
        rw [hp]
      have estep := estep _ epl
      generalize (i - 1) * t.cols + (j - 1) = p at hp estep
      refine ⟨a, pn, pk, t, ss, p, rfl, at0, hp, fun H2 pT s2 hT hT2 => ?_⟩
      refine ⟨pT, _, rfl, .inr (SqT.of hT2), fun pA hpA => ?_⟩
      refine q.same at0 estep (s2.trans (Same.new hpA)) (s2.free hpA) ?_
      rw [upd_same, in_hidden_S hle hp, hidden_S hle]
      unfold loAt hiAt
      rw [any_at]
      by_cases z : ss.getD p 0 = 0
      · rw [z]
        rfl
      · have z' : (ss.getD p 0 != 0) = true := by simpa using z
        rw [z']
        rfl
    · rw [decide_eq_false hc]
      refine iteT ⟨(by decide : 1 ≤ sizeLine), fun pA hpA => ?_⟩
      have e : So02.step (stS t ss) (.range i j) = (stS t ss, [-1]) := by
        show (_, match place (stS t ss) i j with | none => _ | some p => _) = _
        rw [place_none (show ¬ (1 ≤ i ∧ i ≤ (stS t ss).rows ∧ 1 ≤ j ∧ j ≤ (stS t ss).cols) from hc)]
      exact q.same at0 e (Same.new hpA) hpA upd_same
end
end CK
namespace CK
open PySem PySem.Spec PyProof.Rows L2 So02
def stTo (ss : List Nat) (f : Nat → Bool) (i : Nat) : List Nat := (List.range i).filter fun p => f (ss.getD p 0)
theorem stTo_succ (ss : List Nat) (f : Nat → Bool) (i : Nat) : stTo ss f (i + 1) = stTo ss f i ++ (if f (ss.getD i 0) = true then [i] else []) := by
  unfold stTo
  rw [List.range_succ, List.filter_append, List.filter_cons]
  rfl
theorem stTo_any (t : Table) (ss : List Nat) : stTo ss (fun s => s != 0) (t.rows * t.cols) = hid t (anyK ss) := List.filter_congr fun p _ => (any_at ss p).symm
theorem stTo_own (t : Table) (ss : List Nat) : stTo ss (fun s => s == 1) (t.rows * t.cols) = hid t (ownK ss) := List.filter_congr fun p _ => (own_at ss p).symm
theorem wide_at {t : Table} {ks : List Bool} {p : Nat} (h : ks.getD p false = true) : hiAt t ks p - loAt t ks p = wide t (hid t ks) p := by
  unfold hiAt loAt wide
  rw [if_pos h, if_pos h]
section
variable {P : Program} {w : World} {K : PySem.W.Frag} {mg : Str → Option Value} {base : Heap} {C : Addr}
abbrev nmKn : List Str := ["self", "kept_places", "place", "state"]
theorem scKn : FnScope nmKn ["self"] (defScope sKnown) := ⟨rfl, rfl, rfl, by decide +kernel, rfl, by decide +kernel, by decide +kernel⟩
theorem ok_known {f fW fT : Addr} {fd dW dT : FuncData} (F : Fun K "known" "KeptTable.known" sKnown f fd) (T : Txt K mg C) (B : Blt mg) (G : Cst mg) (Wm : MDef P w K mg base C "width_at" 5 ["self", "place"] (spWidth C) fW dW) (Tm : MDef P w K mg base C "cells_told" 1 ["self", "places"] (spTold C K) fT dT) :
    FnOk P w K mg base CX0 6 f fd ["self"] (spNo C .known) := by
  obtain ⟨t0, m0⟩ := G.s0
  refine F.ok scKn (fun vs H Q E h => ?_) (fun cdv A outer s H vs Q E hr h => ?_)
  · obtain ⟨a, pn, pk, t, ss, rfl, _⟩ := h
    rfl
  · obtain ⟨a, pn, pk, t, ss, rfl, at0, q⟩ := h
    refine ⟨_, pss_cons (ps_setLc (i := 1) (own := [("place", 2), ("state", 3)]) (g := gTup K 2 (gCons (gName 2) (gCons (gName 3) gNil))) (tt := tTest (tOp rNe (tVar 3) (tC (.int 0)))) (te := tVar 2) rfl scKn.nd rfl rfl (sw_true rfl rfl rfl (by decide +kernel)) (pi_enum (by rfl) B.enumerate (pa_cons (pe_fld (pv 0) rfl) pa_nil)) (blkOk_by (N := nmKn) (sc := defScope sKnown) (by decide +kernel))
        (fun _ _ _ _ _ => pg_tup rfl (pgs_cons (pg_name (i := 2) scKn.nd rfl (Or.inl rfl)) (pgs_cons (pg_name (i := 3) scKn.nd rfl (Or.inl rfl)) pgs_nil))) (fun _ _ _ _ _ => pts_one (pt_cmpR op_ne (pv 3) (pe_glob (v := .int 0) rfl m0 ⟨_, rfl⟩) (nomark _))) (fun _ _ _ _ _ => pv 2))
      (pss_one (ps_ret (pe_meth (pv 0) T.cl Tm.m Tm.ok (hr.mono (by decide)) Tm.b .nil pass0 (pa_cons
        (pe_lc (own := [("place", 2)]) (g := gName 2) (te := tVar 2) rfl scKn.nd (pi_list (pv 1)) (blkOk_by (N := nmKn) (sc := defScope sKnown) (by decide +kernel))
          (fun _ _ _ _ _ => pg_name (i := 2) scKn.nd rfl (Or.inl rfl)) (fun _ _ _ _ _ => pts_one (pt_cmpR op_eq (pe_meth (pv 0) T.cl Wm.m Wm.ok hr Wm.b .nil pass0 (pa_cons (pv 2) pa_nil)) pe_int (nomark _))) (fun _ _ _ _ _ => pv 2)) pa_nil)))), ?_⟩
    have at1 := at0
    obtain ⟨⟨dx, ho⟩, hn, hk, ok, hle, hne⟩ := at1
    have n12 := ok.n12
    have sl := at0.sl
    refine ⟨_, rfl, a, C, dx, _, _, rfl, ho, T.cl, T.nS, kF_states, pk, _, rfl, SqL.of hk, fun D hD => ?_⟩
    refine lc_it (walk_enum (K := K) (a := pk) (xs := nv ss)) (fun i H' => Same H H' ∧ H' D = some (.lst (nv (stTo ss (fun s => s != 0) i)))) ⟨Same.new hD, upd_same⟩ (fun i H' _ p => p.1.seq (SqL.of hk)) ?_ ?_
    · rintro i x H1 H2 hi ⟨s1, hD1⟩ ⟨T', x1, x2, rfl, hT, rfl, e1, e2⟩
      cases e1
      obtain ⟨hi', rfl⟩ := nv_get e2
      have sT : Same H1 (upd H1 T' (.tup [.int (i : Int), V.int ((ss.getD i 0 : Nat) : Int)])) := Same.new hT
      refine ⟨T', _, rfl, SqT.of upd_same, rfl, _, _, rfl, _, _, rfl, rfl, rfl, ?_⟩
      refine ⟨_, rfl, rfl, _, rfl, ?_⟩
      show if (!decide (V.int ((ss.getD i 0 : Nat) : Int) = V.int ((0 : Nat) : Int))) = true then _ else _
      rw [int_ne]
      by_cases kk : (ss.getD i 0 != 0) = true
      · rw [kk]
        refine iteT ⟨_, rfl, _, sT _ _ hD1, ?_, Same.put hD (s1.trans sT), ?_⟩
        · rw [nv_len]
          refine Nat.lt_of_le_of_lt (List.length_filter_le _ _) ?_
          rw [List.length_range]
          exact Nat.lt_of_lt_of_le (show i < 100000 by omega) (small_size (Nat.le_refl _))
        · rw [upd_same, stTo_succ, if_pos kk]
          unfold nv
          rw [List.map_append]
          rfl
      · rw [show (ss.getD i 0 != 0) = false by simpa using kk]
        refine iteF ⟨s1.trans sT, ?_⟩
        rw [stTo_succ, if_neg kk, List.append_nil]
        exact sT _ _ hD1
    · rintro H1 ⟨s1, hD1⟩
      rw [nv_len, sl, stTo_any] at hD1
      refine ⟨_, rfl, a, dx, _, rfl, s1 _ _ ho, kF_m, _, rfl, D, rfl, ⟨_, SqL.of hD1⟩, fun D2 hD2 => ?_⟩
      have hl : (hid t (anyK ss)).length ≤ 12 := by
        refine Nat.le_trans (List.length_filter_le _ _) ?_
        rw [List.length_range]
        exact n12
      refine lc_filtL (fun p => hiAt t (anyK ss) p - loAt t (anyK ss) p == 0) (by show 2 < 4; decide) (SqL.of hD1) hD2 (by omega) ?_ ?_
      · intro k H2 R hk2 s2 r
        have hm := mem_hid.mp (getD_mem hk2)
        refine ⟨_, rfl, a, dx, _, rfl, s2 _ _ (s1 _ _ ho), kF_m, _, rfl, a, pn, pk, t, ss, _, rfl, at0.mono (s1.trans s2), hm.1, fun H3 s3 => ⟨rfl, _, rfl, ?_⟩⟩
        have r' := r H3 s3
        rw [← int_eq] at r'
        exact r'
      · intro H2 s2 hD3
        have hl2 : ((hid t (anyK ss)).filter fun p => hiAt t (anyK ss) p - loAt t (anyK ss) p == 0).length ≤ 12 := Nat.le_trans (List.length_filter_le _ _) hl
        refine ⟨a, pn, pk, D2, t, ss, _, rfl, at0.mono (s1.trans s2), SqL.of hD3, hl2, fun H3 p s3 hp hp3 => ?_⟩
        refine q.same at0 (ans := cellRow t ((hid t (anyK ss)).filter fun p => hiAt t (anyK ss) p - loAt t (anyK ss) p == 0)) ?_ ((s1.trans s2).trans s3) ((s1.trans s2).free hp) hp3
        show (stS t ss, cellRow (stS t ss) ((hidden (stS t ss)).filter fun p => wide (stS t ss) (hidden (stS t ss)) p == 0)) = _
        rw [hidden_S hle]
        have e : ((hid t (anyK ss)).filter fun p => hiAt t (anyK ss) p - loAt t (anyK ss) p == 0) = (hid t (anyK ss)).filter fun p => wide (stS t ss) (hid t (anyK ss)) p == 0 := List.filter_congr fun p hp => by
          rw [wide_at (mem_hid.mp hp).2]
          rfl
        rw [e]
        rfl
abbrev nmNe : List Str := ["self", "w", "own_places", "place", "state"]
theorem scNe : FnScope nmNe ["self", "w"] (defScope sNear) := ⟨rfl, rfl, rfl, by decide +kernel, rfl, by decide +kernel, by decide +kernel⟩
theorem ok_near {f fW fT : Addr} {fd dW dT : FuncData} (F : Fun K "near" "KeptTable.near" sNear f fd) (T : Txt K mg C) (B : Blt mg) (G : Cst mg) (Wm : MDef P w K mg base C "width_at" 5 ["self", "place"] (spWidth C) fW dW) (Tm : MDef P w K mg base C "cells_told" 1 ["self", "places"] (spTold C K) fT dT) :
    FnOk P w K mg base CX0 6 f fd ["self", "w"] (spW C .near) := by
  obtain ⟨t0, m0⟩ := G.s1
  refine F.ok scNe (fun vs H Q E h => ?_) (fun cdv A outer s H vs Q E hr h => ?_)
  · obtain ⟨a, pn, pk, t, ss, wd, rfl, _⟩ := h
    rfl
  · obtain ⟨a, pn, pk, t, ss, wd, rfl, at0, q⟩ := h
    refine ⟨_, pss_cons (ps_setLc (i := 2) (own := [("place", 3), ("state", 4)]) (g := gTup K 2 (gCons (gName 3) (gCons (gName 4) gNil))) (tt := tTest (tOp rEq (tVar 4) (tC (.int 1)))) (te := tVar 3) rfl scNe.nd rfl rfl (sw_true rfl rfl rfl (by decide +kernel)) (pi_enum (by rfl) B.enumerate (pa_cons (pe_fld (pv 0) rfl) pa_nil)) (blkOk_by (N := nmNe) (sc := defScope sNear) (by decide +kernel))
        (fun _ _ _ _ _ => pg_tup rfl (pgs_cons (pg_name (i := 3) scNe.nd rfl (Or.inl rfl)) (pgs_cons (pg_name (i := 4) scNe.nd rfl (Or.inl rfl)) pgs_nil))) (fun _ _ _ _ _ => pts_one (pt_cmpR op_eq (pv 4) (pe_glob (v := .int 1) rfl m0 ⟨_, rfl⟩) (nomark _))) (fun _ _ _ _ _ => pv 3))
      (pss_one (ps_ret (pe_meth (pv 0) T.cl Tm.m Tm.ok (hr.mono (by decide)) Tm.b .nil pass0 (pa_cons
        (pe_lc (own := [("place", 3)]) (g := gName 3) (te := tVar 3) rfl scNe.nd (pi_list (pv 2)) (blkOk_by (N := nmNe) (sc := defScope sNear) (by decide +kernel))
          (fun _ _ _ _ _ => pg_name (i := 3) scNe.nd rfl (Or.inl rfl)) (fun _ _ _ _ _ => pts_one (pt_cmpR op_lt (pe_meth (pv 0) T.cl Wm.m Wm.ok hr Wm.b .nil pass0 (pa_cons (pv 3) pa_nil)) (pv 1) (nomark _))) (fun _ _ _ _ _ => pv 3)) pa_nil)))), ?_⟩
    have at1 := at0
    obtain ⟨⟨dx, ho⟩, hn, hk, ok, hle, hne⟩ := at1
    have n12 := ok.n12
    have sl := at0.sl
    refine ⟨_, rfl, a, C, dx, _, _, rfl, ho, T.cl, T.nS, kF_states, pk, _, rfl, SqL.of hk, fun D hD => ?_⟩
    refine lc_it (walk_enum (K := K) (a := pk) (xs := nv ss)) (fun i H' => Same H H' ∧ H' D = some (.lst (nv (stTo ss (fun s => s == 1) i)))) ⟨Same.new hD, upd_same⟩ (fun i H' _ p => p.1.seq (SqL.of hk)) ?_ ?_
    · rintro i x H1 H2 hi ⟨s1, hD1⟩ ⟨T', x1, x2, rfl, hT, rfl, e1, e2⟩
      cases e1
      obtain ⟨hi', rfl⟩ := nv_get e2
      have sT : Same H1 (upd H1 T' (.tup [.int (i : Int), V.int ((ss.getD i 0 : Nat) : Int)])) := Same.new hT
      refine ⟨T', _, rfl, SqT.of upd_same, rfl, _, _, rfl, _, _, rfl, rfl, rfl, ?_⟩
      refine ⟨_, rfl, rfl, _, rfl, ?_⟩
      show if decide (V.int ((ss.getD i 0 : Nat) : Int) = V.int ((1 : Nat) : Int)) = true then _ else _
      rw [int_eq]
      by_cases kk : (ss.getD i 0 == 1) = true
      · rw [kk]
        refine iteT ⟨_, rfl, _, sT _ _ hD1, ?_, Same.put hD (s1.trans sT), ?_⟩
        · rw [nv_len]
          refine Nat.lt_of_le_of_lt (List.length_filter_le _ _) ?_
          rw [List.length_range]
          exact Nat.lt_of_lt_of_le (show i < 100000 by omega) (small_size (Nat.le_refl _))
        · rw [upd_same, stTo_succ, if_pos kk]
          unfold nv
          rw [List.map_append]
          rfl
      · rw [show (ss.getD i 0 == 1) = false by simpa using kk]
        refine iteF ⟨s1.trans sT, ?_⟩
        rw [stTo_succ, if_neg kk, List.append_nil]
        exact sT _ _ hD1
    · rintro H1 ⟨s1, hD1⟩
      rw [nv_len, sl, stTo_own] at hD1
      refine ⟨_, rfl, a, dx, _, rfl, s1 _ _ ho, kF_m, _, rfl, D, rfl, ⟨_, SqL.of hD1⟩, fun D2 hD2 => ?_⟩
      have hl : (hid t (ownK ss)).length ≤ 12 := by
        refine Nat.le_trans (List.length_filter_le _ _) ?_
        rw [List.length_range]
        exact n12
      refine lc_filtL (fun p => decide (hiAt t (anyK ss) p - loAt t (anyK ss) p < wd)) (by show 3 < 5; decide) (SqL.of hD1) hD2 (by omega) ?_ ?_
      · intro k H2 R hk2 s2 r
        have hm := mem_hid.mp (getD_mem hk2)
        refine ⟨_, rfl, a, dx, _, rfl, s2 _ _ (s1 _ _ ho), kF_m, _, rfl, a, pn, pk, t, ss, _, rfl, at0.mono (s1.trans s2), hm.1, fun H3 s3 => ⟨_, rfl, _, _, rfl, rfl, _, rfl, ?_⟩⟩
        have r' := r H3 s3
        have e : ∀ n : Nat, decide ((n : Int) < (wd : Int)) = decide (n < wd) := fun n => by
          rw [Bool.eq_iff_iff, decide_eq_true_iff, decide_eq_true_iff]
          omega
        rw [← e] at r'
        exact r'
      · intro H2 s2 hD3
        have hl2 : ((hid t (ownK ss)).filter fun p => decide (hiAt t (anyK ss) p - loAt t (anyK ss) p < wd)).length ≤ 12 := Nat.le_trans (List.length_filter_le _ _) hl
        refine ⟨a, pn, pk, D2, t, ss, _, rfl, at0.mono (s1.trans s2), SqL.of hD3, hl2, fun H3 p s3 hp hp3 => ?_⟩
        refine q.same at0 (ans := cellRow t ((hid t (ownK ss)).filter fun p => decide (hiAt t (anyK ss) p - loAt t (anyK ss) p < wd))) ?_ ((s1.trans s2).trans s3) ((s1.trans s2).free hp) hp3
        show (stS t ss, cellRow (stS t ss) ((hid t (ownK ss)).filter fun p => decide (wide (stS t ss) (hidden (stS t ss)) p < wd))) = _
        rw [hidden_S hle]
        have e : ((hid t (ownK ss)).filter fun p => decide (hiAt t (anyK ss) p - loAt t (anyK ss) p < wd)) = (hid t (ownK ss)).filter fun p => decide (wide (stS t ss) (hid t (anyK ss)) p < wd) := List.filter_congr fun p hp => by
          have h1 := (mem_hid.mp hp).2
          rw [own_at] at h1
          have h2 : (anyK ss).getD p false = true := by rw [any_at, beq_iff_eq.mp h1]; rfl
          rw [wide_at h2]
          rfl
        rw [e]
        rfl
theorem scMo : FnScope ["self", "w", "places"] ["self", "w"] (defScope sMore) := ⟨rfl, rfl, rfl, by decide +kernel, rfl, by decide +kernel, by decide +kernel⟩
theorem more_is (t : Table) (ss : List Nat) (wd : Nat) : So02.more (stS t ss) wd = moreK t (ownK ss) wd := rfl
theorem ok_more {f fW fT : Addr} {fd dW dT : FuncData} (F : Fun K "more" "KeptTable.more" sMore f fd) (T : Txt K mg C) (G : Cst mg) (Fm : MDef P w K mg base C "fewest_places" 5 ["self", "w"] (spFewP C) fW dW) (Tm : MDef P w K mg base C "cells_told" 1 ["self", "places"] (spTold C K) fT dT) :
    FnOk P w K mg base CX0 6 f fd ["self", "w"] (spW C .more) := by
  obtain ⟨t0, m0⟩ := G.nE
  refine F.ok scMo (fun vs H Q E h => ?_) (fun cdv A outer s H vs Q E hr h => ?_)
  · obtain ⟨a, pn, pk, t, ss, wd, rfl, _⟩ := h
    rfl
  · obtain ⟨a, pn, pk, t, ss, wd, rfl, at0, q⟩ := h
    refine ⟨_, pss_cons (ps_set (i := 2) scMo.nd rfl (Or.inl rfl) (pe_meth (pv 0) T.cl Fm.m Fm.ok hr Fm.b .nil pass0 (pa_cons (pv 1) pa_nil)))
      (pss_cons (ps_if (pt_cmpR op_isN (pv 2) pe_non (nomark _)) (pss_one (ps_ret (pe_lst (pa_cons (pe_glob (v := .int (-6)) rfl m0 ⟨_, rfl⟩) pa_nil)))) pss_nil)
      (pss_one (ps_ret (pe_meth (pv 0) T.cl Tm.m Tm.ok (hr.mono (by decide)) Tm.b .nil pass0 (pa_cons (pv 2) pa_nil))))), ?_⟩
    have at1 := at0
    obtain ⟨⟨dx, ho⟩, hn, hk, ok, hle, hne⟩ := at1
    have estep : So02.step (stS t ss) (.more wd) = (stS t ss, match moreK t (ownK ss) wd with | none => [-6] | some c => cellRow (stS t ss) c) := rfl
    refine ⟨_, rfl, a, dx, _, rfl, ho, kF_m, _, rfl, a, pn, pk, t, ss, wd, rfl, at0, fun H1 s1 e => ?_, fun H1 p c s1 e hp => ?_⟩
    · refine ⟨_, rfl, rfl, _, rfl, ?_⟩
      show if decide (V.non = V.non) = true then _ else _
      rw [decide_eq_true rfl]
      refine iteT ⟨(by decide : 1 ≤ sizeLine), fun pA hpA => ?_⟩
      rw [e] at estep
      exact q.same at0 estep (s1.trans (Same.new hpA)) (s1.free hpA) upd_same
    · refine ⟨_, rfl, rfl, _, rfl, ?_⟩
      show if decide (V.ref p = V.non) = true then _ else _
      rw [decide_eq_false (fun z => by cases z)]
      refine iteF ?_
      have hsub := more_sub (by rw [own_len]; exact at0.sl) e
      have hlen : c.length ≤ 12 := by
        have h1 := sub_len (free_nd t (ownK ss)) hsub
        have h2 := free_len t (ownK ss)
        have h3 := ok.n12
        omega
      refine ⟨_, rfl, a, dx, _, rfl, s1 _ _ ho, kF_m, _, rfl, a, pn, pk, p, t, ss, c, rfl, at0.mono s1, SqL.of hp, hlen, fun H2 pA s2 hpA hpA2 => ?_⟩
      rw [e] at estep
      exact q.same at0 estep (s1.trans s2) (s1.free hpA) hpA2
/-! ### hide -/
def base1 (ss : List Nat) : List Nat := ss.map fun s => if s == 1 then 1 else 0
def set2 (b c : List Nat) : List Nat := c.foldl (fun m p => m.set p 2) b
theorem set2_len : ∀ (c b : List Nat), (set2 b c).length = b.length
  | [], _ => rfl
  | p :: c, b => by
    show (set2 (b.set p 2) c).length = _
    rw [set2_len c, List.length_set]
theorem set2_at : ∀ (c b : List Nat) {p : Nat}, p < b.length → (set2 b c).getD p 0 = if c.contains p = true then 2 else b.getD p 0
  | [], b, p, _ => rfl
  | q :: c, b, p, h => by
    show (set2 (b.set q 2) c).getD p 0 = _
    rw [set2_at c _ (by rw [List.length_set]; exact h), List.contains_cons]
    by_cases z : c.contains p = true
    · rw [if_pos z, if_pos (by rw [z]; simp)]
    · have z' : c.contains p = false := by simpa using z
      rw [if_neg z, z', Bool.or_false]
      rw [List.getD_eq_getElem?_getD, List.getElem?_set]
      by_cases w : p = q
      · subst w
        rw [if_pos rfl, if_pos h, if_pos (by simp)]
        rfl
      · rw [if_neg (fun y => w y.symm), if_neg (by simpa using w), List.getD_eq_getElem?_getD]
theorem set2_snoc (b c : List Nat) (p : Nat) : set2 b (c ++ [p]) = (set2 b c).set p 2 := by
  unfold set2
  rw [List.foldl_append]
  rfl
theorem base1_at (ss : List Nat) (p : Nat) : (base1 ss).getD p 0 = if ss.getD p 0 == 1 then 1 else 0 := by
  unfold base1
  rw [List.getD_eq_getElem?_getD, List.getD_eq_getElem?_getD, List.getElem?_map]
  cases ss[p]? <;> rfl
theorem set2_le {b : List Nat} (h : ∀ s ∈ b, s ≤ 2) : ∀ (c : List Nat), ∀ s ∈ set2 b c, s ≤ 2 := by
  intro c
  induction c generalizing b with
  | nil => exact h
  | cons p c ih => exact ih (le_set h (Nat.le_refl 2))
theorem hide_st {t : Table} {ss c : List Nat} (hl : ss.length = t.rows * t.cols) (h : c ∈ subsets (frees t (ownK ss))) : stS t (set2 (base1 ss) c) = { stS t ss with also := c } := by
  have bl : (base1 ss).length = t.rows * t.cols := by unfold base1; rw [List.length_map]; exact hl
  have e1 : pick (t.rows * t.cols) (fun p => (ownK (set2 (base1 ss) c)).getD p false) = pick (t.rows * t.cols) (fun p => (ownK ss).getD p false) := by
    refine pick_congr fun p hp => ?_
    rw [own_at, own_at, set2_at c _ (by rw [bl]; exact hp), base1_at]
    by_cases z : c.contains p = true
    · have := subs_sub h p (List.contains_iff_mem.mp z)
      have h1 := (List.mem_filter.mp this).2
      rw [own_at] at h1
      have h2 : (ss.getD p 0 == 1) = false := by simpa using h1
      rw [if_pos z, h2]
      rfl
    · rw [if_neg z]
      cases (ss.getD p 0 == 1) <;> rfl
  have e2 : pick (t.rows * t.cols) (fun p => (alsK (set2 (base1 ss) c)).getD p false) = c := by
    have ec := subs_eq (free_nd t (ownK ss)) h
    have e3 : pick (t.rows * t.cols) (fun p => (alsK (set2 (base1 ss) c)).getD p false) = (frees t (ownK ss)).filter fun i => c.contains i := by
      unfold pick frees
      rw [List.filter_filter]
      refine List.filter_congr fun p hp => ?_
      have hp := List.mem_range.mp hp
      rw [als_at, set2_at c _ (by rw [bl]; exact hp), base1_at]
      by_cases z : c.contains p = true
      · have := subs_sub h p (List.contains_iff_mem.mp z)
        have h1 := (List.mem_filter.mp this).2
        rw [if_pos z, z, h1]
        rfl
      · have z' : c.contains p = false := by simpa using z
        rw [if_neg z, z']
        cases (ss.getD p 0 == 1) <;> rfl
    rw [e3, ← ec]
  show Table.mk _ _ _ (pick _ _) (pick _ _) = Table.mk _ _ _ (pick _ _) c
  rw [e1, e2]
  rfl
abbrev nmHi : List Str := ["self", "w", "places", "place", "state"]
theorem scHi : FnScope nmHi ["self", "w"] (defScope sHide) := ⟨rfl, rfl, rfl, by decide +kernel, rfl, by decide +kernel, by decide +kernel⟩
theorem ok_hide {f fW : Addr} {fd dW : FuncData} (F : Fun K "hide" "KeptTable.hide" sHide f fd) (T : Txt K mg C) (B : Blt mg) (G : Cst mg) (Fm : MDef P w K mg base C "fewest_places" 5 ["self", "w"] (spFewP C) fW dW) :
    FnOk P w K mg base CX0 6 f fd ["self", "w"] (spW C .hide) := by
  obtain ⟨t0, m0⟩ := G.nE
  obtain ⟨u0, n0⟩ := G.s0
  obtain ⟨u1, n1⟩ := G.s1
  obtain ⟨u2, n2⟩ := G.s2
  refine F.ok scHi (fun vs H Q E h => ?_) (fun cdv A outer s H vs Q E hr h => ?_)
  · obtain ⟨a, pn, pk, t, ss, wd, rfl, _⟩ := h
    rfl
  · obtain ⟨a, pn, pk, t, ss, wd, rfl, at0, q⟩ := h
    refine ⟨_, pss_cons (ps_set (i := 2) scHi.nd rfl (Or.inl rfl) (pe_meth (pv 0) T.cl Fm.m Fm.ok hr Fm.b .nil pass0 (pa_cons (pv 1) pa_nil)))
      (pss_cons (ps_if (pt_cmpR op_isN (pv 2) pe_non (nomark _)) (pss_one (ps_ret (pe_lst (pa_cons (pe_glob (v := .int (-6)) rfl m0 ⟨_, rfl⟩) pa_nil)))) pss_nil)
      (pss_cons (ps_fld (pv 0) (pe_lc (own := [("state", 4)]) (g := gName 4) (tt := tYes) rfl scHi.nd (pi_list (pe_fld (pv 0) rfl)) (blkOk_by (N := nmHi) (sc := defScope sHide) (by decide +kernel))
          (fun _ _ _ _ _ => pg_name (i := 4) scHi.nd rfl (Or.inl rfl)) (fun _ _ _ _ _ => pts_nil) (fun _ _ _ _ _ => pe_ifExp (pt_cmpR op_eq (pv 4) (pe_glob (v := .int 1) rfl n1 ⟨_, rfl⟩) (nomark _)) (pe_glob (v := .int 1) rfl n1 ⟨_, rfl⟩) (pe_glob (v := .int 0) rfl n0 ⟨_, rfl⟩))) rfl)
      (pss_cons (ps_for PassesOwn.never rfl (pi_list (pv 2)) (pg_name (i := 3) scHi.nd rfl (Or.inl rfl)) (pss_one (ps_asg (pe_glob (v := .int 2) rfl n2 ⟨_, rfl⟩) (pg_sub (pe_fld (pv 0) rfl) (pv 3) set_list))))
      (pss_one (ps_ret (pe_lst (pa_cons (pe_callB call_len_seq (by rfl) B.len PySem.boot_len (pa_cons (pv 2) pa_nil)) pa_nil))))))), ?_⟩
    have at1 := at0
    obtain ⟨⟨dx, ho⟩, hn, hk, ok, hle, hne⟩ := at1
    have n12 := ok.n12
    have sl := at0.sl
    have estep : So02.step (stS t ss) (.hide wd) = match moreK t (ownK ss) wd with | none => (stS t ss, [-6]) | some c => ({ stS t ss with also := c }, So02.ints [c.length]) := rfl
    refine ⟨_, rfl, a, dx, _, rfl, ho, kF_m, _, rfl, a, pn, pk, t, ss, wd, rfl, at0, fun H1 s1 e => ?_, fun H1 p c s1 e hp => ?_⟩
    · refine ⟨_, rfl, rfl, _, rfl, ?_⟩
      show if decide (V.non = V.non) = true then _ else _
      rw [decide_eq_true rfl]
      refine iteT ⟨(by decide : 1 ≤ sizeLine), fun pA hpA => ?_⟩
      rw [e] at estep
      exact q.same at0 estep (s1.trans (Same.new hpA)) (s1.free hpA) upd_same
    · refine ⟨_, rfl, rfl, _, rfl, ?_⟩
      show if decide (V.ref p = V.non) = true then _ else _
      rw [decide_eq_false (fun z => by cases z)]
      refine iteF ?_
      have hsub := more_sub (by rw [own_len]; exact at0.sl) e
      have hlen : c.length ≤ 12 := by
        have h1 := sub_len (free_nd t (ownK ss)) hsub
        have h2 := free_len t (ownK ss)
        omega
      have hlt : ∀ x ∈ c, x < t.rows * t.cols := fun x hx => List.mem_range.mp (List.mem_filter.mp (subs_sub hsub x hx)).1
      rw [e] at estep
      refine ⟨_, rfl, a, C, dx, _, _, rfl, s1 _ _ ho, T.cl, T.nS, kF_states, pk, rfl, ⟨_, SqL.of (s1 _ _ hk)⟩, fun D hD => ?_⟩
      refine lc_mapL (fun k => .int (((if ss.getD k 0 == 1 then 1 else 0 : Nat)) : Int)) (SqL.of (s1 _ _ hk)) hD (by rw [nv_len]; omega) ?_ ?_
      · intro k x H2 R hx s2 r
        obtain ⟨hk2, rfl⟩ := nv_get hx
        refine ⟨_, rfl, rfl, _, rfl, ?_⟩
        have r' := r H2 (Same.refl _)
        show if decide (V.int ((ss.getD k 0 : Nat) : Int) = V.int ((1 : Nat) : Int)) = true then _ else _
        rw [int_eq]
        by_cases z : (ss.getD k 0 == 1) = true
        · rw [if_pos z] at r'
          rw [z]
          exact iteT r'
        · rw [if_neg z] at r'
          rw [show (ss.getD k 0 == 1) = false by simpa using z]
          exact iteF r'
      · intro H2 s2 hD2
        have eB : (List.range (nv ss).length).map (fun k => V.int (((if ss.getD k 0 == 1 then 1 else 0 : Nat)) : Int)) = nv (base1 ss) := by
          rw [nv_len, map_getD (fun s => V.int (((if s == 1 then 1 else 0 : Nat)) : Int))]
          unfold nv base1
          rw [List.map_map]
          rfl
        rw [eB] at hD2
        have s12 := s1.trans s2
        refine ⟨_, rfl, a, C, dx, _, rfl, s12 _ _ ho, T.cl, T.nS, k4_len, ?_⟩
        have oS : putF "states" (.ref D) (kF t.rows t.cols pn pk) = kF t.rows t.cols pn D := k4_states
        rw [oS]
        have nDa : D ≠ a := fun z => by rw [z, s1 _ _ ho] at hD; cases hD
        have nDn : pn ≠ D := ne_of_none (s1 _ _ hn) hD
        have nDp : p ≠ D := ne_of_none hp hD
        have npa : p ≠ a := fun z => by
          have := s1 _ _ ho
          rw [← z, hp] at this
          cases this
        have nna : pn ≠ a := fun z => by
          have := ho
          rw [← z, hn] at this
          cases this
        have fD : H D = none := s1.free hD
        have p3 : upd H2 a (.ins C dx (kF t.rows t.cols pn D)) p = some (.lst (nv c)) := by rw [upd_ne npa]; exact s2 _ _ hp
        refine ⟨_, rfl, p, rfl, ⟨_, SqL.of p3⟩, for_list (K := K) (a := p) (xs := nv c) (fun i σ H' => ∃ v3 : Option V, σ = [some (.ref a), some (.int (wd : Int)), some (.ref p), v3, none] ∧ Fr H H' a ∧ H' a = some (.ins C dx (kF t.rows t.cols pn D)) ∧ H' pn = some (.lst (nv t.nums)) ∧ H' p = some (.lst (nv c)) ∧ H' D = some (.lst (nv (set2 (base1 ss) (c.take i)))))
          ⟨none, rfl, fun b o hb n1 => by rw [upd_ne n1]; exact s12 _ _ hb, upd_same, by rw [upd_ne nna]; exact s12 _ _ hn, p3, by rw [upd_ne nDa]; exact hD2⟩ (fun i σ H' _ ⟨_, _, _, _, _, h, _⟩ => SqL.of h) ?_ ?_⟩
        · rintro i x σ H4 hx ⟨v3, rfl, f4, a4, n4, p4, d4⟩
          obtain ⟨hi, rfl⟩ := nv_get hx
          have hci : c[i]? = some (c.getD i 0) := by
            rw [List.getD_eq_getElem?_getD, List.getElem?_eq_getElem hi]
            rfl
          have hx := hlt _ (getD_mem hi)
          have lb : (nv (set2 (base1 ss) (c.take i))).length = t.rows * t.cols := by rw [nv_len, set2_len]; unfold base1; rw [List.length_map]; exact sl
          refine ⟨_, rfl, a, C, dx, _, _, rfl, a4, T.cl, T.nS, kF_states, _, rfl, D, _, _, c.getD i 0, rfl, rfl, d4, ixN_nat (by rw [lb]; exact hx), ?_⟩
          refine ⟨_, rfl, fun b o hb n1 => ?_, by rw [upd_ne nDa.symm]; exact a4, by rw [upd_ne nDn]; exact n4, by rw [upd_ne nDp]; exact p4, ?_⟩
          · rw [upd_ne (ne_of_none hb fD)]
            exact f4 b o hb n1
          · rw [upd_same, take_more hci, set2_snoc]
            exact congrArg (fun l => some (HO.lst l)) (nv_set (v := 2))
        · rintro σ H4 ⟨v3, rfl, f4, a4, n4, p4, d4⟩
          rw [nv_len, List.take_length] at d4
          refine ⟨_, rfl, p, _, rfl, .inl (SqL.of p4), (by decide : 1 ≤ sizeLine), fun pA hpA => ?_⟩
          have nAa : pA ≠ a := fun z => by rw [z, a4] at hpA; cases hpA
          refine q _ pA pn D t (set2 (base1 ss) c) (by rw [estep]; exact hide_st sl hsub) (fun b o hb n1 _ _ => Same.new hpA _ _ (f4 b o hb n1)) ⟨⟨dx, Same.new hpA _ _ a4⟩, Same.new hpA _ _ n4, Same.new hpA _ _ d4, ok.marks (by rw [any_len, any_len, set2_len]; unfold base1; rw [List.length_map]), set2_le (fun s hs => ?_) c, nDn⟩ (.inl rfl) (.inr fD) (f4.free nAa hpA) ?_
          · obtain ⟨y, _, rfl⟩ := List.mem_map.mp hs
            split <;> decide
          · rw [upd_same, estep, nv_len]
            rfl
end
end CK
namespace CK
open PySem PySem.Spec PyProof.Rows L2 So02
/-! ### lists of numbers beside one another -/
theorem eqv_ints : ∀ a b : List Int, PyData.eqvAll (a.map PyData.int) (b.map PyData.int) = decide (a = b)
  | [], [] => by simp [PyData.eqvAll]
  | [], _ :: _ => by simp [PyData.eqvAll]
  | _ :: _, [] => by simp [PyData.eqvAll]
  | x :: a, y :: b => by
    have ih := eqv_ints a b
    simp only [List.map_cons, PyData.eqvAll, PyData.eqv, ih]
    rw [Bool.eq_iff_iff]
    simp
theorem dp_ints {K : PySem.W.Frag} {H : Hp} : ∀ l : List Int, DpAll K H (l.map V.int) (l.map PyData.int)
  | [] => .nil
  | i :: l => .cons (.int i) (dp_ints l)
theorem op_eqU {X : Cx} (hu : X.A.units + 64 < cLine) : OpR X (compareOp .Eq) (fun x y H Q => ∃ (p q : Addr) (l m : List Nat), x = .ref p ∧ y = .ref q ∧ SqL X.K H p (nv l) ∧ SqL X.K H q (nv m) ∧ Q (.bl (decide (l = m))) H) := by
  intro pins s σ H x y v u Q I rx ry h
  obtain ⟨p, q, l, m, rfl, rfl, hp, hq, k⟩ := h
  rw [nv_ints] at hp hq
  refine op_eqD hu pins s σ H _ _ v u Q I rx ry ⟨_, _, .lst hp (dp_ints _), .lst hq (dp_ints _), PySem.W.shaped_ints _, PySem.W.shaped_ints _, ?_⟩
  have e : PyData.eqv (.list ((l.map fun (n : Nat) => (n : Int)).map PyData.int)) (.list ((m.map fun (n : Nat) => (n : Int)).map PyData.int)) = decide (l = m) := by
    simp only [PyData.eqv]
    rw [eqv_ints, Bool.eq_iff_iff, decide_eq_true_iff, decide_eq_true_iff]
    constructor
    · intro z
      exact List.map_inj_right (fun x y h => by omega) |>.mp z
    · intro z
      rw [z]
  rw [e]
  exact k
/-! ### shown -/
def shTo (t : Table) (ss : List Nat) (i : Nat) : List Nat := [t.rows, t.cols] ++ (List.range i).flatMap fun p => if (ss.getD p 0 != 0) = true then [0] else [1, num t p]
theorem shTo_succ (t : Table) (ss : List Nat) (i : Nat) : shTo t ss (i + 1) = shTo t ss i ++ (if (ss.getD i 0 != 0) = true then [0] else [1, num t i]) := by
  unfold shTo
  rw [List.range_succ, List.flatMap_append, List.append_assoc]
  congr 2
  rw [List.flatMap_cons]
  show _ ++ [] = _
  rw [List.append_nil]
theorem shTo_len (t : Table) (ss : List Nat) : ∀ i, (shTo t ss i).length ≤ 2 + 2 * i
  | 0 => Nat.le_refl _
  | i + 1 => by
    rw [shTo_succ, List.length_append]
    have := shTo_len t ss i
    have : (if (ss.getD i 0 != 0) = true then [0] else [1, num t i]).length ≤ 2 := by split <;> simp
    omega
section
variable {P : Program} {w : World} {K : PySem.W.Frag} {mg : Str → Option Value} {base : Heap} {C : Addr}
abbrev nmSh : List Str := ["self", "answer", "place", "number"]
theorem scSh : FnScope nmSh ["self"] (defScope sShown) := ⟨rfl, rfl, rfl, by decide +kernel, rfl, by decide +kernel, by decide +kernel⟩
theorem ok_shown {f : Addr} {fd : FuncData} (F : Fun K "shown" "KeptTable.shown" sShown f fd) (T : Txt K mg C) (B : Blt mg) (G : Cst mg) : FnOk P w K mg base CX0 1 f fd ["self"] (spNo C .shown) := by
  obtain ⟨t0, m0⟩ := G.s0
  refine F.ok scSh (fun vs H Q E h => ?_) (fun cdv A outer s H vs Q E hr h => ?_)
  · obtain ⟨a, pn, pk, t, ss, rfl, _⟩ := h
    rfl
  · obtain ⟨a, pn, pk, t, ss, rfl, at0, q⟩ := h
    refine ⟨_, pss_cons (ps_set (i := 1) scSh.nd rfl (Or.inl rfl) (pe_lst (pa_cons (pe_fld (pv 0) rfl) (pa_cons (pe_fld (pv 0) rfl) pa_nil))))
      (pss_cons (ps_for PassesOwn.never rfl (pi_enum (by rfl) B.enumerate (pa_cons (pe_fld (pv 0) rfl) pa_nil)) (pg_tup rfl (pgs_cons (pg_name (i := 2) scSh.nd rfl (Or.inl rfl)) (pgs_cons (pg_name (i := 3) scSh.nd rfl (Or.inl rfl)) pgs_nil)))
        (pss_one (ps_if (pt_cmpR op_eq (pe_ix ix_list (pe_fld (pv 0) rfl) (pv 2) (fun _ _ => rfl)) (pe_glob (v := .int 0) rfl m0 ⟨_, rfl⟩) (nomark _))
          (pss_one (ps_expr (pe_bm PySem.F.plainAttrs_list PySem.F.slot_list_extend PySem.F.type_list_extend mt_extend (pv 1) (pa_cons (pe_lst (pa_cons pe_int (pa_cons (pv 3) pa_nil))) pa_nil))))
          (pss_one (ps_expr (pe_bm PySem.F.plainAttrs_list PySem.F.slot_list_append PySem.F.type_list_append mt_append (pv 1) (pa_cons pe_int pa_nil)))))))
      (pss_one (ps_ret (pv 1)))), ?_⟩
    have at1 := at0
    obtain ⟨⟨dx, ho⟩, hn, hk, ok, hle, hne⟩ := at1
    have n12 := ok.n12
    refine ⟨_, rfl, a, C, dx, _, _, rfl, ho, T.cl, T.nR, kF_rows, _, rfl, a, C, dx, _, _, rfl, ho, T.cl, T.nC, kF_columns, (by decide : 2 ≤ sizeLine), fun p hp => ?_⟩
    have s0 : Same H (upd H p (.lst [V.int (t.rows : Int), V.int (t.cols : Int)])) := Same.new hp
    refine ⟨_, rfl, a, C, dx, _, _, rfl, s0 _ _ ho, T.cl, T.nN, kF_numbers, pn, _, rfl, SqL.of (s0 _ _ hn), for_it (walk_enum (K := K) (a := pn) (xs := nv t.nums)) (fun i σ H' => ∃ v2 v3 : Option V, σ = [some (.ref a), some (.ref p), v2, v3] ∧ Same H H' ∧ H' p = some (.lst (nv (shTo t ss i))))
      ⟨none, none, rfl, s0, upd_same⟩ (fun i σ H' _ ⟨_, _, _, s5, _⟩ => s5.seq (SqL.of hn)) ?_ ?_⟩
    · rintro i x σ H1 H2 hi ⟨v2, v3, rfl, s1, hp1⟩ ⟨T', x1, x2, rfl, hT, rfl, e1, e2⟩
      cases e1
      have hi' : i < t.rows * t.cols := by rw [nv_len, ok.len] at hi; exact hi
      have ex : x2 = .int (num t i : Int) := (Option.some.inj ((nv_at (at0.nu hi')).symm.trans e2)).symm
      subst ex
      have sT : Same H1 (upd H1 T' (.tup [.int (i : Int), .int (num t i : Int)])) := Same.new hT
      have s2 := s1.trans sT
      have hp2 := sT _ _ hp1
      have hlen := shTo_len t ss i
      refine ⟨T', _, rfl, SqT.of upd_same, rfl, _, _, rfl, _, _, rfl, rfl, ?_⟩
      refine ⟨_, rfl, a, C, dx, _, _, rfl, s2 _ _ ho, T.cl, T.nS, kF_states, _, rfl, pk, _, _, _, rfl, rfl, SqL.of (s2 _ _ hk), atI_nat (nv_at (at0.st hi')), rfl, _, rfl, ?_⟩
      show if decide (V.int ((ss.getD i 0 : Nat) : Int) = V.int ((0 : Nat) : Int)) = true then _ else _
      rw [int_eq]
      by_cases z : ss.getD i 0 = 0
      · have z1 : (ss.getD i 0 == 0) = true := by simpa using z
        have z2 : (ss.getD i 0 != 0) = false := by show (!(ss.getD i 0 == 0)) = false; rw [z1]; rfl
        rw [z1]
        refine iteT ?_
        refine ⟨_, rfl, .inl ⟨rfl, _, SqL.of hp2⟩, _, rfl, (by decide : 2 ≤ sizeLine), fun l2 hl2 => ?_⟩
        have nl : p ≠ l2 := ne_of_none hp2 hl2
        refine ⟨p, l2, _, _, rfl, rfl, Same.new hl2 _ _ hp2, upd_same, ?_, ?_⟩
        · rw [nv_len]
          exact Nat.le_trans (show (shTo t ss i).length + 2 ≤ 100 by omega) (by decide)
        · refine ⟨_, _, rfl, Same.put hp (s2.trans (Same.new hl2)), ?_⟩
          rw [upd_same, shTo_succ, z2, if_neg Bool.false_ne_true]
          unfold nv
          rw [List.map_append]
          rfl
      · have z1 : (ss.getD i 0 == 0) = false := by simpa using z
        have z2 : (ss.getD i 0 != 0) = true := by show (!(ss.getD i 0 == 0)) = true; rw [z1]; rfl
        rw [z1]
        refine iteF ?_
        refine ⟨_, rfl, .inl ⟨rfl, _, SqL.of hp2⟩, p, _, _, rfl, rfl, hp2, ?_, ?_⟩
        · rw [nv_len]
          exact Nat.lt_of_le_of_lt (show (shTo t ss i).length ≤ 100 by omega) (by decide)
        · refine ⟨_, _, rfl, Same.put hp s2, ?_⟩
          rw [upd_same, shTo_succ, z2, if_pos rfl]
          unfold nv
          rw [List.map_append]
          rfl
    · rintro σ H1 ⟨v2, v3, rfl, s1, hp1⟩
      refine ⟨_, rfl, ?_⟩
      rw [nv_len, ok.len] at hp1
      refine q.same at0 (ans := So02.ints (shTo t ss (t.rows * t.cols))) ?_ s1 hp ?_
      · show (stS t ss, So02.ints ([t.rows, t.cols] ++ (cells t).flatMap fun p => if (hidden (stS t ss)).contains p = true then [0] else [1, num t p])) = _
        congr 3
        refine flatMap_congr' fun p hp => ?_
        rw [in_hidden_S hle (List.mem_range.mp hp)]
      · rw [hp1, nv_ints]
        rfl
/-! ### sums -/
theorem scSu : FnScope ["self"] ["self"] (defScope sSums) := ⟨rfl, rfl, rfl, by decide +kernel, rfl, by decide +kernel, by decide +kernel⟩
def spSums (C : Addr) : Sp := fun vs H Q _ => ∃ (a pn pk : Addr) (t : Table) (ss : List Nat), vs = [.ref a] ∧ At C H a t ss pn pk ∧
  ∀ (H' : Hp) (p : Addr), Same H H' → H p = none → H' p = some (.lst (nv (sumsL t t.nums))) → Q (.ref p) H'
theorem ok_sums {f fS : Addr} {fd dS : FuncData} (F : Fun K "sums" "KeptTable.sums" sSums f fd) (T : Txt K mg C) (S : Def P w K mg base "sums_of" 2 ["columns", "numbers"] (spSumsOf K) fS dS) : FnOk P w K mg base CX0 3 f fd ["self"] (spSums C) := by
  refine F.ok scSu (fun vs H Q E h => ?_) (fun cdv A outer s H vs Q E hr h => ?_)
  · obtain ⟨a, pn, pk, t, ss, rfl, _⟩ := h
    rfl
  · obtain ⟨a, pn, pk, t, ss, rfl, at0, k⟩ := h
    refine ⟨_, pss_one (ps_ret (pe_call S.ok hr (by rfl) S.mg S.kp S.b .nil pass0 (pa_cons (pe_fld (pv 0) rfl) (pa_cons (pe_fld (pv 0) rfl) pa_nil)))), ?_⟩
    obtain ⟨⟨dx, ho⟩, hn, hk, ok, hle, hne⟩ := at0
    exact ⟨_, rfl, a, C, dx, _, _, rfl, ho, T.cl, T.nC, kF_columns, _, rfl, a, C, dx, _, _, rfl, ho, T.cl, T.nN, kF_numbers, t, anyK ss, t.nums, pn, rfl, ok, ok.len, SqL.of hn, k⟩
/-! ### fits -/
def fitTo (t : Table) (ss l : List Nat) (i : Nat) : Bool := (List.range i).all fun p => (ss.getD p 0 != 0) || l.getD p 0 == num t p
theorem fitTo_succ (t : Table) (ss l : List Nat) (i : Nat) : fitTo t ss l (i + 1) = (fitTo t ss l i && ((ss.getD i 0 != 0) || l.getD i 0 == num t i)) := by
  unfold fitTo
  rw [List.range_succ, List.all_append]
  simp
theorem all_map_eq (n : Nat) (f g : Nat → Nat) : ((List.range n).map f = (List.range n).map g) ↔ (List.range n).all (fun i => f i == g i) = true := by
  rw [List.all_eq_true]
  constructor
  · intro h i hi
    have h1 : ((List.range n).map f)[i]? = ((List.range n).map g)[i]? := by rw [h]
    rw [range_at (List.mem_range.mp hi), range_at (List.mem_range.mp hi)] at h1
    exact beq_iff_eq.mpr (Option.some.inj h1)
  · intro h
    exact List.map_congr_left fun i hi => beq_iff_eq.mp (h i hi)
theorem sums_eq (t : Table) (l : List Nat) : decide (sumsL t l = sumsL t t.nums) = ((List.range t.rows).all (fun i => rowLeft (tN t l) (cells t) i == rowLeft t (cells t) i) && (List.range t.cols).all (fun i => colLeft (tN t l) (cells t) i == colLeft t (cells t) i)) := by
  rw [Bool.eq_iff_iff, decide_eq_true_iff, Bool.and_eq_true, ← all_map_eq, ← all_map_eq]
  unfold sumsL
  constructor
  · intro h
    exact List.append_inj h (by rw [List.length_map, List.length_map])
  · rintro ⟨h1, h2⟩
    rw [h1, h2]
    rfl
theorem mayBe_S {t : Table} {ss l : List Nat} (hle : ∀ s ∈ ss, s ≤ 2) : So02.mayBe (stS t ss) l = (l.length == t.rows * t.cols && (fitTo t ss l (t.rows * t.cols) && decide (sumsL t l = sumsL t t.nums))) := by
  rw [sums_eq]
  have e1 : (cells (stS t ss)).length = t.rows * t.cols := List.length_range
  have e2 : (cells (stS t ss)).all (fun p => (hidden (stS t ss)).contains p || l.getD p 0 == num (stS t ss) p) = fitTo t ss l (t.rows * t.cols) := by
    show (List.range (t.rows * t.cols)).all _ = _
    unfold fitTo
    rw [Bool.eq_iff_iff, List.all_eq_true, List.all_eq_true]
    constructor
    · intro h p hp
      have := h p hp
      rw [in_hidden_S hle (List.mem_range.mp hp)] at this
      exact this
    · intro h p hp
      rw [in_hidden_S hle (List.mem_range.mp hp)]
      exact h p hp
  unfold So02.mayBe
  rw [e1, e2]
  rfl
abbrev nmFt : List Str := ["self", "numbers", "place", "number"]
theorem scFt : FnScope nmFt ["self", "numbers"] (defScope sFits) := ⟨rfl, rfl, rfl, by decide +kernel, rfl, by decide +kernel, by decide +kernel⟩
theorem ok_fits {f fS fM : Addr} {fd dS dM : FuncData} (F : Fun K "fits" "KeptTable.fits" sFits f fd) (T : Txt K mg C) (B : Blt mg) (G : Cst mg) (S : Def P w K mg base "sums_of" 2 ["columns", "numbers"] (spSumsOf K) fS dS) (Sm : MDef P w K mg base C "sums" 3 ["self"] (spSums C) fM dM) :
    FnOk P w K mg base CX0 4 f fd ["self", "numbers"] (spFits C K) := by
  obtain ⟨t0, m0⟩ := G.s0
  refine F.ok scFt (fun vs H Q E h => ?_) (fun cdv A outer s H vs Q E hr h => ?_)
  · obtain ⟨a, pn, pk, b, t, ss, l, rfl, _⟩ := h
    rfl
  · obtain ⟨a, pn, pk, b, t, ss, l, rfl, at0, hb, q⟩ := h
    refine ⟨_, pss_cons (ps_if (pt_cmpR op_ne (pe_callB call_len_seq (by rfl) B.len PySem.boot_len (pa_cons (pv 1) pa_nil)) (pe_callB call_len_seq (by rfl) B.len PySem.boot_len (pa_cons (pe_fld (pv 0) rfl) pa_nil)) (nomark _)) (pss_one (ps_ret (pe_lst (pa_cons pe_int pa_nil)))) pss_nil)
      (pss_cons (ps_for PassesOwn.never rfl (pi_enum (by rfl) B.enumerate (pa_cons (pv 1) pa_nil)) (pg_tup rfl (pgs_cons (pg_name (i := 2) scFt.nd rfl (Or.inl rfl)) (pgs_cons (pg_name (i := 3) scFt.nd rfl (Or.inl rfl)) pgs_nil)))
        (pss_one (ps_if (PW.pt (pw_and (pt_cmpR op_eq (pe_ix ix_list (pe_fld (pv 0) rfl) (pv 2) (fun _ _ => rfl)) (pe_glob (v := .int 0) rfl m0 ⟨_, rfl⟩) (nomark _)) (pw_and1 (pt_cmpR op_ne (pv 3) (pe_ix ix_list (pe_fld (pv 0) rfl) (pv 2) (fun _ _ => rfl)) (nomark _)))))
          (pss_one (ps_ret (pe_lst (pa_cons pe_int pa_nil)))) pss_nil)))
      (pss_one (ps_ret (pe_lst (pa_cons (pe_ifExp (pt_cmpR (op_eqU hr.units) (pe_call S.ok (hr.mono (by decide)) (by rfl) S.mg S.kp S.b .nil pass0 (pa_cons (pe_fld (pv 0) rfl) (pa_cons (pv 1) pa_nil))) (pe_meth0 (pv 0) T.cl Sm.m Sm.ok hr Sm.b .nil pass0) (nomark _)) pe_int pe_int) pa_nil))))), ?_⟩
    have at1 := at0
    obtain ⟨⟨dx, ho⟩, hn, hk, ok, hle, hne⟩ := at1
    have n12 := ok.n12
    have em := mayBe_S (t := t) (l := l) hle
    have estep : So02.step (stS t ss) (.fits l) = (stS t ss, So02.ints [if So02.mayBe (stS t ss) l = true then 1 else 0]) := rfl
    refine ⟨_, rfl, b, _, rfl, .inl hb, _, rfl, a, C, dx, _, _, rfl, ho, T.cl, T.nN, kF_numbers, pn, _, rfl, .inl (SqL.of hn), rfl, _, rfl, ?_⟩
    show if (!decide (V.int (((nv l).length : Nat) : Int) = V.int (((nv t.nums).length : Nat) : Int))) = true then _ else _
    rw [int_ne, nv_len, nv_len, ok.len]
    by_cases hl : l.length = t.rows * t.cols
    · rw [show (l.length != t.rows * t.cols) = false by simpa using hl]
      refine iteF ?_
      refine ⟨_, rfl, b, _, rfl, hb, for_it (walk_enum (K := K) (a := b) (xs := nv l)) (fun i σ H' => ∃ v2 v3 : Option V, σ = [some (.ref a), some (.ref b), v2, v3] ∧ Same H H' ∧ fitTo t ss l i = true)
        ⟨none, none, rfl, Same.refl _, rfl⟩ (fun i σ H' _ ⟨_, _, _, s5, _⟩ => s5.seq hb) ?_ ?_⟩
      · rintro i x σ H1 H2 hi ⟨v2, v3, rfl, s1, hf⟩ ⟨T', x1, x2, rfl, hT, rfl, e1, e2⟩
        cases e1
        have hi' : i < t.rows * t.cols := by rw [nv_len, hl] at hi; exact hi
        obtain ⟨_, rfl⟩ := nv_get e2
        have sT : Same H1 (upd H1 T' (.tup [.int (i : Int), .int ((l.getD i 0 : Nat) : Int)])) := Same.new hT
        have s2 := s1.trans sT
        refine ⟨T', _, rfl, SqT.of upd_same, rfl, _, _, rfl, _, _, rfl, rfl, ?_⟩
        refine ⟨_, rfl, a, C, dx, _, _, rfl, s2 _ _ ho, T.cl, T.nS, kF_states, _, rfl, pk, _, _, _, rfl, rfl, SqL.of (s2 _ _ hk), atI_nat (nv_at (at0.st hi')), rfl, _, rfl, ?_⟩
        show if decide (V.int ((ss.getD i 0 : Nat) : Int) = V.int ((0 : Nat) : Int)) = true then _ else _
        rw [int_eq]
        have hsucc := fitTo_succ t ss l i
        rw [hf, Bool.true_and] at hsucc
        by_cases z : ss.getD i 0 = 0
        · have z1 : (ss.getD i 0 == 0) = true := by simpa using z
          have z2 : (ss.getD i 0 != 0) = false := by show (!(ss.getD i 0 == 0)) = false; rw [z1]; rfl
          rw [z1]
          rw [z2, Bool.false_or] at hsucc
          refine iteT ⟨_, rfl, _, rfl, a, C, dx, _, _, rfl, s2 _ _ ho, T.cl, T.nN, kF_numbers, _, rfl, pn, _, _, _, rfl, rfl, SqL.of (s2 _ _ hn), atI_nat (nv_at (at0.nu hi')), rfl, _, rfl, ?_⟩
          show if (!decide (V.int ((l.getD i 0 : Nat) : Int) = V.int ((num t i : Nat) : Int))) = true then _ else _
          rw [int_ne]
          by_cases y : l.getD i 0 = num t i
          · rw [show (l.getD i 0 != num t i) = false by simpa using y]
            refine iteF ⟨_, _, rfl, s2, ?_⟩
            rw [hsucc]
            simpa using y
          · rw [show (l.getD i 0 != num t i) = true by simpa using y]
            refine iteT ⟨(by decide : 1 ≤ sizeLine), fun pA hpA => ?_⟩
            have ef : fitTo t ss l (t.rows * t.cols) = false := by
              unfold fitTo
              rw [List.all_eq_false]
              refine ⟨i, List.mem_range.mpr hi', ?_⟩
              rw [z2, Bool.false_or]
              simpa using y
            rw [em, ef, Bool.false_and, Bool.and_false] at estep
            exact q.same at0 estep (s2.trans (Same.new hpA)) (s2.free hpA) upd_same
        · have z1 : (ss.getD i 0 == 0) = false := by simpa using z
          have z2 : (ss.getD i 0 != 0) = true := by show (!(ss.getD i 0 == 0)) = true; rw [z1]; rfl
          rw [z1]
          refine iteF (iteF ⟨_, _, rfl, s2, ?_⟩)
          rw [hsucc, z2]
          rfl
      · rintro σ H1 ⟨v2, v3, rfl, s1, hf⟩
        rw [nv_len, hl] at hf
        refine ⟨_, rfl, a, C, dx, _, _, rfl, s1 _ _ ho, T.cl, T.nC, kF_columns, _, rfl, t, anyK ss, l, b, rfl, ok, hl, s1.seq hb, fun H2 p2 s2 np2 hp2 => ?_⟩
        refine ⟨_, rfl, a, dx, _, rfl, s2 _ _ (s1 _ _ ho), kF_m, a, pn, pk, t, ss, rfl, at0.mono (s1.trans s2), fun H3 p3 s3 np3 hp3 => ?_⟩
        refine ⟨p2, p3, _, _, rfl, rfl, SqL.of (s3 _ _ hp2), SqL.of hp3, _, rfl, ?_⟩
        have s03 := (s1.trans s2).trans s3
        rw [em, hf, Bool.true_and, show (l.length == t.rows * t.cols) = true by simpa using hl, Bool.true_and] at estep
        by_cases y : sumsL t l = sumsL t t.nums
        · rw [decide_eq_true y] at estep ⊢
          refine iteT ⟨(by decide : 1 ≤ sizeLine), fun pA hpA => ?_⟩
          exact q.same at0 estep (s03.trans (Same.new hpA)) (s03.free hpA) upd_same
        · rw [decide_eq_false y] at estep ⊢
          refine iteF ⟨(by decide : 1 ≤ sizeLine), fun pA hpA => ?_⟩
          exact q.same at0 estep (s03.trans (Same.new hpA)) (s03.free hpA) upd_same
    · rw [show (l.length != t.rows * t.cols) = true by simpa using hl]
      refine iteT ⟨(by decide : 1 ≤ sizeLine), fun pA hpA => ?_⟩
      rw [em, show (l.length == t.rows * t.cols) = false by simpa using hl, Bool.false_and] at estep
      exact q.same at0 estep (Same.new hpA) hpA upd_same
/-! ### first -/
theorem first_yes {t : Table} {ss : List Nat} {p v : Nat} (hle : ∀ s ∈ ss, s ≤ 2) (hp : p ∈ hid t (anyK ss)) (h : least t (hid t (anyK ss)) p ≤ v ∧ v ≤ greatest t (hid t (anyK ss)) p) : ∃ x, Fst t (anyK ss) p v x ∧ So02.first (stS t ss) p v = some (made' t (anyK ss) x) := by
  have eh := hidden_S (t := t) hle
  have hp' : p ∈ hidden (stS t ss) := by rw [eh]; exact hp
  have hex : ∃ x, Filt (stS t ss) (hidden (stS t ss)) (rowLeft (stS t ss) (hidden (stS t ss))) (colLeft (stS t ss) (hidden (stS t ss))) x ∧ x p = v := by
    refine (range_iff (nodup_hidden _) (in_hidden _) hp').mpr ?_
    rw [eh]
    exact h
  obtain ⟨x, ⟨F, ex⟩, efirst, hmin⟩ := first_some hp' hex
  have em : made (stS t ss) x = made' t (anyK ss) x := by
    unfold made made'
    show (List.range (t.rows * t.cols)).map _ = _
    refine List.map_congr_left fun q hq => ?_
    rw [eh]
    by_cases z : q ∈ hid t (anyK ss)
    · rw [if_pos z, if_pos (mem_hid.mp z).2]
    · rw [if_neg z, if_neg (fun y => z (mem_hid.mpr ⟨List.mem_range.mp hq, y⟩))]
      rfl
  rw [em] at efirst
  rw [eh] at F hmin
  exact ⟨x, ⟨F, ex, hmin⟩, efirst⟩
abbrev nmFM : List Str := ["self", "i", "j", "v", "place", "ends"]
theorem scFM : FnScope nmFM ["self", "i", "j", "v"] (defScope sFirstM) := ⟨rfl, rfl, rfl, by decide +kernel, rfl, by decide +kernel, by decide +kernel⟩
theorem ok_firstM {f fH fP fR fK fT : Addr} {fd dH dP dR dK dT : FuncData} (F : Fun K "first" "KeptTable.first" sFirstM f fd) (T : Txt K mg C) (G : Cst mg) (Hm : MDef P w K mg base C "has_cell" 1 ["self", "i", "j"] (spHas C) fH dH) (Pm : MDef P w K mg base C "place_of" 1 ["self", "i", "j"] (spPlace C) fP dP) (R : MDef P w K mg base C "range_at" 4 ["self", "place"] (spRangeAt C) fR dR)
    (Km : MDef P w K mg base C "kept_cells" 1 ["self"] (spKeptC C) fK dK) (Ft : Def P w K mg base "first_table" 3 ["columns", "numbers", "kept", "place", "v"] (spFirst K) fT dT) :
    FnOk P w K mg base CX0 5 f fd ["self", "i", "j", "v"] (spFirstM C) := by
  obtain ⟨t1, m1⟩ := G.nC
  obtain ⟨t2, m2⟩ := G.nK
  obtain ⟨t3, m3⟩ := G.s0
  obtain ⟨t4, m4⟩ := G.nS
  refine F.ok scFM (fun vs H Q E h => ?_) (fun cdv A outer s H vs Q E hr h => ?_)
  · obtain ⟨a, pn, pk, t, ss, i, j, v, rfl, _⟩ := h
    rfl
  · obtain ⟨a, pn, pk, t, ss, i, j, v, rfl, at0, q⟩ := h
    refine ⟨_, pss_cons (ps_if (pt_not (pt_val (pe_meth (pv 0) T.cl Hm.m Hm.ok (hr.mono (by decide)) Hm.b .nil pass0 (pa_cons (pv 1) (pa_cons (pv 2) pa_nil))))) (pss_one (ps_ret (pe_lst (pa_cons (pe_glob (v := .int (-1)) rfl m1 ⟨_, rfl⟩) pa_nil)))) pss_nil)
      (pss_cons (ps_set (i := 4) scFM.nd rfl (Or.inl rfl) (pe_meth (pv 0) T.cl Pm.m Pm.ok (hr.mono (by decide)) Pm.b .nil pass0 (pa_cons (pv 1) (pa_cons (pv 2) pa_nil))))
      (pss_cons (ps_if (pt_cmpR op_eq (pe_ix ix_list (pe_fld (pv 0) rfl) (pv 4) (fun _ _ => rfl)) (pe_glob (v := .int 0) rfl m3 ⟨_, rfl⟩) (nomark _)) (pss_one (ps_ret (pe_lst (pa_cons (pe_glob (v := .int (-3)) rfl m2 ⟨_, rfl⟩) pa_nil)))) pss_nil)
      (pss_cons (ps_set (i := 5) scFM.nd rfl (Or.inl rfl) (pe_meth (pv 0) T.cl R.m R.ok hr R.b .nil pass0 (pa_cons (pv 4) pa_nil)))
      (pss_cons (ps_if (pt_not (pt_chain op_le op_le (pe_ix ix_tup (pv 5) pe_int (fun _ _ => rfl)) (pv 3) (pe_ix ix_tup (pv 5) pe_int (fun _ _ => rfl)))) (pss_one (ps_ret (pe_lst (pa_cons (pe_glob (v := .int (-6)) rfl m4 ⟨_, rfl⟩) pa_nil)))) pss_nil)
      (pss_one (ps_ret (pe_call Ft.ok (hr.mono (by decide)) (by rfl) Ft.mg Ft.kp Ft.b .nil pass0 (pa_cons (pe_fld (pv 0) rfl) (pa_cons (pe_fld (pv 0) rfl) (pa_cons (pe_meth0 (pv 0) T.cl Km.m Km.ok (hr.mono (by decide)) Km.b .nil pass0) (pa_cons (pv 4) (pa_cons (pv 3) pa_nil)))))))))))), ?_⟩
    have at1 := at0
    obtain ⟨⟨dx, ho⟩, hn, hk, ok, hle, hne⟩ := at1
    refine ⟨_, rfl, a, dx, _, rfl, ho, kF_m, _, rfl, _, rfl, a, pn, pk, t, ss, i, j, rfl, at0, _, rfl, ?_⟩
    by_cases hc : inCell t i j
    · rw [decide_eq_true hc]
      refine iteF ?_
      refine ⟨_, rfl, a, dx, _, rfl, ho, kF_m, _, rfl, _, rfl, a, pn, pk, t, ss, i, j, rfl, at0, hc, ?_⟩
      have epl : place (stS t ss) i j = some ((i - 1) * t.cols + (j - 1)) := place_some hc
      have hp : (i - 1) * t.cols + (j - 1) < t.rows * t.cols := place_lt hc
      have estep : ∀ p, place (stS t ss) i j = some p → So02.step (stS t ss) (.first i j v) = (stS t ss, if (hidden (stS t ss)).contains p = false then [-3] else match So02.first (stS t ss) p v with | none => [-6] | some l => So02.ints l) := by
        intro p hp
        show (_, match place (stS t ss) i j with | none => _ | some p => _) = _
        rw [hp]
        rfl
      have estep := estep _ epl
      generalize (i - 1) * t.cols + (j - 1) = p at hp estep
      refine ⟨_, rfl, a, C, dx, _, _, rfl, ho, T.cl, T.nS, kF_states, _, rfl, pk, _, _, _, rfl, rfl, SqL.of hk, atI_nat (nv_at (at0.st hp)), rfl, _, rfl, ?_⟩
      show if decide (V.int ((ss.getD p 0 : Nat) : Int) = V.int ((0 : Nat) : Int)) = true then _ else _
      rw [int_eq]
      rw [in_hidden_S hle hp] at estep
      by_cases z : ss.getD p 0 = 0
      · rw [z] at estep ⊢
        refine iteT ⟨(by decide : 1 ≤ sizeLine), fun pA hpA => ?_⟩
        exact q.same at0 estep (Same.new hpA) hpA upd_same
      · have z' : (ss.getD p 0 == 0) = false := by simpa using z
        rw [z']
        rw [if_neg (by simpa using z)] at estep
        refine iteF ?_
        have kk : (anyK ss).getD p false = true := by rw [any_at]; simpa using z
        have hph : p ∈ hid t (anyK ss) := mem_hid.mpr ⟨hp, kk⟩
        refine ⟨_, rfl, a, dx, _, rfl, ho, kF_m, _, rfl, a, pn, pk, t, ss, p, rfl, at0, hp, fun H2 pT s2 hT hT2 => ?_⟩
        have e1 : loAt t (anyK ss) p = least t (hid t (anyK ss)) p := if_pos kk
        have e2 : hiAt t (anyK ss) p = greatest t (hid t (anyK ss)) p := if_pos kk
        rw [e1, e2] at hT2
        have eh := hidden_S (t := t) hle
        have hph' : p ∈ hidden (stS t ss) := by rw [eh]; exact hph
        have none_of : ¬ (least t (hid t (anyK ss)) p ≤ v ∧ v ≤ greatest t (hid t (anyK ss)) p) → So02.step (stS t ss) (.first i j v) = (stS t ss, [-6]) := fun h => by
          have : So02.first (stS t ss) p v = none := by
            refine (first_none_iff hph').mpr ?_
            rw [eh]
            exact h
          rw [estep, this]
        refine ⟨_, rfl, pT, _, _, _, rfl, rfl, SqT.of hT2, atI_nat (j := 0) rfl, _, rfl, _, _, rfl, rfl, _, rfl, ?_⟩
        by_cases y1 : least t (hid t (anyK ss)) p ≤ v
        · rw [decide_eq_true (show ((least t (hid t (anyK ss)) p : Nat) : Int) ≤ (v : Int) by omega)]
          refine iteT ⟨_, rfl, pT, _, _, _, rfl, rfl, SqT.of hT2, atI_nat (j := 1) rfl, _, _, rfl, rfl, _, rfl, ?_⟩
          by_cases y2 : v ≤ greatest t (hid t (anyK ss)) p
          · rw [decide_eq_true (show (v : Int) ≤ ((greatest t (hid t (anyK ss)) p : Nat) : Int) by omega)]
            refine iteF ?_
            obtain ⟨x, fst, efirst⟩ := first_yes hle hph ⟨y1, y2⟩
            rw [efirst] at estep
            refine ⟨_, rfl, a, C, dx, _, _, rfl, s2 _ _ ho, T.cl, T.nC, kF_columns, _, rfl, a, C, dx, _, _, rfl, s2 _ _ ho, T.cl, T.nN, kF_numbers, _, rfl, a, dx, _, rfl, s2 _ _ ho, kF_m, a, pn, pk, t, ss, rfl, at0.mono s2, fun H3 pm s3 npm hpm => ?_⟩
            have s03 := s2.trans s3
            refine ⟨_, rfl, _, rfl, t, anyK ss, p, v, x, pn, pm, rfl, ok, SqL.of (s03 _ _ hn), SqL.of hpm, hph, fst, fun H4 pA s4 hpA hpA4 => ?_⟩
            refine q.same at0 estep (s03.trans s4) (s03.free hpA) ?_
            rw [hpA4, nv_ints]
            rfl
          · rw [decide_eq_false (show ¬ (v : Int) ≤ ((greatest t (hid t (anyK ss)) p : Nat) : Int) by omega)]
            refine iteT ⟨(by decide : 1 ≤ sizeLine), fun pA hpA => ?_⟩
            exact q.same at0 (none_of fun h => y2 h.2) (s2.trans (Same.new hpA)) (s2.free hpA) upd_same
        · rw [decide_eq_false (show ¬ ((least t (hid t (anyK ss)) p : Nat) : Int) ≤ (v : Int) by omega)]
          refine iteF ⟨_, rfl, iteT ⟨(by decide : 1 ≤ sizeLine), fun pA hpA => ?_⟩⟩
          exact q.same at0 (none_of fun h => y1 h.1) (s2.trans (Same.new hpA)) (s2.free hpA) upd_same
    · rw [decide_eq_false hc]
      refine iteT ⟨(by decide : 1 ≤ sizeLine), fun pA hpA => ?_⟩
      have e : So02.step (stS t ss) (.first i j v) = (stS t ss, [-1]) := by
        show (_, match place (stS t ss) i j with | none => _ | some p => _) = _
        rw [place_none (show ¬ (1 ≤ i ∧ i ≤ (stS t ss).rows ∧ 1 ≤ j ∧ j ≤ (stS t ss).cols) from hc)]
      exact q.same at0 e (Same.new hpA) hpA upd_same
end
end CK
namespace CK
open PySem PySem.Spec PyProof.Rows L2 So02
/-! ### the loop over the calls; the object behind any relation TA to the specification's state -/
structure Rep (TA : Hp → Addr → So02.St → List Addr → Prop) : Prop where
  mono : ∀ {H H' : Hp} {a : Addr} {s : So02.St} {own : List Addr}, TA H a s own → (∀ b ∈ own, ∀ o, H b = some o → H' b = some o) → TA H' a s own
  trk : ∀ {H : Hp} {a : Addr} {s : So02.St} {own : List Addr}, TA H a s own → ∀ b ∈ own, H b ≠ none
def Out (H H' : Hp) (own : List Addr) : Prop := ∀ b o, H b = some o → b ∉ own → H' b = some o
/-- what a call's answer is to be -/
def StQ (TA : Hp → Addr → So02.St → List Addr → Prop) (a : Addr) (own : List Addr) (s : So02.St) (cl : Call) (H : Hp) (Q : VK) : Prop :=
  ∀ (H' : Hp) (p : Addr) (own' : List Addr), Out H H' own → TA H' a (So02.step s cl).1 own' → (∀ b ∈ own', b ∈ own ∨ H b = none) → H p = none → H' p = some (.lst ((So02.step s cl).2.map V.int)) → Q (.ref p) H'
def spEnd (K : PySem.W.Frag) : Sp := fun vs H Q _ => ∃ (b : Addr) (ns : List Int) (st : Nat) (cl : Call) (t : List Int), vs = [.ref b, .int (st : Int)] ∧ SqL K H b (ns.map V.int) ∧ ns.length ≤ 960 ∧ Form (ns.drop st) cl t ∧ Q (.int ((ns.length - t.length : Nat) : Int)) H
def spTo (TA : Hp → Addr → So02.St → List Addr → Prop) : Sp := fun vs H Q _ => ∃ (a b : Addr) (own : List Addr) (s : So02.St) (l : List Int) (cl : Call), vs = [.ref a, .ref b] ∧ TA H a s own ∧ b ∉ own ∧ H b = some (.lst (l.map V.int)) ∧ Form l cl [] ∧ StQ TA a own s cl H Q
def spNew (TA : Hp → Addr → So02.St → List Addr → Prop) (C : Addr) : Sp := fun vs H Q _ => ∃ (p dx : Addr), vs = [.ref p] ∧ H p = some (.ins C dx []) ∧
  ∀ (H' : Hp) (own : List Addr), TA H' p So02.init own → (∀ b ∈ own, b = p ∨ H b = none) → (∀ b o, H b = some o → b ≠ p → H' b = some o) → Q .non H'
def spAns (K : PySem.W.Frag) : Sp := fun vs H Q _ => ∃ (a : Addr) (ns : List Int), vs = [.ref a] ∧ SqL K H a (ns.map V.int) ∧ ns.length ≤ 960 ∧ PySo02.answers_asked ns = true ∧
  ∀ (H' : Hp) (p : Addr), H' p = some (.lst ((PySo02.answers ns).map V.int)) → Q (.ref p) H'
theorem form_cut {rem : List Int} {cl : Call} {t : List Int} (h : Form rem cl t) : ∃ l, rem = l ++ t ∧ Form l cl [] ∧ 1 ≤ l.length := by
  cases h with
  | table r c row _ hr hc hl hm =>
    have := Form.table r c row [] hr hc hl hm
    rw [List.append_nil] at this
    exact ⟨_, rfl, this, by simp⟩
  | keep i j _ hi hj => exact ⟨_, rfl, Form.keep i j [] hi hj, by simp⟩
  | tell i j _ hi hj => exact ⟨_, rfl, Form.tell i j [] hi hj, by simp⟩
  | range i j _ hi hj => exact ⟨_, rfl, Form.range i j [] hi hj, by simp⟩
  | known _ => exact ⟨_, rfl, Form.known [], by simp⟩
  | near w _ hw => exact ⟨_, rfl, Form.near w [] hw, by simp⟩
  | more w _ hw => exact ⟨_, rfl, Form.more w [] hw, by simp⟩
  | hide w _ hw => exact ⟨_, rfl, Form.hide w [] hw, by simp⟩
  | shown _ => exact ⟨_, rfl, Form.shown [], by simp⟩
  | fits row _ hl hm =>
    have := Form.fits row [] hl hm
    rw [List.append_nil] at this
    exact ⟨_, rfl, this, by simp⟩
  | first i j v _ hi hj hv => exact ⟨_, rfl, Form.first i j v [] hi hj hv, by simp⟩
  | sums _ => exact ⟨_, rfl, Form.sums [], by simp⟩
theorem sIx_nat {n d k : Nat} (h : k ≤ n) : HT.sIx n d (some (k : Int)) = k := by
  show (if (k : Int) < 0 then ((k : Int) + (n : Int)).toNat else min (k : Int).toNat n) = k
  rw [if_neg (by omega)]
  show min k n = k
  omega
abbrev sAnswers : Stmt := top 42
section
variable {P : Program} {w : World} {K : PySem.W.Frag} {mg : Str → Option Value} {base : Heap} {C : Addr} {TA : Hp → Addr → So02.St → List Addr → Prop}
abbrev nmAn : List Str := ["calls", "table", "answered", "start", "end", "answer"]
theorem scAn : FnScope nmAn ["calls"] (defScope sAnswers) := ⟨rfl, rfl, rfl, by decide +kernel, rfl, by decide +kernel, by decide +kernel⟩
theorem ok_answers {k kE kA : Nat} {f fI fE fA : Addr} {fd dI dE dA : FuncData} (F : Fun K "answers" "answers" sAnswers f fd) (B : Blt mg) (R : Rep TA) (M : Mk K C fI) (gC : mg "KeptTable" = some (.ref C)) (I : FnOk P w K mg base CX0 1 fI dI ["self"] (spNew TA C)) (bI : Binds K dI ["self"] [])
    (E : Def P w K mg base "end_of_call" kE ["calls", "start"] (spEnd K) fE dE) (A : Def P w K mg base "answer_to" kA ["table", "call"] (spTo TA) fA dA) (h2 : 2 ≤ k) (hE : kE ≤ k) (hA : kA ≤ k) :
    FnOk P w K mg base CX0 (k + 1) f fd ["calls"] (spAns K) := by
  refine F.ok scAn (fun vs H Q X h => ?_) (fun cdv A' outer s H vs Q X hr h => ?_)
  · obtain ⟨a, ns, rfl, _⟩ := h
    rfl
  · obtain ⟨a, ns, rfl, ha, hn960, hask, q⟩ := h
    refine ⟨_, pss_cons (ps_set (i := 1) scAn.nd rfl (Or.inl rfl) (pe_make0 M I (hr.mono h2) rfl gC bI .nil pass0))
      (pss_cons (ps_set (i := 2) scAn.nd rfl (Or.inl rfl) (pe_lst pa_nil))
      (pss_cons (ps_set (i := 3) scAn.nd rfl (Or.inl rfl) pe_int)
      (pss_cons (ps_while PassesOwn.never (pt_cmpR op_lt (pv 3) (pe_callB call_len_seq (by rfl) B.len PySem.boot_len (pa_cons (pv 0) pa_nil)) (nomark _))
        (pss_cons (ps_set (i := 4) scAn.nd rfl (Or.inl rfl) (pe_call E.ok (hr.mono hE) (by rfl) E.mg E.kp E.b .nil pass0 (pa_cons (pv 0) (pa_cons (pv 3) pa_nil))))
        (pss_cons (ps_set (i := 5) scAn.nd rfl (Or.inl rfl) (pe_call A.ok (hr.mono hA) (by rfl) A.mg A.kp A.b .nil pass0 (pa_cons (pv 1) (pa_cons (pe_slice sl_list (pv 0) (po_some (pv 3)) (po_some (pv 4))) pa_nil))))
        (pss_cons (ps_expr (pe_bm PySem.F.plainAttrs_list PySem.F.slot_list_append PySem.F.type_list_append mt_append (pv 2) (pa_cons (pe_callB call_len_seq (by rfl) B.len PySem.boot_len (pa_cons (pv 5) pa_nil)) pa_nil)))
        (pss_cons (ps_expr (pe_bm PySem.F.plainAttrs_list PySem.F.slot_list_extend PySem.F.type_list_extend mt_extend (pv 2) (pa_cons (pv 5) pa_nil)))
        (pss_one (ps_set (i := 3) scAn.nd rfl (Or.inl rfl) (pv 4))))))))
      (pss_one (ps_ret (pv 2)))))), ?_⟩
    obtain ⟨rest0, hmax⟩ := rest_start hask
    intro x dx nx nd ne
    refine ⟨x, dx, rfl, upd_same, fun H1 own ta0 hown fr => ⟨rfl, ?_⟩⟩
    have s1 : Same H H1 := Same.made nx nd fr
    have ownH : ∀ b ∈ own, H b = none := fun b hb => by
      rcases hown b hb with z | z
      · rw [z]; exact nx
      · cases e : H b with
        | none => rfl
        | some o =>
          rw [upd_ne (ne_of_none e nx), upd_ne (ne_of_none e nd), e] at z
          cases z
    refine ⟨(by decide : 0 ≤ sizeLine), fun pA hpA => ?_⟩
    have npA : pA ∉ own := fun z => R.trk ta0 pA z hpA
    have hAH : H pA = none := s1.free hpA
    refine ⟨fun m σ H' => ∃ (st : Nat) (own : List Addr) (sS : So02.St) (told out : List Int) (v4 v5 : Option V), m = ns.length - st ∧ st ≤ ns.length ∧ σ = [some (.ref a), some (.ref x), some (.ref pA), some (.int (st : Int)), v4, v5] ∧ Same H H' ∧ TA H' x sS own ∧ pA ∉ own ∧ (∀ b ∈ own, H b = none) ∧
      H' pA = some (.lst (told.map V.int)) ∧ Rest (ns.drop st) sS out ∧ PySo02.answers ns = told ++ out, ⟨_, 0, own, _, [], _, none, none, rfl, Nat.zero_le _, rfl, s1.trans (Same.new hpA), R.mono ta0 (fun b _ o e => Same.new hpA _ _ e), npA, ownH, upd_same, rest0, rfl⟩, ?_⟩
    rintro m σ H2 ⟨st, own, sS, told, out, v4, v5, rfl, hst, rfl, s2, ta, npA, ownH, hA, rest, eout⟩
    refine ⟨_, rfl, _, rfl, a, _, rfl, .inl (s2.seq ha), _, _, rfl, rfl, _, rfl, ?_⟩
    show if decide ((st : Int) < ((ns.map V.int).length : Int)) = true then _ else _
    rw [List.length_map]
    by_cases hlt : st < ns.length
    · rw [decide_eq_true (show (st : Int) < (ns.length : Int) by omega)]
      refine iteT ⟨fun σ' H' => _, fun σ' H' h => h, ?_⟩
      rcases rest_step rest with ⟨e0, _⟩ | ⟨cl, t, out', form, rest', eo⟩
      · have := congrArg List.length e0
        rw [List.length_drop] at this
        simp at this
        omega
      obtain ⟨l, el, form', hl1⟩ := form_cut form
      have elen : ns.length - st = l.length + t.length := by rw [← List.length_drop, el, List.length_append]
      refine ⟨_, rfl, _, rfl, a, ns, st, cl, t, rfl, s2.seq ha, hn960, form, ?_⟩
      refine ⟨_, rfl, _, rfl, _, rfl, _, rfl, _, rfl, _, rfl, a, _, rfl, s2.seq ha, fun pS hpS => ?_⟩
      have ecut : cutV (ns.map V.int) (some (st : Int)) (some ((ns.length - t.length : Nat) : Int)) = l.map V.int := by
        unfold cutV
        rw [List.length_map, sIx_nat (by omega), sIx_nat (by omega), ← List.map_drop, el, ← List.map_take]
        congr 1
        have : ns.length - t.length - st = l.length := by omega
        rw [this, List.take_left]
      rw [ecut]
      have nS : pS ∉ own := fun z => R.trk ta pS z hpS
      have sS1 : Same H2 (upd H2 pS (.lst (l.map V.int))) := Same.new hpS
      refine ⟨x, pS, own, sS, l, cl, rfl, R.mono ta (fun b _ o e => sS1 _ _ e), nS, upd_same, form', fun H3 p own' fr3 ta3 fresh hp hp3 => ?_⟩
      have hA3 : H3 pA = some (.lst (told.map V.int)) := fr3 pA _ (sS1 _ _ hA) npA
      have s3 : Same H H3 := fun b o e => fr3 b o (sS1 _ _ (s2 b o e)) fun z => by
        rw [ownH b z] at e
        cases e
      have npp : p ≠ pA := fun z => by
        rw [z, sS1 _ _ hA] at hp
        cases hp
      have nA' : pA ∉ own' := fun z => by
        rcases fresh pA z with z | z
        · exact npA z
        · rw [sS1 _ _ hA] at z
          cases z
      have ownH' : ∀ b ∈ own', H b = none := fun b hb => by
        rcases fresh b hb with z | z
        · exact ownH b z
        · exact (s2.trans sS1).free z
      have hlen := congrArg List.length eout
      rw [eo, List.length_append, List.length_append, List.length_cons] at hlen
      generalize (So02.step sS cl).2 = ans at hp3 eo hlen
      refine ⟨_, rfl, .inl ⟨rfl, _, SqL.of hA3⟩, _, rfl, p, _, rfl, .inl (SqL.of hp3), pA, _, _, rfl, rfl, hA3, ?_, ?_⟩
      · rw [List.length_map]
        exact Nat.lt_of_le_of_lt (show told.length ≤ 10000000 by omega) (by decide)
      refine ⟨_, rfl, .inl ⟨rfl, _, SqL.of upd_same⟩, _, rfl, pA, p, _, _, rfl, rfl, upd_same, by rw [upd_ne npp]; exact hp3, ?_, ?_⟩
      · rw [List.length_append, List.length_map, List.length_map]
        exact Nat.le_trans (show told.length + 1 + ans.length ≤ 10000000 by omega) (by decide)
      refine ⟨_, rfl, ?_⟩
      refine ⟨ns.length - (ns.length - t.length), by omega, ns.length - t.length, own', _, told ++ ((ans.length : Int) :: ans), out', _, _, rfl, by omega, rfl, Same.put hAH (Same.put hAH s3), R.mono ta3 (fun b hb o e => ?_), nA', ownH', ?_, ?_, ?_⟩
      · have nb : b ≠ pA := fun z => nA' (z ▸ hb)
        rw [upd_ne nb, upd_ne nb]
        exact e
      · rw [upd_same, List.map_append, List.length_map]
        simp
      · have e1 : ns.drop (ns.length - t.length) = t := by
          have : ns.length - t.length = st + l.length := by omega
          rw [this, ← List.drop_drop, el, List.drop_left]
        rw [e1]
        exact rest'
      · rw [eout, eo]
        simp
    · rw [decide_eq_false (show ¬ (st : Int) < (ns.length : Int) by omega)]
      refine iteF ?_
      rcases rest_step rest with ⟨_, eo⟩ | ⟨cl, t, out', form, _, _⟩
      · refine ⟨_, rfl, q H2 pA ?_⟩
        rw [eout, eo, List.append_nil]
        exact hA
      · obtain ⟨l, el, _, hl1⟩ := form_cut form
        have := congrArg List.length el
        rw [List.length_drop, List.length_append] at this
        omega
end
end CK
namespace CK
open PySem PySem.Spec PyProof.Rows L2 So02
/-! ### how a call stands in the list -/
def code : Call → Nat
  | .table .. => 0
  | .keep .. => 1
  | .tell .. => 2
  | .range .. => 3
  | .known => 4
  | .near _ => 5
  | .more _ => 6
  | .hide _ => 7
  | .shown => 8
  | .fits _ => 9
  | .first .. => 10
  | .sums => 11
def wn : Call → Nat
  | .table .. => 2
  | .keep .. => 2
  | .tell .. => 2
  | .range .. => 2
  | .known => 0
  | .near _ => 1
  | .more _ => 1
  | .hide _ => 1
  | .shown => 0
  | .fits _ => 0
  | .first .. => 3
  | .sums => 0
def rlen : Call → Option Nat
  | .table _ _ l => some l.length
  | .fits l => some l.length
  | _ => none
theorem form_head {rem : List Int} {cl : Call} {t : List Int} (h : Form rem cl t) : rem[0]? = some (code cl : Int) := by cases h <;> rfl
theorem form_no {rem : List Int} {cl : Call} {t : List Int} (h : Form rem cl t) (z : rlen cl = none) : rem.length = 1 + wn cl + t.length := by
  cases h <;> first | (simp only [List.length_cons, wn]; omega) | cases z
theorem form_row {rem : List Int} {cl : Call} {t : List Int} {m : Nat} (h : Form rem cl t) (z : rlen cl = some m) : rem[1 + wn cl]? = some (m : Int) ∧ rem.length = 2 + wn cl + m + t.length := by
  cases h <;> first | (obtain rfl := Option.some.inj z; exact ⟨rfl, by simp only [List.length_cons, List.length_append, ints_len, wn]; omega⟩) | cases z
theorem row_in (cl : Call) : inV (.int (code cl : Int)) [.int 0, .int 9] = (rlen cl).isSome := by cases cl <;> rfl
/-- the dict and the tuple of the file's top -/
structure Lay (P : Program) (w : World) (K : PySem.W.Frag) (mg : Str → Option Value) : Prop where
  wn : ∃ W, mg "WHOLE_NUMBERS" = some (.ref W) ∧ ∀ cl : Call, KInt P w K W (code cl : Int) (.int (wn cl : Int))
  rw : ∃ R, mg "CALLS_WITH_A_ROW" = some (.ref R) ∧ ∀ H : Hp, SqT K H R [.int 0, .int 9]
/-- the calls' numbers -/
structure Cc (mg : Str → Option Value) : Prop where
  c0 : ∃ t, mg "TABLE" = some (.int 0 t)
  c1 : ∃ t, mg "KEEP" = some (.int 1 t)
  c2 : ∃ t, mg "TELL" = some (.int 2 t)
  c3 : ∃ t, mg "RANGE_OF" = some (.int 3 t)
  c4 : ∃ t, mg "KNOWN" = some (.int 4 t)
  c5 : ∃ t, mg "NEAR" = some (.int 5 t)
  c6 : ∃ t, mg "MORE" = some (.int 6 t)
  c7 : ∃ t, mg "HIDE" = some (.int 7 t)
  c8 : ∃ t, mg "SHOWN" = some (.int 8 t)
  c9 : ∃ t, mg "FITS" = some (.int 9 t)
  c10 : ∃ t, mg "FIRST" = some (.int 10 t)
abbrev sEnd : Stmt := top 43
abbrev sTo : Stmt := top 44
theorem tT {i j : Int} {A B : Prop} (h : (i == j) = true) (a : A) : if decide (V.int i = V.int j) = true then A else B := by
  rw [dec_int, h]
  exact iteT a
theorem tF {i j : Int} {A B : Prop} (h : (i == j) = false) (b : B) : if decide (V.int i = V.int j) = true then A else B := by
  rw [dec_int, h]
  exact iteF b
theorem cut_row (hd : List Int) (row : List Nat) : cutV ((hd ++ (So02.ints row ++ [])).map V.int) (some (hd.length : Int)) none = nv row := by
  unfold cutV
  have hl : ((hd ++ (So02.ints row ++ [])).map V.int).length = hd.length + row.length := by
    rw [List.length_map, List.length_append, List.append_nil, ints_len]
  rw [hl, sIx_nat (by omega)]
  show List.take (hd.length + row.length - hd.length) _ = _
  rw [List.append_nil, List.map_append, List.drop_left' (List.length_map _), nv_ints]
  show List.take _ ((So02.ints row).map V.int) = (So02.ints row).map V.int
  exact List.take_of_length_le (by rw [List.length_map, ints_len]; omega)
/-! ### the object behind the loop -/
def TAc (C : Addr) (H : Hp) (a : Addr) (s : So02.St) (own : List Addr) : Prop := ∃ t ss pn pk, s = stS t ss ∧ At C H a t ss pn pk ∧ own = [a, pn, pk]
theorem rep_TAc (C : Addr) : Rep (TAc C) where
  mono := by
    rintro H H' a s own ⟨t, ss, pn, pk, e, ⟨⟨dx, ho⟩, hn, hk, ok, hle, hne⟩, rfl⟩ h
    exact ⟨t, ss, pn, pk, e, ⟨⟨dx, h a (by simp) _ ho⟩, h pn (by simp) _ hn, h pk (by simp) _ hk, ok, hle, hne⟩, rfl⟩
  trk := by
    rintro H a s own ⟨t, ss, pn, pk, e, ⟨⟨dx, ho⟩, hn, hk, ok, hle, hne⟩, rfl⟩ b hb
    rcases List.mem_cons.mp hb with z | hb
    · rw [z, ho]; simp
    rcases List.mem_cons.mp hb with z | hb
    · rw [z, hn]; simp
    · rw [List.mem_singleton.mp hb, hk]; simp
theorem stepQ_of {C a pn pk : Addr} {t : Table} {ss : List Nat} {cl : Call} {H H1 : Hp} {Q : VK} (q : StQ (TAc C) a [a, pn, pk] (stS t ss) cl H Q) (s : Same H H1) : StepQ C a pn pk t ss cl H1 Q := by
  intro H' p pn' pk' t' ss' e fr at' n1 n2 hp hp'
  refine q H' p [a, pn', pk'] (fun b o hb nb => fr b o (s b o hb) (fun z => nb (by rw [z]; simp)) (fun z => nb (by rw [z]; simp)) (fun z => nb (by rw [z]; simp))) ⟨t', ss', pn', pk', e.symm, at', rfl⟩ (fun b hb => ?_) (s.free hp) hp'
  rcases List.mem_cons.mp hb with z | hb
  · exact .inl (by rw [z]; simp)
  rcases List.mem_cons.mp hb with z | hb
  · rcases n1 with n1 | n1
    · exact .inl (by rw [z, n1]; simp)
    · exact .inr (by rw [z]; exact s.free n1)
  · have z := List.mem_singleton.mp hb
    rcases n2 with n2 | n2
    · exact .inl (by rw [z, n2]; simp)
    · exact .inr (by rw [z]; exact s.free n2)
section
variable {P : Program} {w : World} {K : PySem.W.Frag} {mg : Str → Option Value} {base : Heap} {C : Addr}
theorem ok_new {f : Addr} {fd : FuncData} (I : FnOk P w K mg base CX0 1 f fd ["self"] (spInit C)) : FnOk P w K mg base CX0 1 f fd ["self"] (spNew (TAc C) C) := I.imp fun vs H Q E h => by
  obtain ⟨p, dx, rfl, hp, k⟩ := h
  refine ⟨p, dx, rfl, hp, fun H' pn pk at' n1 n2 fr => k H' [p, pn, pk] ⟨_, _, pn, pk, rfl, at', rfl⟩ (fun b hb => ?_) fr⟩
  rcases List.mem_cons.mp hb with z | hb
  · exact .inl z
  rcases List.mem_cons.mp hb with z | hb
  · exact .inr (by rw [z]; exact n1)
  · exact .inr (by rw [List.mem_singleton.mp hb]; exact n2)
theorem scEn : FnScope ["calls", "start", "end"] ["calls", "start"] (defScope sEnd) := ⟨rfl, rfl, rfl, by decide +kernel, rfl, by decide +kernel, by decide +kernel⟩
theorem ok_end {f : Addr} {fd : FuncData} (F : Fun K "end_of_call" "end_of_call" sEnd f fd) (L : Lay P w K mg) : FnOk P w K mg base CX0 1 f fd ["calls", "start"] (spEnd K) := by
  obtain ⟨Wd, mW, hW⟩ := L.wn
  obtain ⟨Rt, mR, hR⟩ := L.rw
  refine F.ok scEn (fun vs H Q E h => ?_) (fun cdv A outer s H vs Q E hr h => ?_)
  · obtain ⟨b, ns, st, cl, t, rfl, _⟩ := h
    rfl
  · obtain ⟨b, ns, st, cl, t, rfl, hb, h960, form, q⟩ := h
    refine ⟨_, pss_cons (ps_set (i := 2) scEn.nd rfl (Or.inl rfl) (pe_op op_add (pe_op op_add (pv 1) pe_int) (pe_ix ix_kint (pe_glob (v := .ref Wd) rfl mW rfl) (pe_ix ix_list (pv 0) (pv 1) (fun _ _ => rfl)) (fun _ _ => rfl))))
      (pss_cons (ps_if (pt_cmpR op_in_seq (pe_ix ix_list (pv 0) (pv 1) (fun _ _ => rfl)) (pe_glob (v := .ref Rt) rfl mR rfl) (by rfl))
        (pss_one (ps_aug (i := 2) scEn.nd rfl (Or.inl rfl) (pe_op op_add pe_int (pe_ix ix_list (pv 0) (pv 2) (fun _ _ => rfl))) ip_add)) pss_nil)
      (pss_one (ps_ret (pv 2)))), ?_⟩
    have h0 : ns[st]? = some (code cl : Int) := by
      have := form_head form
      rw [List.getElem?_drop] at this
      exact this
    have h0' : (ns.map V.int)[st]? = some (V.int (code cl : Int)) := by rw [List.getElem?_map, h0]; rfl
    have hlt : st < ns.length := (List.getElem?_eq_some_iff.mp h0).1
    have elen : (ns.drop st).length = ns.length - st := List.length_drop
    refine ⟨_, rfl, _, _, rfl, rfl, _, rfl, _, rfl, b, _, _, _, rfl, rfl, hb, atI_nat h0', Wd, _, _, rfl, rfl, hW cl, _, _, rfl, rfl, ?_⟩
    refine ⟨_, rfl, _, rfl, b, _, _, _, rfl, rfl, hb, atI_nat h0', Rt, _, rfl, .inr (hR H), rfl, rfl, _, rfl, ?_⟩
    show if inV (.int (code cl : Int)) [.int 0, .int 9] = true then _ else _
    rw [row_in]
    cases z : rlen cl with
    | none =>
      refine iteF ⟨_, rfl, ?_⟩
      have := form_no form z
      have e : (st : Int) + 1 + (wn cl : Int) = ((ns.length - t.length : Nat) : Int) := by omega
      show Q (.int ((st : Int) + 1 + (wn cl : Int))) H
      rw [e]
      exact q
    | some m =>
      obtain ⟨h1, h2⟩ := form_row form z
      have h1' : (ns.map V.int)[st + (1 + wn cl)]? = some (V.int (m : Int)) := by
        rw [List.getElem?_drop] at h1
        rw [List.getElem?_map, h1]
        rfl
      have e1 : (st : Int) + 1 + (wn cl : Int) = ((st + (1 + wn cl) : Nat) : Int) := by omega
      refine iteT ⟨_, rfl, _, rfl, _, rfl, b, _, _, _, rfl, congrArg V.int e1, hb, atI_nat h1', _, _, rfl, rfl, _, _, rfl, rfl, _, rfl, ?_⟩
      have e : (st : Int) + 1 + (wn cl : Int) + (1 + (m : Int)) = ((ns.length - t.length : Nat) : Int) := by omega
      show Q (.int ((st : Int) + 1 + (wn cl : Int) + (1 + (m : Int)))) H
      rw [e]
      exact q
theorem scTo2 : FnScope ["table", "call"] ["table", "call"] (defScope sTo) := ⟨rfl, rfl, rfl, by decide +kernel, rfl, by decide +kernel, by decide +kernel⟩
theorem ok_to {f f0 f1 f2 f3 f4 f5 f6 f7 f8 f9 f10 f11 : Addr} {fd d0 d1 d2 d3 d4 d5 d6 d7 d8 d9 d10 d11 : FuncData} (F : Fun K "answer_to" "answer_to" sTo f fd) (T : Txt K mg C) (Z : Cc mg) (Mt : MDef P w K mg base C "table" 2 ["self", "r", "c", "numbers"] (spTable C K) f0 d0) (Mk1 : MDef P w K mg base C "keep" 5 ["self", "i", "j"] (spCell C .keep) f1 d1) (Ml : MDef P w K mg base C "tell" 2 ["self", "i", "j"] (spCell C .tell) f2 d2) (Mr : MDef P w K mg base C "range_of" 5 ["self", "i", "j"] (spCell C .range) f3 d3) (Mn : MDef P w K mg base C "known" 6 ["self"] (spNo C .known) f4 d4) (Me : MDef P w K mg base C "near" 6 ["self", "w"] (spW C .near) f5 d5) (Mm : MDef P w K mg base C "more" 6 ["self", "w"] (spW C .more) f6 d6) (Mh : MDef P w K mg base C "hide" 6 ["self", "w"] (spW C .hide) f7 d7) (Ms : MDef P w K mg base C "shown" 1 ["self"] (spNo C .shown) f8 d8) (Mf : MDef P w K mg base C "fits" 4 ["self", "numbers"] (spFits C K) f9 d9) (Mi : MDef P w K mg base C "first" 5 ["self", "i", "j", "v"] (spFirstM C) f10 d10) (Mu : MDef P w K mg base C "sums" 3 ["self"] (spSums C) f11 d11) :
    FnOk P w K mg base CX0 7 f fd ["table", "call"] (spTo (TAc C)) := by
  obtain ⟨x0, m0⟩ := Z.c0
  obtain ⟨x1, m1⟩ := Z.c1
  obtain ⟨x2, m2⟩ := Z.c2
  obtain ⟨x3, m3⟩ := Z.c3
  obtain ⟨x4, m4⟩ := Z.c4
  obtain ⟨x5, m5⟩ := Z.c5
  obtain ⟨x6, m6⟩ := Z.c6
  obtain ⟨x7, m7⟩ := Z.c7
  obtain ⟨x8, m8⟩ := Z.c8
  obtain ⟨x9, m9⟩ := Z.c9
  obtain ⟨x10, m10⟩ := Z.c10
  refine F.ok scTo2 (fun vs H Q E h => ?_) (fun cdv A outer st H vs Q E hr h => ?_)
  · obtain ⟨a, b, own, s, l, cl, rfl, _⟩ := h
    rfl
  · obtain ⟨a, b, own, s, l, cl, rfl, ⟨t, ss, pn, pk, rfl, at0, rfl⟩, nb, hb, form, q⟩ := h
    refine ⟨_, pss_cons (ps_if (pt_cmpR op_eq (pe_ix ix_list (pv 1) pe_int (fun _ _ => rfl)) (pe_glob (v := .int 0) rfl m0 ⟨_, rfl⟩) (nomark _)) (pss_one (ps_ret (pe_meth (pv 0) T.cl Mt.m Mt.ok (hr.mono (by decide)) Mt.b .nil pass0 (pa_cons (pe_ix ix_list (pv 1) pe_int (fun _ _ => rfl)) (pa_cons (pe_ix ix_list (pv 1) pe_int (fun _ _ => rfl)) (pa_cons (pe_slice sl_list (pv 1) (po_some pe_int) po_none) pa_nil)))))) pss_nil)
      (pss_cons (ps_if (pt_cmpR op_eq (pe_ix ix_list (pv 1) pe_int (fun _ _ => rfl)) (pe_glob (v := .int 1) rfl m1 ⟨_, rfl⟩) (nomark _)) (pss_one (ps_ret (pe_meth (pv 0) T.cl Mk1.m Mk1.ok (hr.mono (by decide)) Mk1.b .nil pass0 (pa_cons (pe_ix ix_list (pv 1) pe_int (fun _ _ => rfl)) (pa_cons (pe_ix ix_list (pv 1) pe_int (fun _ _ => rfl)) pa_nil))))) pss_nil)
      (pss_cons (ps_if (pt_cmpR op_eq (pe_ix ix_list (pv 1) pe_int (fun _ _ => rfl)) (pe_glob (v := .int 2) rfl m2 ⟨_, rfl⟩) (nomark _)) (pss_one (ps_ret (pe_meth (pv 0) T.cl Ml.m Ml.ok (hr.mono (by decide)) Ml.b .nil pass0 (pa_cons (pe_ix ix_list (pv 1) pe_int (fun _ _ => rfl)) (pa_cons (pe_ix ix_list (pv 1) pe_int (fun _ _ => rfl)) pa_nil))))) pss_nil)
      (pss_cons (ps_if (pt_cmpR op_eq (pe_ix ix_list (pv 1) pe_int (fun _ _ => rfl)) (pe_glob (v := .int 3) rfl m3 ⟨_, rfl⟩) (nomark _)) (pss_one (ps_ret (pe_meth (pv 0) T.cl Mr.m Mr.ok (hr.mono (by decide)) Mr.b .nil pass0 (pa_cons (pe_ix ix_list (pv 1) pe_int (fun _ _ => rfl)) (pa_cons (pe_ix ix_list (pv 1) pe_int (fun _ _ => rfl)) pa_nil))))) pss_nil)
      (pss_cons (ps_if (pt_cmpR op_eq (pe_ix ix_list (pv 1) pe_int (fun _ _ => rfl)) (pe_glob (v := .int 4) rfl m4 ⟨_, rfl⟩) (nomark _)) (pss_one (ps_ret (pe_meth0 (pv 0) T.cl Mn.m Mn.ok hr Mn.b .nil pass0))) pss_nil)
      (pss_cons (ps_if (pt_cmpR op_eq (pe_ix ix_list (pv 1) pe_int (fun _ _ => rfl)) (pe_glob (v := .int 5) rfl m5 ⟨_, rfl⟩) (nomark _)) (pss_one (ps_ret (pe_meth (pv 0) T.cl Me.m Me.ok hr Me.b .nil pass0 (pa_cons (pe_ix ix_list (pv 1) pe_int (fun _ _ => rfl)) pa_nil)))) pss_nil)
      (pss_cons (ps_if (pt_cmpR op_eq (pe_ix ix_list (pv 1) pe_int (fun _ _ => rfl)) (pe_glob (v := .int 6) rfl m6 ⟨_, rfl⟩) (nomark _)) (pss_one (ps_ret (pe_meth (pv 0) T.cl Mm.m Mm.ok hr Mm.b .nil pass0 (pa_cons (pe_ix ix_list (pv 1) pe_int (fun _ _ => rfl)) pa_nil)))) pss_nil)
      (pss_cons (ps_if (pt_cmpR op_eq (pe_ix ix_list (pv 1) pe_int (fun _ _ => rfl)) (pe_glob (v := .int 7) rfl m7 ⟨_, rfl⟩) (nomark _)) (pss_one (ps_ret (pe_meth (pv 0) T.cl Mh.m Mh.ok hr Mh.b .nil pass0 (pa_cons (pe_ix ix_list (pv 1) pe_int (fun _ _ => rfl)) pa_nil)))) pss_nil)
      (pss_cons (ps_if (pt_cmpR op_eq (pe_ix ix_list (pv 1) pe_int (fun _ _ => rfl)) (pe_glob (v := .int 8) rfl m8 ⟨_, rfl⟩) (nomark _)) (pss_one (ps_ret (pe_meth0 (pv 0) T.cl Ms.m Ms.ok (hr.mono (by decide)) Ms.b .nil pass0))) pss_nil)
      (pss_cons (ps_if (pt_cmpR op_eq (pe_ix ix_list (pv 1) pe_int (fun _ _ => rfl)) (pe_glob (v := .int 9) rfl m9 ⟨_, rfl⟩) (nomark _)) (pss_one (ps_ret (pe_meth (pv 0) T.cl Mf.m Mf.ok (hr.mono (by decide)) Mf.b .nil pass0 (pa_cons (pe_slice sl_list (pv 1) (po_some pe_int) po_none) pa_nil)))) pss_nil)
      (pss_cons (ps_if (pt_cmpR op_eq (pe_ix ix_list (pv 1) pe_int (fun _ _ => rfl)) (pe_glob (v := .int 10) rfl m10 ⟨_, rfl⟩) (nomark _)) (pss_one (ps_ret (pe_meth (pv 0) T.cl Mi.m Mi.ok (hr.mono (by decide)) Mi.b .nil pass0 (pa_cons (pe_ix ix_list (pv 1) pe_int (fun _ _ => rfl)) (pa_cons (pe_ix ix_list (pv 1) pe_int (fun _ _ => rfl)) (pa_cons (pe_ix ix_list (pv 1) pe_int (fun _ _ => rfl)) pa_nil)))))) pss_nil)
      (pss_one (ps_ret (pe_meth0 (pv 0) T.cl Mu.m Mu.ok (hr.mono (by decide)) Mu.b .nil pass0))))))))))))), ?_⟩
    obtain ⟨dx, ho⟩ := at0.obj
    cases form with
    | table r c row _ hr32 hc32 hl hm =>
      refine ⟨_, rfl, b, _, _, _, rfl, rfl, SqL.of hb, atI_nat (j := 0) rfl, rfl, _, rfl, ?_⟩
      refine tT (by decide) ?_
      refine ⟨_, rfl, a, dx, _, rfl, ho, kF_m, _, rfl, b, _, _, _, rfl, rfl, SqL.of hb, atI_nat (j := 1) rfl, _, rfl, b, _, _, _, rfl, rfl, SqL.of hb, atI_nat (j := 2) rfl, ?_⟩
      refine ⟨_, rfl, _, rfl, b, _, rfl, SqL.of hb, fun p4 hp4 => ?_⟩
      have e4 : cutV ((0 :: (r : Int) :: (c : Int) :: (row.length : Int) :: (So02.ints row ++ [])).map V.int) (some 4) none = nv row := cut_row [0, (r : Int), (c : Int), (row.length : Int)] row
      rw [e4]
      exact ⟨a, pn, pk, p4, t, ss, r, c, row, rfl, at0.mono (Same.new hp4), SqL.of upd_same, hr32, stepQ_of q (Same.new hp4)⟩
    | keep i j _ hi hj =>
      refine ⟨_, rfl, b, _, _, _, rfl, rfl, SqL.of hb, atI_nat (j := 0) rfl, rfl, _, rfl, ?_⟩
      refine tF (by decide) ?_
      refine ⟨_, rfl, b, _, _, _, rfl, rfl, SqL.of hb, atI_nat (j := 0) rfl, rfl, _, rfl, ?_⟩
      refine tT (by decide) ?_
      exact ⟨_, rfl, a, dx, _, rfl, ho, kF_m, _, rfl, b, _, _, _, rfl, rfl, SqL.of hb, atI_nat (j := 1) rfl, _, rfl, b, _, _, _, rfl, rfl, SqL.of hb, atI_nat (j := 2) rfl, a, pn, pk, t, ss, i, j, rfl, at0, stepQ_of q (Same.refl _)⟩
    | tell i j _ hi hj =>
      refine ⟨_, rfl, b, _, _, _, rfl, rfl, SqL.of hb, atI_nat (j := 0) rfl, rfl, _, rfl, ?_⟩
      refine tF (by decide) ?_
      refine ⟨_, rfl, b, _, _, _, rfl, rfl, SqL.of hb, atI_nat (j := 0) rfl, rfl, _, rfl, ?_⟩
      refine tF (by decide) ?_
      refine ⟨_, rfl, b, _, _, _, rfl, rfl, SqL.of hb, atI_nat (j := 0) rfl, rfl, _, rfl, ?_⟩
      refine tT (by decide) ?_
      exact ⟨_, rfl, a, dx, _, rfl, ho, kF_m, _, rfl, b, _, _, _, rfl, rfl, SqL.of hb, atI_nat (j := 1) rfl, _, rfl, b, _, _, _, rfl, rfl, SqL.of hb, atI_nat (j := 2) rfl, a, pn, pk, t, ss, i, j, rfl, at0, stepQ_of q (Same.refl _)⟩
    | range i j _ hi hj =>
      refine ⟨_, rfl, b, _, _, _, rfl, rfl, SqL.of hb, atI_nat (j := 0) rfl, rfl, _, rfl, ?_⟩
      refine tF (by decide) ?_
      refine ⟨_, rfl, b, _, _, _, rfl, rfl, SqL.of hb, atI_nat (j := 0) rfl, rfl, _, rfl, ?_⟩
      refine tF (by decide) ?_
      refine ⟨_, rfl, b, _, _, _, rfl, rfl, SqL.of hb, atI_nat (j := 0) rfl, rfl, _, rfl, ?_⟩
      refine tF (by decide) ?_
      refine ⟨_, rfl, b, _, _, _, rfl, rfl, SqL.of hb, atI_nat (j := 0) rfl, rfl, _, rfl, ?_⟩
      refine tT (by decide) ?_
      exact ⟨_, rfl, a, dx, _, rfl, ho, kF_m, _, rfl, b, _, _, _, rfl, rfl, SqL.of hb, atI_nat (j := 1) rfl, _, rfl, b, _, _, _, rfl, rfl, SqL.of hb, atI_nat (j := 2) rfl, a, pn, pk, t, ss, i, j, rfl, at0, stepQ_of q (Same.refl _)⟩
    | known _ =>
      refine ⟨_, rfl, b, _, _, _, rfl, rfl, SqL.of hb, atI_nat (j := 0) rfl, rfl, _, rfl, ?_⟩
      refine tF (by decide) ?_
      refine ⟨_, rfl, b, _, _, _, rfl, rfl, SqL.of hb, atI_nat (j := 0) rfl, rfl, _, rfl, ?_⟩
      refine tF (by decide) ?_
      refine ⟨_, rfl, b, _, _, _, rfl, rfl, SqL.of hb, atI_nat (j := 0) rfl, rfl, _, rfl, ?_⟩
      refine tF (by decide) ?_
      refine ⟨_, rfl, b, _, _, _, rfl, rfl, SqL.of hb, atI_nat (j := 0) rfl, rfl, _, rfl, ?_⟩
      refine tF (by decide) ?_
      refine ⟨_, rfl, b, _, _, _, rfl, rfl, SqL.of hb, atI_nat (j := 0) rfl, rfl, _, rfl, ?_⟩
      refine tT (by decide) ?_
      exact ⟨_, rfl, a, dx, _, rfl, ho, kF_m, a, pn, pk, t, ss, rfl, at0, stepQ_of q (Same.refl _)⟩
    | near wd _ hw =>
      refine ⟨_, rfl, b, _, _, _, rfl, rfl, SqL.of hb, atI_nat (j := 0) rfl, rfl, _, rfl, ?_⟩
      refine tF (by decide) ?_
      refine ⟨_, rfl, b, _, _, _, rfl, rfl, SqL.of hb, atI_nat (j := 0) rfl, rfl, _, rfl, ?_⟩
      refine tF (by decide) ?_
      refine ⟨_, rfl, b, _, _, _, rfl, rfl, SqL.of hb, atI_nat (j := 0) rfl, rfl, _, rfl, ?_⟩
      refine tF (by decide) ?_
      refine ⟨_, rfl, b, _, _, _, rfl, rfl, SqL.of hb, atI_nat (j := 0) rfl, rfl, _, rfl, ?_⟩
      refine tF (by decide) ?_
      refine ⟨_, rfl, b, _, _, _, rfl, rfl, SqL.of hb, atI_nat (j := 0) rfl, rfl, _, rfl, ?_⟩
      refine tF (by decide) ?_
      refine ⟨_, rfl, b, _, _, _, rfl, rfl, SqL.of hb, atI_nat (j := 0) rfl, rfl, _, rfl, ?_⟩
      refine tT (by decide) ?_
      exact ⟨_, rfl, a, dx, _, rfl, ho, kF_m, _, rfl, b, _, _, _, rfl, rfl, SqL.of hb, atI_nat (j := 1) rfl, a, pn, pk, t, ss, wd, rfl, at0, stepQ_of q (Same.refl _)⟩
    | more wd _ hw =>
      refine ⟨_, rfl, b, _, _, _, rfl, rfl, SqL.of hb, atI_nat (j := 0) rfl, rfl, _, rfl, ?_⟩
      refine tF (by decide) ?_
      refine ⟨_, rfl, b, _, _, _, rfl, rfl, SqL.of hb, atI_nat (j := 0) rfl, rfl, _, rfl, ?_⟩
      refine tF (by decide) ?_
      refine ⟨_, rfl, b, _, _, _, rfl, rfl, SqL.of hb, atI_nat (j := 0) rfl, rfl, _, rfl, ?_⟩
      refine tF (by decide) ?_
      refine ⟨_, rfl, b, _, _, _, rfl, rfl, SqL.of hb, atI_nat (j := 0) rfl, rfl, _, rfl, ?_⟩
      refine tF (by decide) ?_
      refine ⟨_, rfl, b, _, _, _, rfl, rfl, SqL.of hb, atI_nat (j := 0) rfl, rfl, _, rfl, ?_⟩
      refine tF (by decide) ?_
      refine ⟨_, rfl, b, _, _, _, rfl, rfl, SqL.of hb, atI_nat (j := 0) rfl, rfl, _, rfl, ?_⟩
      refine tF (by decide) ?_
      refine ⟨_, rfl, b, _, _, _, rfl, rfl, SqL.of hb, atI_nat (j := 0) rfl, rfl, _, rfl, ?_⟩
      refine tT (by decide) ?_
      exact ⟨_, rfl, a, dx, _, rfl, ho, kF_m, _, rfl, b, _, _, _, rfl, rfl, SqL.of hb, atI_nat (j := 1) rfl, a, pn, pk, t, ss, wd, rfl, at0, stepQ_of q (Same.refl _)⟩
    | hide wd _ hw =>
      refine ⟨_, rfl, b, _, _, _, rfl, rfl, SqL.of hb, atI_nat (j := 0) rfl, rfl, _, rfl, ?_⟩
      refine tF (by decide) ?_
      refine ⟨_, rfl, b, _, _, _, rfl, rfl, SqL.of hb, atI_nat (j := 0) rfl, rfl, _, rfl, ?_⟩
      refine tF (by decide) ?_
      refine ⟨_, rfl, b, _, _, _, rfl, rfl, SqL.of hb, atI_nat (j := 0) rfl, rfl, _, rfl, ?_⟩
      refine tF (by decide) ?_
      refine ⟨_, rfl, b, _, _, _, rfl, rfl, SqL.of hb, atI_nat (j := 0) rfl, rfl, _, rfl, ?_⟩
      refine tF (by decide) ?_
      refine ⟨_, rfl, b, _, _, _, rfl, rfl, SqL.of hb, atI_nat (j := 0) rfl, rfl, _, rfl, ?_⟩
      refine tF (by decide) ?_
      refine ⟨_, rfl, b, _, _, _, rfl, rfl, SqL.of hb, atI_nat (j := 0) rfl, rfl, _, rfl, ?_⟩
      refine tF (by decide) ?_
      refine ⟨_, rfl, b, _, _, _, rfl, rfl, SqL.of hb, atI_nat (j := 0) rfl, rfl, _, rfl, ?_⟩
      refine tF (by decide) ?_
      refine ⟨_, rfl, b, _, _, _, rfl, rfl, SqL.of hb, atI_nat (j := 0) rfl, rfl, _, rfl, ?_⟩
      refine tT (by decide) ?_
      exact ⟨_, rfl, a, dx, _, rfl, ho, kF_m, _, rfl, b, _, _, _, rfl, rfl, SqL.of hb, atI_nat (j := 1) rfl, a, pn, pk, t, ss, wd, rfl, at0, stepQ_of q (Same.refl _)⟩
    | shown _ =>
      refine ⟨_, rfl, b, _, _, _, rfl, rfl, SqL.of hb, atI_nat (j := 0) rfl, rfl, _, rfl, ?_⟩
      refine tF (by decide) ?_
      refine ⟨_, rfl, b, _, _, _, rfl, rfl, SqL.of hb, atI_nat (j := 0) rfl, rfl, _, rfl, ?_⟩
      refine tF (by decide) ?_
      refine ⟨_, rfl, b, _, _, _, rfl, rfl, SqL.of hb, atI_nat (j := 0) rfl, rfl, _, rfl, ?_⟩
      refine tF (by decide) ?_
      refine ⟨_, rfl, b, _, _, _, rfl, rfl, SqL.of hb, atI_nat (j := 0) rfl, rfl, _, rfl, ?_⟩
      refine tF (by decide) ?_
      refine ⟨_, rfl, b, _, _, _, rfl, rfl, SqL.of hb, atI_nat (j := 0) rfl, rfl, _, rfl, ?_⟩
      refine tF (by decide) ?_
      refine ⟨_, rfl, b, _, _, _, rfl, rfl, SqL.of hb, atI_nat (j := 0) rfl, rfl, _, rfl, ?_⟩
      refine tF (by decide) ?_
      refine ⟨_, rfl, b, _, _, _, rfl, rfl, SqL.of hb, atI_nat (j := 0) rfl, rfl, _, rfl, ?_⟩
      refine tF (by decide) ?_
      refine ⟨_, rfl, b, _, _, _, rfl, rfl, SqL.of hb, atI_nat (j := 0) rfl, rfl, _, rfl, ?_⟩
      refine tF (by decide) ?_
      refine ⟨_, rfl, b, _, _, _, rfl, rfl, SqL.of hb, atI_nat (j := 0) rfl, rfl, _, rfl, ?_⟩
      refine tT (by decide) ?_
      exact ⟨_, rfl, a, dx, _, rfl, ho, kF_m, a, pn, pk, t, ss, rfl, at0, stepQ_of q (Same.refl _)⟩
    | fits row _ hl hm =>
      refine ⟨_, rfl, b, _, _, _, rfl, rfl, SqL.of hb, atI_nat (j := 0) rfl, rfl, _, rfl, ?_⟩
      refine tF (by decide) ?_
      refine ⟨_, rfl, b, _, _, _, rfl, rfl, SqL.of hb, atI_nat (j := 0) rfl, rfl, _, rfl, ?_⟩
      refine tF (by decide) ?_
      refine ⟨_, rfl, b, _, _, _, rfl, rfl, SqL.of hb, atI_nat (j := 0) rfl, rfl, _, rfl, ?_⟩
      refine tF (by decide) ?_
      refine ⟨_, rfl, b, _, _, _, rfl, rfl, SqL.of hb, atI_nat (j := 0) rfl, rfl, _, rfl, ?_⟩
      refine tF (by decide) ?_
      refine ⟨_, rfl, b, _, _, _, rfl, rfl, SqL.of hb, atI_nat (j := 0) rfl, rfl, _, rfl, ?_⟩
      refine tF (by decide) ?_
      refine ⟨_, rfl, b, _, _, _, rfl, rfl, SqL.of hb, atI_nat (j := 0) rfl, rfl, _, rfl, ?_⟩
      refine tF (by decide) ?_
      refine ⟨_, rfl, b, _, _, _, rfl, rfl, SqL.of hb, atI_nat (j := 0) rfl, rfl, _, rfl, ?_⟩
      refine tF (by decide) ?_
      refine ⟨_, rfl, b, _, _, _, rfl, rfl, SqL.of hb, atI_nat (j := 0) rfl, rfl, _, rfl, ?_⟩
      refine tF (by decide) ?_
      refine ⟨_, rfl, b, _, _, _, rfl, rfl, SqL.of hb, atI_nat (j := 0) rfl, rfl, _, rfl, ?_⟩
      refine tF (by decide) ?_
      refine ⟨_, rfl, b, _, _, _, rfl, rfl, SqL.of hb, atI_nat (j := 0) rfl, rfl, _, rfl, ?_⟩
      refine tT (by decide) ?_
      refine ⟨_, rfl, a, dx, _, rfl, ho, kF_m, ?_⟩
      refine ⟨_, rfl, _, rfl, b, _, rfl, SqL.of hb, fun p4 hp4 => ?_⟩
      have e4 : cutV ((9 :: (row.length : Int) :: (So02.ints row ++ [])).map V.int) (some 2) none = nv row := cut_row [9, (row.length : Int)] row
      rw [e4]
      exact ⟨a, pn, pk, p4, t, ss, row, rfl, at0.mono (Same.new hp4), SqL.of upd_same, stepQ_of q (Same.new hp4)⟩
    | first i j v _ hi hj hv =>
      refine ⟨_, rfl, b, _, _, _, rfl, rfl, SqL.of hb, atI_nat (j := 0) rfl, rfl, _, rfl, ?_⟩
      refine tF (by decide) ?_
      refine ⟨_, rfl, b, _, _, _, rfl, rfl, SqL.of hb, atI_nat (j := 0) rfl, rfl, _, rfl, ?_⟩
      refine tF (by decide) ?_
      refine ⟨_, rfl, b, _, _, _, rfl, rfl, SqL.of hb, atI_nat (j := 0) rfl, rfl, _, rfl, ?_⟩
      refine tF (by decide) ?_
      refine ⟨_, rfl, b, _, _, _, rfl, rfl, SqL.of hb, atI_nat (j := 0) rfl, rfl, _, rfl, ?_⟩
      refine tF (by decide) ?_
      refine ⟨_, rfl, b, _, _, _, rfl, rfl, SqL.of hb, atI_nat (j := 0) rfl, rfl, _, rfl, ?_⟩
      refine tF (by decide) ?_
      refine ⟨_, rfl, b, _, _, _, rfl, rfl, SqL.of hb, atI_nat (j := 0) rfl, rfl, _, rfl, ?_⟩
      refine tF (by decide) ?_
      refine ⟨_, rfl, b, _, _, _, rfl, rfl, SqL.of hb, atI_nat (j := 0) rfl, rfl, _, rfl, ?_⟩
      refine tF (by decide) ?_
      refine ⟨_, rfl, b, _, _, _, rfl, rfl, SqL.of hb, atI_nat (j := 0) rfl, rfl, _, rfl, ?_⟩
      refine tF (by decide) ?_
      refine ⟨_, rfl, b, _, _, _, rfl, rfl, SqL.of hb, atI_nat (j := 0) rfl, rfl, _, rfl, ?_⟩
      refine tF (by decide) ?_
      refine ⟨_, rfl, b, _, _, _, rfl, rfl, SqL.of hb, atI_nat (j := 0) rfl, rfl, _, rfl, ?_⟩
      refine tF (by decide) ?_
      refine ⟨_, rfl, b, _, _, _, rfl, rfl, SqL.of hb, atI_nat (j := 0) rfl, rfl, _, rfl, ?_⟩
      refine tT (by decide) ?_
      exact ⟨_, rfl, a, dx, _, rfl, ho, kF_m, _, rfl, b, _, _, _, rfl, rfl, SqL.of hb, atI_nat (j := 1) rfl, _, rfl, b, _, _, _, rfl, rfl, SqL.of hb, atI_nat (j := 2) rfl, _, rfl, b, _, _, _, rfl, rfl, SqL.of hb, atI_nat (j := 3) rfl, a, pn, pk, t, ss, i, j, v, rfl, at0, stepQ_of q (Same.refl _)⟩
    | sums _ =>
      refine ⟨_, rfl, b, _, _, _, rfl, rfl, SqL.of hb, atI_nat (j := 0) rfl, rfl, _, rfl, ?_⟩
      refine tF (by decide) ?_
      refine ⟨_, rfl, b, _, _, _, rfl, rfl, SqL.of hb, atI_nat (j := 0) rfl, rfl, _, rfl, ?_⟩
      refine tF (by decide) ?_
      refine ⟨_, rfl, b, _, _, _, rfl, rfl, SqL.of hb, atI_nat (j := 0) rfl, rfl, _, rfl, ?_⟩
      refine tF (by decide) ?_
      refine ⟨_, rfl, b, _, _, _, rfl, rfl, SqL.of hb, atI_nat (j := 0) rfl, rfl, _, rfl, ?_⟩
      refine tF (by decide) ?_
      refine ⟨_, rfl, b, _, _, _, rfl, rfl, SqL.of hb, atI_nat (j := 0) rfl, rfl, _, rfl, ?_⟩
      refine tF (by decide) ?_
      refine ⟨_, rfl, b, _, _, _, rfl, rfl, SqL.of hb, atI_nat (j := 0) rfl, rfl, _, rfl, ?_⟩
      refine tF (by decide) ?_
      refine ⟨_, rfl, b, _, _, _, rfl, rfl, SqL.of hb, atI_nat (j := 0) rfl, rfl, _, rfl, ?_⟩
      refine tF (by decide) ?_
      refine ⟨_, rfl, b, _, _, _, rfl, rfl, SqL.of hb, atI_nat (j := 0) rfl, rfl, _, rfl, ?_⟩
      refine tF (by decide) ?_
      refine ⟨_, rfl, b, _, _, _, rfl, rfl, SqL.of hb, atI_nat (j := 0) rfl, rfl, _, rfl, ?_⟩
      refine tF (by decide) ?_
      refine ⟨_, rfl, b, _, _, _, rfl, rfl, SqL.of hb, atI_nat (j := 0) rfl, rfl, _, rfl, ?_⟩
      refine tF (by decide) ?_
      refine ⟨_, rfl, b, _, _, _, rfl, rfl, SqL.of hb, atI_nat (j := 0) rfl, rfl, _, rfl, ?_⟩
      refine tF (by decide) ?_
      refine ⟨_, rfl, a, dx, _, rfl, ho, kF_m, a, pn, pk, t, ss, rfl, at0, fun H' p s1 hp hp' => ?_⟩
      refine (stepQ_of q (Same.refl _)).same at0 (ans := So02.ints (sumsL t t.nums)) rfl s1 hp ?_
      rw [hp', nv_ints]
      rfl
end
end CK
namespace CK
open PySem PySem.Spec PyProof.Rows L2 So02
def keyChk (e : DictEntry) : Bool := match e.key with
  | .int k _ => e.hash == hashInt k
  | _ => false
theorem keysL {P : Program} {w : World} {es : Array DictEntry} (h : es.toList.all keyChk = true) : PySem.KeysOf (PySem.intKind P w) es := by
  intro e he
  have := List.all_eq_true.mp h e (Array.mem_toList_iff.mpr he)
  unfold keyChk at this
  split at this
  · rename_i k t ek
    exact ⟨k, by rw [ek]; exact intKind_is P w k t, beq_iff_eq.mp this⟩
  · cases this
theorem all_mk {P : Program} {w : World} {K : PySem.W.Frag} {h : Heap} {mg : Str → Option Value} {fa C W R f1 f2 f3 f4 f5 f6 f7 f8 f9 f10 f11 f12 f13 f14 f15 f16 f17 f18 f19 f20 f21 f22 f23 f24 f25 f26 f27 f28 f29 f30 f31 f32 f33 f34 f35 : Addr} (X : K.In h) (G : h.Ns mainGlobals mg) (hfa : mg "answers" = some (.ref fa))
    {od1 an1 od2 an2 od3 an3 od4 an4 od5 an5 od6 an6 od7 an7 od8 an8 od9 an9 od10 an10 od11 an11 od12 an12 od13 an13 od14 an14 od15 an15 od16 an16 od17 an17 od18 an18 od19 an19 od20 an20 od21 an21 od22 an22 od23 an23 od24 an24 od25 an25 od26 an26 od27 an27 od28 an28 od29 an29 od30 an30 od31 an31 od32 an32 od33 an33 od34 an34 od35 an35 : Option Addr} {sl1 sl2 sl3 sl4 sl5 sl6 sl7 sl8 sl9 sl10 sl11 sl12 sl13 sl14 sl15 sl16 sl17 sl18 sl19 sl20 sl21 sl22 sl23 sl24 sl25 sl26 sl27 sl28 sl29 sl30 sl31 sl32 sl33 sl34 sl35 : Array (Option Value)} {oc1 kV1 dc1 pm1 cd1 ct1 oc2 kV2 dc2 pm2 cd2 ct2 oc3 kV3 dc3 pm3 cd3 ct3 oc4 kV4 dc4 pm4 cd4 ct4 oc5 kV5 dc5 pm5 cd5 ct5 oc6 kV6 dc6 pm6 cd6 ct6 oc7 kV7 dc7 pm7 cd7 ct7 oc8 kV8 dc8 pm8 cd8 ct8 oc9 kV9 dc9 pm9 cd9 ct9 oc10 kV10 dc10 pm10 cd10 ct10 oc11 kV11 dc11 pm11 cd11 ct11 oc12 kV12 dc12 pm12 cd12 ct12 oc13 kV13 dc13 pm13 cd13 ct13 oc14 kV14 dc14 pm14 cd14 ct14 oc15 kV15 dc15 pm15 cd15 ct15 oc16 kV16 dc16 pm16 cd16 ct16 oc17 kV17 dc17 pm17 cd17 ct17 oc18 kV18 dc18 pm18 cd18 ct18 oc19 kV19 dc19 pm19 cd19 ct19 oc20 kV20 dc20 pm20 cd20 ct20 oc21 kV21 dc21 pm21 cd21 ct21 oc22 kV22 dc22 pm22 cd22 ct22 oc23 kV23 dc23 pm23 cd23 ct23 oc24 kV24 dc24 pm24 cd24 ct24 oc25 kV25 dc25 pm25 cd25 ct25 oc26 kV26 dc26 pm26 cd26 ct26 oc27 kV27 dc27 pm27 cd27 ct27 oc28 kV28 dc28 pm28 cd28 ct28 oc29 kV29 dc29 pm29 cd29 ct29 oc30 kV30 dc30 pm30 cd30 ct30 oc31 kV31 dc31 pm31 cd31 ct31 oc32 kV32 dc32 pm32 cd32 ct32 oc33 kV33 dc33 pm33 cd33 ct33 oc34 kV34 dc34 pm34 cd34 ct34 oc35 kV35 dc35 pm35 cd35 ct35 : Value} {t_TABLE t_KEEP t_TELL t_RANGE_OF t_KNOWN t_NEAR t_MORE t_HIDE t_SHOWN t_FITS t_FIRST t_NOT_A_TABLE t_NO_SUCH_CELL t_NOT_KEPT t_KEPT_ALREADY t_NOT_EVEN_WITH_ALL t_NO_SUCH_TABLE t_MOST_ROWS t_MOST_COLUMNS t_MOST_IN_A_CELL t_TOLD t_FOR_ITSELF t_WITH_OTHERS : Tok}
    {es : Array DictEntry} {nW nR : Nat} {oR : Obj} {its : Array Value}
    (a1 : PySem.W.nsIn K mainGlobals "range_of_cell" = some (some (.ref f1)))
    (l1 : K.lookup f1 = some ⟨oc1, od1, .func (PySem.W.fnOf "range_of_cell" "range_of_cell" (defArgs (top 1)) (defBody (top 1)) (defScope (top 1)) .none kV1 dc1 pm1 an1 cd1 ct1), sl1⟩) (c1 : PySem.W.codeIn K cd1 "range_of_cell" = true) (k1 : PySem.W.keepIn K (.ref f1) = true)
    (a2 : PySem.W.nsIn K mainGlobals "range_by_left" = some (some (.ref f2)))
    (l2 : K.lookup f2 = some ⟨oc2, od2, .func (PySem.W.fnOf "range_by_left" "range_by_left" (defArgs (top 2)) (defBody (top 2)) (defScope (top 2)) .none kV2 dc2 pm2 an2 cd2 ct2), sl2⟩) (c2 : PySem.W.codeIn K cd2 "range_by_left" = true) (k2 : PySem.W.keepIn K (.ref f2) = true)
    (a3 : PySem.W.nsIn K mainGlobals "left_in_rows" = some (some (.ref f3)))
    (l3 : K.lookup f3 = some ⟨oc3, od3, .func (PySem.W.fnOf "left_in_rows" "left_in_rows" (defArgs (top 3)) (defBody (top 3)) (defScope (top 3)) .none kV3 dc3 pm3 an3 cd3 ct3), sl3⟩) (c3 : PySem.W.codeIn K cd3 "left_in_rows" = true) (k3 : PySem.W.keepIn K (.ref f3) = true)
    (a4 : PySem.W.nsIn K mainGlobals "left_in_columns" = some (some (.ref f4)))
    (l4 : K.lookup f4 = some ⟨oc4, od4, .func (PySem.W.fnOf "left_in_columns" "left_in_columns" (defArgs (top 4)) (defBody (top 4)) (defScope (top 4)) .none kV4 dc4 pm4 an4 cd4 ct4), sl4⟩) (c4 : PySem.W.codeIn K cd4 "left_in_columns" = true) (k4 : PySem.W.keepIn K (.ref f4) = true)
    (a5 : PySem.W.nsIn K mainGlobals "choices_of_rows" = some (some (.ref f5)))
    (l5 : K.lookup f5 = some ⟨oc5, od5, .func (PySem.W.fnOf "choices_of_rows" "choices_of_rows" (defArgs (top 5)) (defBody (top 5)) (defScope (top 5)) .none kV5 dc5 pm5 an5 cd5 ct5), sl5⟩) (c5 : PySem.W.codeIn K cd5 "choices_of_rows" = true) (k5 : PySem.W.keepIn K (.ref f5) = true)
    (a6 : PySem.W.nsIn K mainGlobals "columns_reached" = some (some (.ref f6)))
    (l6 : K.lookup f6 = some ⟨oc6, od6, .func (PySem.W.fnOf "columns_reached" "columns_reached" (defArgs (top 6)) (defBody (top 6)) (defScope (top 6)) .none kV6 dc6 pm6 an6 cd6 ct6), sl6⟩) (c6 : PySem.W.codeIn K cd6 "columns_reached" = true) (k6 : PySem.W.keepIn K (.ref f6) = true)
    (a7 : PySem.W.nsIn K mainGlobals "fewest_more" = some (some (.ref f7)))
    (l7 : K.lookup f7 = some ⟨oc7, od7, .func (PySem.W.fnOf "fewest_more" "fewest_more" (defArgs (top 8)) (defBody (top 8)) (defScope (top 8)) .none kV7 dc7 pm7 an7 cd7 ct7), sl7⟩) (c7 : PySem.W.codeIn K cd7 "fewest_more" = true) (k7 : PySem.W.keepIn K (.ref f7) = true)
    (a8 : PySem.W.nsIn K mainGlobals "with_one_more" = some (some (.ref f8)))
    (l8 : K.lookup f8 = some ⟨oc8, od8, .func (PySem.W.fnOf "with_one_more" "with_one_more" (defArgs (top 9)) (defBody (top 9)) (defScope (top 9)) .none kV8 dc8 pm8 an8 cd8 ct8), sl8⟩) (c8 : PySem.W.codeIn K cd8 "with_one_more" = true) (k8 : PySem.W.keepIn K (.ref f8) = true)
    (a9 : PySem.W.nsIn K mainGlobals "all_are_wide" = some (some (.ref f9)))
    (l9 : K.lookup f9 = some ⟨oc9, od9, .func (PySem.W.fnOf "all_are_wide" "all_are_wide" (defArgs (top 10)) (defBody (top 10)) (defScope (top 10)) .none kV9 dc9 pm9 an9 cd9 ct9), sl9⟩) (c9 : PySem.W.codeIn K cd9 "all_are_wide" = true) (k9 : PySem.W.keepIn K (.ref f9) = true)
    (a10 : PySem.W.nsIn K mainGlobals "first_table" = some (some (.ref f10)))
    (l10 : K.lookup f10 = some ⟨oc10, od10, .func (PySem.W.fnOf "first_table" "first_table" (defArgs (top 12)) (defBody (top 12)) (defScope (top 12)) .none kV10 dc10 pm10 an10 cd10 ct10), sl10⟩) (c10 : PySem.W.codeIn K cd10 "first_table" = true) (k10 : PySem.W.keepIn K (.ref f10) = true)
    (a11 : PySem.W.findIn K (.ref C) "__init__" = some (some (.ref f11))) (i11 : PySem.W.isFn K (.ref f11) = true)
    (l11 : K.lookup f11 = some ⟨oc11, od11, .func (PySem.W.fnOf "__init__" "KeptTable.__init__" (defArgs (inClass (top 39) 0)) (defBody (inClass (top 39) 0)) (defScope (inClass (top 39) 0)) .none kV11 dc11 pm11 an11 cd11 ct11), sl11⟩) (c11 : PySem.W.codeIn K cd11 "KeptTable.__init__" = true) (k11 : PySem.W.keepIn K (.ref f11) = true)
    (a12 : PySem.W.findIn K (.ref C) "table" = some (some (.ref f12))) (i12 : PySem.W.isFn K (.ref f12) = true)
    (l12 : K.lookup f12 = some ⟨oc12, od12, .func (PySem.W.fnOf "table" "KeptTable.table" (defArgs (inClass (top 39) 1)) (defBody (inClass (top 39) 1)) (defScope (inClass (top 39) 1)) .none kV12 dc12 pm12 an12 cd12 ct12), sl12⟩) (c12 : PySem.W.codeIn K cd12 "KeptTable.table" = true) (k12 : PySem.W.keepIn K (.ref f12) = true)
    (a13 : PySem.W.findIn K (.ref C) "keep" = some (some (.ref f13))) (i13 : PySem.W.isFn K (.ref f13) = true)
    (l13 : K.lookup f13 = some ⟨oc13, od13, .func (PySem.W.fnOf "keep" "KeptTable.keep" (defArgs (inClass (top 39) 2)) (defBody (inClass (top 39) 2)) (defScope (inClass (top 39) 2)) .none kV13 dc13 pm13 an13 cd13 ct13), sl13⟩) (c13 : PySem.W.codeIn K cd13 "KeptTable.keep" = true) (k13 : PySem.W.keepIn K (.ref f13) = true)
    (a14 : PySem.W.findIn K (.ref C) "tell" = some (some (.ref f14))) (i14 : PySem.W.isFn K (.ref f14) = true)
    (l14 : K.lookup f14 = some ⟨oc14, od14, .func (PySem.W.fnOf "tell" "KeptTable.tell" (defArgs (inClass (top 39) 3)) (defBody (inClass (top 39) 3)) (defScope (inClass (top 39) 3)) .none kV14 dc14 pm14 an14 cd14 ct14), sl14⟩) (c14 : PySem.W.codeIn K cd14 "KeptTable.tell" = true) (k14 : PySem.W.keepIn K (.ref f14) = true)
    (a15 : PySem.W.findIn K (.ref C) "range_of" = some (some (.ref f15))) (i15 : PySem.W.isFn K (.ref f15) = true)
    (l15 : K.lookup f15 = some ⟨oc15, od15, .func (PySem.W.fnOf "range_of" "KeptTable.range_of" (defArgs (inClass (top 39) 4)) (defBody (inClass (top 39) 4)) (defScope (inClass (top 39) 4)) .none kV15 dc15 pm15 an15 cd15 ct15), sl15⟩) (c15 : PySem.W.codeIn K cd15 "KeptTable.range_of" = true) (k15 : PySem.W.keepIn K (.ref f15) = true)
    (a16 : PySem.W.findIn K (.ref C) "known" = some (some (.ref f16))) (i16 : PySem.W.isFn K (.ref f16) = true)
    (l16 : K.lookup f16 = some ⟨oc16, od16, .func (PySem.W.fnOf "known" "KeptTable.known" (defArgs (inClass (top 39) 5)) (defBody (inClass (top 39) 5)) (defScope (inClass (top 39) 5)) .none kV16 dc16 pm16 an16 cd16 ct16), sl16⟩) (c16 : PySem.W.codeIn K cd16 "KeptTable.known" = true) (k16 : PySem.W.keepIn K (.ref f16) = true)
    (a17 : PySem.W.findIn K (.ref C) "near" = some (some (.ref f17))) (i17 : PySem.W.isFn K (.ref f17) = true)
    (l17 : K.lookup f17 = some ⟨oc17, od17, .func (PySem.W.fnOf "near" "KeptTable.near" (defArgs (inClass (top 39) 6)) (defBody (inClass (top 39) 6)) (defScope (inClass (top 39) 6)) .none kV17 dc17 pm17 an17 cd17 ct17), sl17⟩) (c17 : PySem.W.codeIn K cd17 "KeptTable.near" = true) (k17 : PySem.W.keepIn K (.ref f17) = true)
    (a18 : PySem.W.findIn K (.ref C) "more" = some (some (.ref f18))) (i18 : PySem.W.isFn K (.ref f18) = true)
    (l18 : K.lookup f18 = some ⟨oc18, od18, .func (PySem.W.fnOf "more" "KeptTable.more" (defArgs (inClass (top 39) 7)) (defBody (inClass (top 39) 7)) (defScope (inClass (top 39) 7)) .none kV18 dc18 pm18 an18 cd18 ct18), sl18⟩) (c18 : PySem.W.codeIn K cd18 "KeptTable.more" = true) (k18 : PySem.W.keepIn K (.ref f18) = true)
    (a19 : PySem.W.findIn K (.ref C) "hide" = some (some (.ref f19))) (i19 : PySem.W.isFn K (.ref f19) = true)
    (l19 : K.lookup f19 = some ⟨oc19, od19, .func (PySem.W.fnOf "hide" "KeptTable.hide" (defArgs (inClass (top 39) 8)) (defBody (inClass (top 39) 8)) (defScope (inClass (top 39) 8)) .none kV19 dc19 pm19 an19 cd19 ct19), sl19⟩) (c19 : PySem.W.codeIn K cd19 "KeptTable.hide" = true) (k19 : PySem.W.keepIn K (.ref f19) = true)
    (a20 : PySem.W.findIn K (.ref C) "shown" = some (some (.ref f20))) (i20 : PySem.W.isFn K (.ref f20) = true)
    (l20 : K.lookup f20 = some ⟨oc20, od20, .func (PySem.W.fnOf "shown" "KeptTable.shown" (defArgs (inClass (top 39) 9)) (defBody (inClass (top 39) 9)) (defScope (inClass (top 39) 9)) .none kV20 dc20 pm20 an20 cd20 ct20), sl20⟩) (c20 : PySem.W.codeIn K cd20 "KeptTable.shown" = true) (k20 : PySem.W.keepIn K (.ref f20) = true)
    (a21 : PySem.W.findIn K (.ref C) "fits" = some (some (.ref f21))) (i21 : PySem.W.isFn K (.ref f21) = true)
    (l21 : K.lookup f21 = some ⟨oc21, od21, .func (PySem.W.fnOf "fits" "KeptTable.fits" (defArgs (inClass (top 39) 10)) (defBody (inClass (top 39) 10)) (defScope (inClass (top 39) 10)) .none kV21 dc21 pm21 an21 cd21 ct21), sl21⟩) (c21 : PySem.W.codeIn K cd21 "KeptTable.fits" = true) (k21 : PySem.W.keepIn K (.ref f21) = true)
    (a22 : PySem.W.findIn K (.ref C) "first" = some (some (.ref f22))) (i22 : PySem.W.isFn K (.ref f22) = true)
    (l22 : K.lookup f22 = some ⟨oc22, od22, .func (PySem.W.fnOf "first" "KeptTable.first" (defArgs (inClass (top 39) 11)) (defBody (inClass (top 39) 11)) (defScope (inClass (top 39) 11)) .none kV22 dc22 pm22 an22 cd22 ct22), sl22⟩) (c22 : PySem.W.codeIn K cd22 "KeptTable.first" = true) (k22 : PySem.W.keepIn K (.ref f22) = true)
    (a23 : PySem.W.findIn K (.ref C) "sums" = some (some (.ref f23))) (i23 : PySem.W.isFn K (.ref f23) = true)
    (l23 : K.lookup f23 = some ⟨oc23, od23, .func (PySem.W.fnOf "sums" "KeptTable.sums" (defArgs (inClass (top 39) 12)) (defBody (inClass (top 39) 12)) (defScope (inClass (top 39) 12)) .none kV23 dc23 pm23 an23 cd23 ct23), sl23⟩) (c23 : PySem.W.codeIn K cd23 "KeptTable.sums" = true) (k23 : PySem.W.keepIn K (.ref f23) = true)
    (a24 : PySem.W.findIn K (.ref C) "has_cell" = some (some (.ref f24))) (i24 : PySem.W.isFn K (.ref f24) = true)
    (l24 : K.lookup f24 = some ⟨oc24, od24, .func (PySem.W.fnOf "has_cell" "KeptTable.has_cell" (defArgs (inClass (top 39) 13)) (defBody (inClass (top 39) 13)) (defScope (inClass (top 39) 13)) .none kV24 dc24 pm24 an24 cd24 ct24), sl24⟩) (c24 : PySem.W.codeIn K cd24 "KeptTable.has_cell" = true) (k24 : PySem.W.keepIn K (.ref f24) = true)
    (a25 : PySem.W.findIn K (.ref C) "place_of" = some (some (.ref f25))) (i25 : PySem.W.isFn K (.ref f25) = true)
    (l25 : K.lookup f25 = some ⟨oc25, od25, .func (PySem.W.fnOf "place_of" "KeptTable.place_of" (defArgs (inClass (top 39) 14)) (defBody (inClass (top 39) 14)) (defScope (inClass (top 39) 14)) .none kV25 dc25 pm25 an25 cd25 ct25), sl25⟩) (c25 : PySem.W.codeIn K cd25 "KeptTable.place_of" = true) (k25 : PySem.W.keepIn K (.ref f25) = true)
    (a26 : PySem.W.findIn K (.ref C) "kept_cells" = some (some (.ref f26))) (i26 : PySem.W.isFn K (.ref f26) = true)
    (l26 : K.lookup f26 = some ⟨oc26, od26, .func (PySem.W.fnOf "kept_cells" "KeptTable.kept_cells" (defArgs (inClass (top 39) 15)) (defBody (inClass (top 39) 15)) (defScope (inClass (top 39) 15)) .none kV26 dc26 pm26 an26 cd26 ct26), sl26⟩) (c26 : PySem.W.codeIn K cd26 "KeptTable.kept_cells" = true) (k26 : PySem.W.keepIn K (.ref f26) = true)
    (a27 : PySem.W.findIn K (.ref C) "range_at" = some (some (.ref f27))) (i27 : PySem.W.isFn K (.ref f27) = true)
    (l27 : K.lookup f27 = some ⟨oc27, od27, .func (PySem.W.fnOf "range_at" "KeptTable.range_at" (defArgs (inClass (top 39) 16)) (defBody (inClass (top 39) 16)) (defScope (inClass (top 39) 16)) .none kV27 dc27 pm27 an27 cd27 ct27), sl27⟩) (c27 : PySem.W.codeIn K cd27 "KeptTable.range_at" = true) (k27 : PySem.W.keepIn K (.ref f27) = true)
    (a28 : PySem.W.findIn K (.ref C) "width_at" = some (some (.ref f28))) (i28 : PySem.W.isFn K (.ref f28) = true)
    (l28 : K.lookup f28 = some ⟨oc28, od28, .func (PySem.W.fnOf "width_at" "KeptTable.width_at" (defArgs (inClass (top 39) 17)) (defBody (inClass (top 39) 17)) (defScope (inClass (top 39) 17)) .none kV28 dc28 pm28 an28 cd28 ct28), sl28⟩) (c28 : PySem.W.codeIn K cd28 "KeptTable.width_at" = true) (k28 : PySem.W.keepIn K (.ref f28) = true)
    (a29 : PySem.W.findIn K (.ref C) "fewest_places" = some (some (.ref f29))) (i29 : PySem.W.isFn K (.ref f29) = true)
    (l29 : K.lookup f29 = some ⟨oc29, od29, .func (PySem.W.fnOf "fewest_places" "KeptTable.fewest_places" (defArgs (inClass (top 39) 18)) (defBody (inClass (top 39) 18)) (defScope (inClass (top 39) 18)) .none kV29 dc29 pm29 an29 cd29 ct29), sl29⟩) (c29 : PySem.W.codeIn K cd29 "KeptTable.fewest_places" = true) (k29 : PySem.W.keepIn K (.ref f29) = true)
    (a30 : PySem.W.findIn K (.ref C) "cells_told" = some (some (.ref f30))) (i30 : PySem.W.isFn K (.ref f30) = true)
    (l30 : K.lookup f30 = some ⟨oc30, od30, .func (PySem.W.fnOf "cells_told" "KeptTable.cells_told" (defArgs (inClass (top 39) 19)) (defBody (inClass (top 39) 19)) (defScope (inClass (top 39) 19)) .none kV30 dc30 pm30 an30 cd30 ct30), sl30⟩) (c30 : PySem.W.codeIn K cd30 "KeptTable.cells_told" = true) (k30 : PySem.W.keepIn K (.ref f30) = true)
    (a31 : PySem.W.nsIn K mainGlobals "may_be_table" = some (some (.ref f31)))
    (l31 : K.lookup f31 = some ⟨oc31, od31, .func (PySem.W.fnOf "may_be_table" "may_be_table" (defArgs (top 40)) (defBody (top 40)) (defScope (top 40)) .none kV31 dc31 pm31 an31 cd31 ct31), sl31⟩) (c31 : PySem.W.codeIn K cd31 "may_be_table" = true) (k31 : PySem.W.keepIn K (.ref f31) = true)
    (a32 : PySem.W.nsIn K mainGlobals "sums_of" = some (some (.ref f32)))
    (l32 : K.lookup f32 = some ⟨oc32, od32, .func (PySem.W.fnOf "sums_of" "sums_of" (defArgs (top 41)) (defBody (top 41)) (defScope (top 41)) .none kV32 dc32 pm32 an32 cd32 ct32), sl32⟩) (c32 : PySem.W.codeIn K cd32 "sums_of" = true) (k32 : PySem.W.keepIn K (.ref f32) = true)
    (a33 : PySem.W.nsIn K mainGlobals "answers" = some (some (.ref f33)))
    (l33 : K.lookup f33 = some ⟨oc33, od33, .func (PySem.W.fnOf "answers" "answers" (defArgs (top 42)) (defBody (top 42)) (defScope (top 42)) .none kV33 dc33 pm33 an33 cd33 ct33), sl33⟩) (c33 : PySem.W.codeIn K cd33 "answers" = true) (k33 : PySem.W.keepIn K (.ref f33) = true)
    (a34 : PySem.W.nsIn K mainGlobals "end_of_call" = some (some (.ref f34)))
    (l34 : K.lookup f34 = some ⟨oc34, od34, .func (PySem.W.fnOf "end_of_call" "end_of_call" (defArgs (top 43)) (defBody (top 43)) (defScope (top 43)) .none kV34 dc34 pm34 an34 cd34 ct34), sl34⟩) (c34 : PySem.W.codeIn K cd34 "end_of_call" = true) (k34 : PySem.W.keepIn K (.ref f34) = true)
    (a35 : PySem.W.nsIn K mainGlobals "answer_to" = some (some (.ref f35)))
    (l35 : K.lookup f35 = some ⟨oc35, od35, .func (PySem.W.fnOf "answer_to" "answer_to" (defArgs (top 44)) (defBody (top 44)) (defScope (top 44)) .none kV35 dc35 pm35 an35 cd35 ct35), sl35⟩) (c35 : PySem.W.codeIn K cd35 "answer_to" = true) (k35 : PySem.W.keepIn K (.ref f35) = true)
    (aC : PySem.W.nsIn K mainGlobals "KeptTable" = some (some (.ref C)))
    (pg : PySem.W.plainGet K C Str.empty = true) (hd : PySem.W.hasDictIn K C = true) (po : PySem.W.plainOver K C = true) (sa : PySem.W.findIn K (.ref C) "__setattr__" = some (some (.builtin "object.__setattr__"))) (mk : PySem.W.makesIn K C = true) (kc : PySem.W.keepIn K (.ref C) = true)
    (n_rows : PySem.W.findIn K (.ref C) "rows" = some none)
    (n_columns : PySem.W.findIn K (.ref C) "columns" = some none)
    (n_numbers : PySem.W.findIn K (.ref C) "numbers" = some none)
    (n_states : PySem.W.findIn K (.ref C) "states" = some none)
    (z_len : PySem.W.nsIn K mainGlobals "len" = some none)
    (z_enumerate : PySem.W.nsIn K mainGlobals "enumerate" = some none)
    (z_range : PySem.W.nsIn K mainGlobals "range" = some none)
    (z_min : PySem.W.nsIn K mainGlobals "min" = some none)
    (z_max : PySem.W.nsIn K mainGlobals "max" = some none)
    (z_sum : PySem.W.nsIn K mainGlobals "sum" = some none)
    (z_list : PySem.W.nsIn K mainGlobals "list" = some none)
    (g_TABLE : PySem.W.nsIn K mainGlobals "TABLE" = some (some (.int (0) t_TABLE)))
    (g_KEEP : PySem.W.nsIn K mainGlobals "KEEP" = some (some (.int (1) t_KEEP)))
    (g_TELL : PySem.W.nsIn K mainGlobals "TELL" = some (some (.int (2) t_TELL)))
    (g_RANGE_OF : PySem.W.nsIn K mainGlobals "RANGE_OF" = some (some (.int (3) t_RANGE_OF)))
    (g_KNOWN : PySem.W.nsIn K mainGlobals "KNOWN" = some (some (.int (4) t_KNOWN)))
    (g_NEAR : PySem.W.nsIn K mainGlobals "NEAR" = some (some (.int (5) t_NEAR)))
    (g_MORE : PySem.W.nsIn K mainGlobals "MORE" = some (some (.int (6) t_MORE)))
    (g_HIDE : PySem.W.nsIn K mainGlobals "HIDE" = some (some (.int (7) t_HIDE)))
    (g_SHOWN : PySem.W.nsIn K mainGlobals "SHOWN" = some (some (.int (8) t_SHOWN)))
    (g_FITS : PySem.W.nsIn K mainGlobals "FITS" = some (some (.int (9) t_FITS)))
    (g_FIRST : PySem.W.nsIn K mainGlobals "FIRST" = some (some (.int (10) t_FIRST)))
    (g_NOT_A_TABLE : PySem.W.nsIn K mainGlobals "NOT_A_TABLE" = some (some (.int (-1) t_NOT_A_TABLE)))
    (g_NO_SUCH_CELL : PySem.W.nsIn K mainGlobals "NO_SUCH_CELL" = some (some (.int (-1) t_NO_SUCH_CELL)))
    (g_NOT_KEPT : PySem.W.nsIn K mainGlobals "NOT_KEPT" = some (some (.int (-3) t_NOT_KEPT)))
    (g_KEPT_ALREADY : PySem.W.nsIn K mainGlobals "KEPT_ALREADY" = some (some (.int (-4) t_KEPT_ALREADY)))
    (g_NOT_EVEN_WITH_ALL : PySem.W.nsIn K mainGlobals "NOT_EVEN_WITH_ALL" = some (some (.int (-6) t_NOT_EVEN_WITH_ALL)))
    (g_NO_SUCH_TABLE : PySem.W.nsIn K mainGlobals "NO_SUCH_TABLE" = some (some (.int (-6) t_NO_SUCH_TABLE)))
    (g_MOST_ROWS : PySem.W.nsIn K mainGlobals "MOST_ROWS" = some (some (.int (3) t_MOST_ROWS)))
    (g_MOST_COLUMNS : PySem.W.nsIn K mainGlobals "MOST_COLUMNS" = some (some (.int (4) t_MOST_COLUMNS)))
    (g_MOST_IN_A_CELL : PySem.W.nsIn K mainGlobals "MOST_IN_A_CELL" = some (some (.int (99) t_MOST_IN_A_CELL)))
    (g_TOLD : PySem.W.nsIn K mainGlobals "TOLD" = some (some (.int (0) t_TOLD)))
    (g_FOR_ITSELF : PySem.W.nsIn K mainGlobals "FOR_ITSELF" = some (some (.int (1) t_FOR_ITSELF)))
    (g_WITH_OTHERS : PySem.W.nsIn K mainGlobals "WITH_OTHERS" = some (some (.int (2) t_WITH_OTHERS)))
    (aW : PySem.W.nsIn K mainGlobals "WHOLE_NUMBERS" = some (some (.ref W)))
    (lW : K.lookup W = some ⟨.type "dict", none, .dict es nW, #[]⟩) (kW : PySem.KeysOf (PySem.intKind P w) es)
    (w0 : ∃ t, PySem.findBy (PySem.intKind P w).is es 0 = some (.int 2 t))
    (w1 : ∃ t, PySem.findBy (PySem.intKind P w).is es 1 = some (.int 2 t))
    (w2 : ∃ t, PySem.findBy (PySem.intKind P w).is es 2 = some (.int 2 t))
    (w3 : ∃ t, PySem.findBy (PySem.intKind P w).is es 3 = some (.int 2 t))
    (w4 : ∃ t, PySem.findBy (PySem.intKind P w).is es 4 = some (.int 0 t))
    (w5 : ∃ t, PySem.findBy (PySem.intKind P w).is es 5 = some (.int 1 t))
    (w6 : ∃ t, PySem.findBy (PySem.intKind P w).is es 6 = some (.int 1 t))
    (w7 : ∃ t, PySem.findBy (PySem.intKind P w).is es 7 = some (.int 1 t))
    (w8 : ∃ t, PySem.findBy (PySem.intKind P w).is es 8 = some (.int 0 t))
    (w9 : ∃ t, PySem.findBy (PySem.intKind P w).is es 9 = some (.int 0 t))
    (w10 : ∃ t, PySem.findBy (PySem.intKind P w).is es 10 = some (.int 3 t))
    (w11 : ∃ t, PySem.findBy (PySem.intKind P w).is es 11 = some (.int 0 t))
    (aR : PySem.W.nsIn K mainGlobals "CALLS_WITH_A_ROW" = some (some (.ref R)))
    (lR : K.lookup R = some oR) (cR : oR.cls = .type "tuple") (dR : oR.data = .seq its nR) (zR : its.size ≤ sizeLine) (vR : Vals [.int 0, .int 9] its.toList) :
    ∃ fd : FuncData, (∀ (s : Shared) (us : List Value), us.length = (["calls"] : List Str).length → BindsTo s fd ⟨us, []⟩ ((["calls"] : List Str).zip us)) ∧ ∀ base : Heap, K.In base → base.Ns mainGlobals mg → FnOk P w K mg base CX0 9 fa fd ["calls"] (spAns K) := by
  have e := hfa.symm.trans (PySem.W.mg_of X G a33)
  cases e
  have F1 := fun_mk (st := (top 1)) l1 c1 k1
  have b1 := F1.binds (ps := ["columns", "numbers", "kept", "place"]) fun _ _ _ _ _ _ us hl => match us, hl with | [_, _, _, _], _ => rfl
  have F2 := fun_mk (st := (top 2)) l2 c2 k2
  have b2 := F2.binds (ps := ["rows_left", "columns_left", "kept", "place"]) fun _ _ _ _ _ _ us hl => match us, hl with | [_, _, _, _], _ => rfl
  have F3 := fun_mk (st := (top 3)) l3 c3 k3
  have b3 := F3.binds (ps := ["columns", "numbers", "kept"]) fun _ _ _ _ _ _ us hl => match us, hl with | [_, _, _], _ => rfl
  have F4 := fun_mk (st := (top 4)) l4 c4 k4
  have b4 := F4.binds (ps := ["columns", "numbers", "kept"]) fun _ _ _ _ _ _ us hl => match us, hl with | [_, _, _], _ => rfl
  have F5 := fun_mk (st := (top 5)) l5 c5 k5
  have b5 := F5.binds (ps := ["count"]) fun _ _ _ _ _ _ us hl => match us, hl with | [_], _ => rfl
  have F6 := fun_mk (st := (top 6)) l6 c6 k6
  have b6 := F6.binds (ps := ["columns", "kept", "rows", "place"]) fun _ _ _ _ _ _ us hl => match us, hl with | [_, _, _, _], _ => rfl
  have F7 := fun_mk (st := (top 8)) l7 c7 k7
  have b7 := F7.binds (ps := ["columns", "numbers", "own", "w"]) fun _ _ _ _ _ _ us hl => match us, hl with | [_, _, _, _], _ => rfl
  have F8 := fun_mk (st := (top 9)) l8 c8 k8
  have b8 := F8.binds (ps := ["choices", "places"]) fun _ _ _ _ _ _ us hl => match us, hl with | [_, _], _ => rfl
  have F9 := fun_mk (st := (top 10)) l9 c9 k9
  have b9 := F9.binds (ps := ["columns", "numbers", "own", "chosen", "w"]) fun _ _ _ _ _ _ us hl => match us, hl with | [_, _, _, _, _], _ => rfl
  have F10 := fun_mk (st := (top 12)) l10 c10 k10
  have b10 := F10.binds (ps := ["columns", "numbers", "kept", "place", "v"]) fun _ _ _ _ _ _ us hl => match us, hl with | [_, _, _, _, _], _ => rfl
  have F11 := fun_mk (st := (inClass (top 39) 0)) l11 c11 k11
  have b11 := F11.binds (ps := ["self"]) fun _ _ _ _ _ _ us hl => match us, hl with | [_], _ => rfl
  have F12 := fun_mk (st := (inClass (top 39) 1)) l12 c12 k12
  have b12 := F12.binds (ps := ["self", "r", "c", "numbers"]) fun _ _ _ _ _ _ us hl => match us, hl with | [_, _, _, _], _ => rfl
  have F13 := fun_mk (st := (inClass (top 39) 2)) l13 c13 k13
  have b13 := F13.binds (ps := ["self", "i", "j"]) fun _ _ _ _ _ _ us hl => match us, hl with | [_, _, _], _ => rfl
  have F14 := fun_mk (st := (inClass (top 39) 3)) l14 c14 k14
  have b14 := F14.binds (ps := ["self", "i", "j"]) fun _ _ _ _ _ _ us hl => match us, hl with | [_, _, _], _ => rfl
  have F15 := fun_mk (st := (inClass (top 39) 4)) l15 c15 k15
  have b15 := F15.binds (ps := ["self", "i", "j"]) fun _ _ _ _ _ _ us hl => match us, hl with | [_, _, _], _ => rfl
  have F16 := fun_mk (st := (inClass (top 39) 5)) l16 c16 k16
  have b16 := F16.binds (ps := ["self"]) fun _ _ _ _ _ _ us hl => match us, hl with | [_], _ => rfl
  have F17 := fun_mk (st := (inClass (top 39) 6)) l17 c17 k17
  have b17 := F17.binds (ps := ["self", "w"]) fun _ _ _ _ _ _ us hl => match us, hl with | [_, _], _ => rfl
  have F18 := fun_mk (st := (inClass (top 39) 7)) l18 c18 k18
  have b18 := F18.binds (ps := ["self", "w"]) fun _ _ _ _ _ _ us hl => match us, hl with | [_, _], _ => rfl
  have F19 := fun_mk (st := (inClass (top 39) 8)) l19 c19 k19
  have b19 := F19.binds (ps := ["self", "w"]) fun _ _ _ _ _ _ us hl => match us, hl with | [_, _], _ => rfl
  have F20 := fun_mk (st := (inClass (top 39) 9)) l20 c20 k20
  have b20 := F20.binds (ps := ["self"]) fun _ _ _ _ _ _ us hl => match us, hl with | [_], _ => rfl
  have F21 := fun_mk (st := (inClass (top 39) 10)) l21 c21 k21
  have b21 := F21.binds (ps := ["self", "numbers"]) fun _ _ _ _ _ _ us hl => match us, hl with | [_, _], _ => rfl
  have F22 := fun_mk (st := (inClass (top 39) 11)) l22 c22 k22
  have b22 := F22.binds (ps := ["self", "i", "j", "v"]) fun _ _ _ _ _ _ us hl => match us, hl with | [_, _, _, _], _ => rfl
  have F23 := fun_mk (st := (inClass (top 39) 12)) l23 c23 k23
  have b23 := F23.binds (ps := ["self"]) fun _ _ _ _ _ _ us hl => match us, hl with | [_], _ => rfl
  have F24 := fun_mk (st := (inClass (top 39) 13)) l24 c24 k24
  have b24 := F24.binds (ps := ["self", "i", "j"]) fun _ _ _ _ _ _ us hl => match us, hl with | [_, _, _], _ => rfl
  have F25 := fun_mk (st := (inClass (top 39) 14)) l25 c25 k25
  have b25 := F25.binds (ps := ["self", "i", "j"]) fun _ _ _ _ _ _ us hl => match us, hl with | [_, _, _], _ => rfl
  have F26 := fun_mk (st := (inClass (top 39) 15)) l26 c26 k26
  have b26 := F26.binds (ps := ["self"]) fun _ _ _ _ _ _ us hl => match us, hl with | [_], _ => rfl
  have F27 := fun_mk (st := (inClass (top 39) 16)) l27 c27 k27
  have b27 := F27.binds (ps := ["self", "place"]) fun _ _ _ _ _ _ us hl => match us, hl with | [_, _], _ => rfl
  have F28 := fun_mk (st := (inClass (top 39) 17)) l28 c28 k28
  have b28 := F28.binds (ps := ["self", "place"]) fun _ _ _ _ _ _ us hl => match us, hl with | [_, _], _ => rfl
  have F29 := fun_mk (st := (inClass (top 39) 18)) l29 c29 k29
  have b29 := F29.binds (ps := ["self", "w"]) fun _ _ _ _ _ _ us hl => match us, hl with | [_, _], _ => rfl
  have F30 := fun_mk (st := (inClass (top 39) 19)) l30 c30 k30
  have b30 := F30.binds (ps := ["self", "places"]) fun _ _ _ _ _ _ us hl => match us, hl with | [_, _], _ => rfl
  have F31 := fun_mk (st := (top 40)) l31 c31 k31
  have b31 := F31.binds (ps := ["r", "c", "numbers"]) fun _ _ _ _ _ _ us hl => match us, hl with | [_, _, _], _ => rfl
  have F32 := fun_mk (st := (top 41)) l32 c32 k32
  have b32 := F32.binds (ps := ["columns", "numbers"]) fun _ _ _ _ _ _ us hl => match us, hl with | [_, _], _ => rfl
  have F33 := fun_mk (st := (top 42)) l33 c33 k33
  have b33 := F33.binds (ps := ["calls"]) fun _ _ _ _ _ _ us hl => match us, hl with | [_], _ => rfl
  have F34 := fun_mk (st := (top 43)) l34 c34 k34
  have b34 := F34.binds (ps := ["calls", "start"]) fun _ _ _ _ _ _ us hl => match us, hl with | [_, _], _ => rfl
  have F35 := fun_mk (st := (top 44)) l35 c35 k35
  have b35 := F35.binds (ps := ["table", "call"]) fun _ _ _ _ _ _ us hl => match us, hl with | [_, _], _ => rfl
  have B : Blt mg := ⟨PySem.W.mg_none_of X G z_len, PySem.W.mg_none_of X G z_enumerate, PySem.W.mg_none_of X G z_range, PySem.W.mg_none_of X G z_min, PySem.W.mg_none_of X G z_max, PySem.W.mg_none_of X G z_sum, PySem.W.mg_none_of X G z_list⟩
  have T : Txt K mg C := ⟨⟨pg, hd, po, sa⟩, n_rows, n_columns, n_numbers, n_states⟩
  have Cs : Cst mg := ⟨⟨_, PySem.W.mg_of X G g_MOST_ROWS⟩, ⟨_, PySem.W.mg_of X G g_MOST_COLUMNS⟩, ⟨_, PySem.W.mg_of X G g_MOST_IN_A_CELL⟩, ⟨_, PySem.W.mg_of X G g_NOT_A_TABLE⟩, ⟨_, PySem.W.mg_of X G g_NO_SUCH_CELL⟩, ⟨_, PySem.W.mg_of X G g_NOT_KEPT⟩, ⟨_, PySem.W.mg_of X G g_KEPT_ALREADY⟩, ⟨_, PySem.W.mg_of X G g_NOT_EVEN_WITH_ALL⟩, ⟨_, PySem.W.mg_of X G g_NO_SUCH_TABLE⟩, ⟨_, PySem.W.mg_of X G g_TOLD⟩, ⟨_, PySem.W.mg_of X G g_FOR_ITSELF⟩, ⟨_, PySem.W.mg_of X G g_WITH_OTHERS⟩⟩
  have Zc : Cc mg := ⟨⟨_, PySem.W.mg_of X G g_TABLE⟩, ⟨_, PySem.W.mg_of X G g_KEEP⟩, ⟨_, PySem.W.mg_of X G g_TELL⟩, ⟨_, PySem.W.mg_of X G g_RANGE_OF⟩, ⟨_, PySem.W.mg_of X G g_KNOWN⟩, ⟨_, PySem.W.mg_of X G g_NEAR⟩, ⟨_, PySem.W.mg_of X G g_MORE⟩, ⟨_, PySem.W.mg_of X G g_HIDE⟩, ⟨_, PySem.W.mg_of X G g_SHOWN⟩, ⟨_, PySem.W.mg_of X G g_FITS⟩, ⟨_, PySem.W.mg_of X G g_FIRST⟩⟩
  have Ki : ∀ (k : Int) (n : Int), (∃ t, PySem.findBy (PySem.intKind P w).is es k = some (.int n t)) → KInt P w K W k (.int n) := fun k n ⟨t, e⟩ => ⟨es, nW, _, lW, kW, e, ⟨_, rfl⟩⟩
  have Ly : Lay P w K mg := ⟨⟨W, PySem.W.mg_of X G aW, fun cl => by
    cases cl
    · exact Ki _ _ w0
    · exact Ki _ _ w1
    · exact Ki _ _ w2
    · exact Ki _ _ w3
    · exact Ki _ _ w4
    · exact Ki _ _ w5
    · exact Ki _ _ w6
    · exact Ki _ _ w7
    · exact Ki _ _ w8
    · exact Ki _ _ w9
    · exact Ki _ _ w10
    · exact Ki _ _ w11⟩, ⟨R, PySem.W.mg_of X G aR, fun H => .inr ⟨oR, its, nR, lR, cR, dR, zR, vR⟩⟩⟩
  refine ⟨PySem.W.fnOf "answers" "answers" (defArgs (top 42)) (defBody (top 42)) (defScope (top 42)) .none kV33 dc33 pm33 an33 cd33 ct33, fun s us hu => match us, hu with | [_], _ => .of_eq rfl, fun base _ _ => ?_⟩
  have D3 := Def.mk (ok_leftR (P := P) (w := w) (base := base) F3 B) (PySem.W.mg_of X G a3) k3 b3
  have D4 := Def.mk (ok_leftC (P := P) (w := w) (base := base) F4 B) (PySem.W.mg_of X G a4) k4 b4
  have D5 := Def.mk (ok_choices (P := P) (w := w) (base := base) F5 B) (PySem.W.mg_of X G a5) k5 b5
  have D6 := Def.mk (ok_reach (P := P) (w := w) (base := base) F6 B) (PySem.W.mg_of X G a6) k6 b6
  have D2 := Def.mk (ok_byLeft F2 B D5 D6) (PySem.W.mg_of X G a2) k2 b2
  have D1 := Def.mk (ok_range F1 D3 D4 D2) (PySem.W.mg_of X G a1) k1 b1
  have D8 := Def.mk (ok_one (P := P) (w := w) (mg := mg) (base := base) F8) (PySem.W.mg_of X G a8) k8 b8
  have D9 := Def.mk (ok_wide F9 B D3 D4 D2) (PySem.W.mg_of X G a9) k9 b9
  have D7 := Def.mk (ok_few F7 B D9 D8) (PySem.W.mg_of X G a7) k7 b7
  have D10 := Def.mk (ok_firstT F10 B D3 D4 D2) (PySem.W.mg_of X G a10) k10 b10
  have D31 := Def.mk (ok_may (P := P) (w := w) (base := base) F31 B Cs) (PySem.W.mg_of X G a31) k31 b31
  have D32 := Def.mk (ok_sumsOf F32 B D3 D4) (PySem.W.mg_of X G a32) k32 b32
  have D24 := MDef.mk (x := "has_cell") (ok_has (P := P) (w := w) (base := base) F24 T) ⟨a24, i24, k24⟩ b24
  have D25 := MDef.mk (x := "place_of") (ok_place (P := P) (w := w) (base := base) F25 T) ⟨a25, i25, k25⟩ b25
  have D26 := MDef.mk (x := "kept_cells") (ok_keptC (P := P) (w := w) (base := base) F26 T Cs) ⟨a26, i26, k26⟩ b26
  have D27 := MDef.mk (x := "range_at") (ok_rangeAt F27 T Cs D1 D26) ⟨a27, i27, k27⟩ b27
  have D28 := MDef.mk (x := "width_at") (ok_width F28 T D27) ⟨a28, i28, k28⟩ b28
  have D29 := MDef.mk (x := "fewest_places") (ok_fewP F29 T Cs D7) ⟨a29, i29, k29⟩ b29
  have D30 := MDef.mk (x := "cells_told") (ok_told (P := P) (w := w) (base := base) F30 T B) ⟨a30, i30, k30⟩ b30
  have D12 := MDef.mk (x := "table") (ok_table F12 T B Cs D31) ⟨a12, i12, k12⟩ b12
  have D13 := MDef.mk (x := "keep") (ok_keep F13 T B Cs D24 D25 D27) ⟨a13, i13, k13⟩ b13
  have D14 := MDef.mk (x := "tell") (ok_tell F14 T Cs D24 D25) ⟨a14, i14, k14⟩ b14
  have D15 := MDef.mk (x := "range_of") (ok_rangeOf F15 T B Cs D24 D25 D27) ⟨a15, i15, k15⟩ b15
  have D16 := MDef.mk (x := "known") (ok_known F16 T B Cs D28 D30) ⟨a16, i16, k16⟩ b16
  have D17 := MDef.mk (x := "near") (ok_near F17 T B Cs D28 D30) ⟨a17, i17, k17⟩ b17
  have D18 := MDef.mk (x := "more") (ok_more F18 T Cs D29 D30) ⟨a18, i18, k18⟩ b18
  have D19 := MDef.mk (x := "hide") (ok_hide F19 T B Cs D29) ⟨a19, i19, k19⟩ b19
  have D20 := MDef.mk (x := "shown") (ok_shown (P := P) (w := w) (base := base) F20 T B Cs) ⟨a20, i20, k20⟩ b20
  have D23 := MDef.mk (x := "sums") (ok_sums F23 T D32) ⟨a23, i23, k23⟩ b23
  have D21 := MDef.mk (x := "fits") (ok_fits F21 T B Cs D32 D23) ⟨a21, i21, k21⟩ b21
  have D22 := MDef.mk (x := "first") (ok_firstM F22 T Cs D24 D25 D27 D26 D10) ⟨a22, i22, k22⟩ b22
  have D34 := Def.mk (ok_end (P := P) (w := w) (base := base) F34 Ly) (PySem.W.mg_of X G a34) k34 b34
  have D35 := Def.mk (ok_to F35 T Zc D12 D13 D14 D15 D16 D17 D18 D19 D20 D21 D22 D23) (PySem.W.mg_of X G a35) k35 b35
  exact ok_answers (k := 8) F33 B (rep_TAc C) ⟨mk, a11, i11, kc⟩ (PySem.W.mg_of X G aC) (ok_new (ok_init (P := P) (w := w) (base := base) F11 T Cs)) b11 D34 D35 (by decide) (by decide) (by decide)
end CK
open PySem PySem.W PyProof.Rows
set_option maxRecDepth 100000 in
set_option maxHeartbeats 8000000 in
theorem PySem.Challenge.cw_cellskept_s01_answers_holds : PySem.Challenge.rw_cellskept_s01_answers.Holds := by
  w_on; k_headS; (case hw => exact ⟨[.list [.int 8]], by decide +kernel, by decide +kernel⟩)
  k_fillS
  refine L2.walk_specK (r := PySem.Challenge.rw_cellskept_s01_answers) (k := 9) (CX := L2.CX0) (ps := ["calls"]) (sp := CK.spAns) (by decide +kernel) rfl rfl ⟨rfl, by decide, by decide⟩ (fun w h Y => PySem.W.kIn_of Y) ?F ?S (fun _ _ _ _ z => z)
  case F =>
    intro w mg fa h Y KX G hmg
    refine' CK.all_mk KX G hmg ?a1 ?l1 ?c1 ?k1 ?a2 ?l2 ?c2 ?k2 ?a3 ?l3 ?c3 ?k3 ?a4 ?l4 ?c4 ?k4 ?a5 ?l5 ?c5 ?k5 ?a6 ?l6 ?c6 ?k6 ?a7 ?l7 ?c7 ?k7 ?a8 ?l8 ?c8 ?k8 ?a9 ?l9 ?c9 ?k9 ?a10 ?l10 ?c10 ?k10 ?a11 ?i11 ?l11 ?c11 ?k11 ?a12 ?i12 ?l12 ?c12 ?k12 ?a13 ?i13 ?l13 ?c13 ?k13 ?a14 ?i14 ?l14 ?c14 ?k14 ?a15 ?i15 ?l15 ?c15 ?k15 ?a16 ?i16 ?l16 ?c16 ?k16 ?a17 ?i17 ?l17 ?c17 ?k17 ?a18 ?i18 ?l18 ?c18 ?k18 ?a19 ?i19 ?l19 ?c19 ?k19 ?a20 ?i20 ?l20 ?c20 ?k20 ?a21 ?i21 ?l21 ?c21 ?k21 ?a22 ?i22 ?l22 ?c22 ?k22 ?a23 ?i23 ?l23 ?c23 ?k23 ?a24 ?i24 ?l24 ?c24 ?k24 ?a25 ?i25 ?l25 ?c25 ?k25 ?a26 ?i26 ?l26 ?c26 ?k26 ?a27 ?i27 ?l27 ?c27 ?k27 ?a28 ?i28 ?l28 ?c28 ?k28 ?a29 ?i29 ?l29 ?c29 ?k29 ?a30 ?i30 ?l30 ?c30 ?k30 ?a31 ?l31 ?c31 ?k31 ?a32 ?l32 ?c32 ?k32 ?a33 ?l33 ?c33 ?k33 ?a34 ?l34 ?c34 ?k34 ?a35 ?l35 ?c35 ?k35 ?aC ?pg ?hd ?po ?sa ?mk ?kc ?n_rows ?n_columns ?n_numbers ?n_states ?z_len ?z_enumerate ?z_range ?z_min ?z_max ?z_sum ?z_list ?g_TABLE ?g_KEEP ?g_TELL ?g_RANGE_OF ?g_KNOWN ?g_NEAR ?g_MORE ?g_HIDE ?g_SHOWN ?g_FITS ?g_FIRST ?g_NOT_A_TABLE ?g_NO_SUCH_CELL ?g_NOT_KEPT ?g_KEPT_ALREADY ?g_NOT_EVEN_WITH_ALL ?g_NO_SUCH_TABLE ?g_MOST_ROWS ?g_MOST_COLUMNS ?g_MOST_IN_A_CELL ?g_TOLD ?g_FOR_ITSELF ?g_WITH_OTHERS ?aW ?lW ?kW ?w0 ?w1 ?w2 ?w3 ?w4 ?w5 ?w6 ?w7 ?w8 ?w9 ?w10 ?w11 ?aR ?lR ?cR ?dR ?zR ?vR
    (case aC => k_is)
    (case a1 => k_is)
    (case l1 => k_is)
    (case c1 => k_is)
    (case k1 => k_is)
    (case a2 => k_is)
    (case l2 => k_is)
    (case c2 => k_is)
    (case k2 => k_is)
    (case a3 => k_is)
    (case l3 => k_is)
    (case c3 => k_is)
    (case k3 => k_is)
    (case a4 => k_is)
    (case l4 => k_is)
    (case c4 => k_is)
    (case k4 => k_is)
    (case a5 => k_is)
    (case l5 => k_is)
    (case c5 => k_is)
    (case k5 => k_is)
    (case a6 => k_is)
    (case l6 => k_is)
    (case c6 => k_is)
    (case k6 => k_is)
    (case a7 => k_is)
    (case l7 => k_is)
    (case c7 => k_is)
    (case k7 => k_is)
    (case a8 => k_is)
    (case l8 => k_is)
    (case c8 => k_is)
    (case k8 => k_is)
    (case a9 => k_is)
    (case l9 => k_is)
    (case c9 => k_is)
    (case k9 => k_is)
    (case a10 => k_is)
    (case l10 => k_is)
    (case c10 => k_is)
    (case k10 => k_is)
    (case a11 => k_is)
    (case i11 => k_is)
    (case l11 => k_is)
    (case c11 => k_is)
    (case k11 => k_is)
    (case a12 => k_is)
    (case i12 => k_is)
    (case l12 => k_is)
    (case c12 => k_is)
    (case k12 => k_is)
    (case a13 => k_is)
    (case i13 => k_is)
    (case l13 => k_is)
    (case c13 => k_is)
    (case k13 => k_is)
    (case a14 => k_is)
    (case i14 => k_is)
    (case l14 => k_is)
    (case c14 => k_is)
    (case k14 => k_is)
    (case a15 => k_is)
    (case i15 => k_is)
    (case l15 => k_is)
    (case c15 => k_is)
    (case k15 => k_is)
    (case a16 => k_is)
    (case i16 => k_is)
    (case l16 => k_is)
    (case c16 => k_is)
    (case k16 => k_is)
    (case a17 => k_is)
    (case i17 => k_is)
    (case l17 => k_is)
    (case c17 => k_is)
    (case k17 => k_is)
    (case a18 => k_is)
    (case i18 => k_is)
    (case l18 => k_is)
    (case c18 => k_is)
    (case k18 => k_is)
    (case a19 => k_is)
    (case i19 => k_is)
    (case l19 => k_is)
    (case c19 => k_is)
    (case k19 => k_is)
    (case a20 => k_is)
    (case i20 => k_is)
    (case l20 => k_is)
    (case c20 => k_is)
    (case k20 => k_is)
    (case a21 => k_is)
    (case i21 => k_is)
    (case l21 => k_is)
    (case c21 => k_is)
    (case k21 => k_is)
    (case a22 => k_is)
    (case i22 => k_is)
    (case l22 => k_is)
    (case c22 => k_is)
    (case k22 => k_is)
    (case a23 => k_is)
    (case i23 => k_is)
    (case l23 => k_is)
    (case c23 => k_is)
    (case k23 => k_is)
    (case a24 => k_is)
    (case i24 => k_is)
    (case l24 => k_is)
    (case c24 => k_is)
    (case k24 => k_is)
    (case a25 => k_is)
    (case i25 => k_is)
    (case l25 => k_is)
    (case c25 => k_is)
    (case k25 => k_is)
    (case a26 => k_is)
    (case i26 => k_is)
    (case l26 => k_is)
    (case c26 => k_is)
    (case k26 => k_is)
    (case a27 => k_is)
    (case i27 => k_is)
    (case l27 => k_is)
    (case c27 => k_is)
    (case k27 => k_is)
    (case a28 => k_is)
    (case i28 => k_is)
    (case l28 => k_is)
    (case c28 => k_is)
    (case k28 => k_is)
    (case a29 => k_is)
    (case i29 => k_is)
    (case l29 => k_is)
    (case c29 => k_is)
    (case k29 => k_is)
    (case a30 => k_is)
    (case i30 => k_is)
    (case l30 => k_is)
    (case c30 => k_is)
    (case k30 => k_is)
    (case a31 => k_is)
    (case l31 => k_is)
    (case c31 => k_is)
    (case k31 => k_is)
    (case a32 => k_is)
    (case l32 => k_is)
    (case c32 => k_is)
    (case k32 => k_is)
    (case a33 => k_is)
    (case l33 => k_is)
    (case c33 => k_is)
    (case k33 => k_is)
    (case a34 => k_is)
    (case l34 => k_is)
    (case c34 => k_is)
    (case k34 => k_is)
    (case a35 => k_is)
    (case l35 => k_is)
    (case c35 => k_is)
    (case k35 => k_is)
    (case pg => k_is)
    (case hd => k_is)
    (case po => k_is)
    (case sa => k_is)
    (case mk => k_is)
    (case kc => k_is)
    (case n_rows => k_is)
    (case n_columns => k_is)
    (case n_numbers => k_is)
    (case n_states => k_is)
    (case z_len => k_is)
    (case z_enumerate => k_is)
    (case z_range => k_is)
    (case z_min => k_is)
    (case z_max => k_is)
    (case z_sum => k_is)
    (case z_list => k_is)
    (case g_TABLE => k_is)
    (case g_KEEP => k_is)
    (case g_TELL => k_is)
    (case g_RANGE_OF => k_is)
    (case g_KNOWN => k_is)
    (case g_NEAR => k_is)
    (case g_MORE => k_is)
    (case g_HIDE => k_is)
    (case g_SHOWN => k_is)
    (case g_FITS => k_is)
    (case g_FIRST => k_is)
    (case g_NOT_A_TABLE => k_is)
    (case g_NO_SUCH_CELL => k_is)
    (case g_NOT_KEPT => k_is)
    (case g_KEPT_ALREADY => k_is)
    (case g_NOT_EVEN_WITH_ALL => k_is)
    (case g_NO_SUCH_TABLE => k_is)
    (case g_MOST_ROWS => k_is)
    (case g_MOST_COLUMNS => k_is)
    (case g_MOST_IN_A_CELL => k_is)
    (case g_TOLD => k_is)
    (case g_FOR_ITSELF => k_is)
    (case g_WITH_OTHERS => k_is)
    (case aW => k_is)
    (case lW => k_is)
    (case kW => exact CK.keysL (by decide +kernel))
    (case w0 => exact ⟨_, rfl⟩)
    (case w1 => exact ⟨_, rfl⟩)
    (case w2 => exact ⟨_, rfl⟩)
    (case w3 => exact ⟨_, rfl⟩)
    (case w4 => exact ⟨_, rfl⟩)
    (case w5 => exact ⟨_, rfl⟩)
    (case w6 => exact ⟨_, rfl⟩)
    (case w7 => exact ⟨_, rfl⟩)
    (case w8 => exact ⟨_, rfl⟩)
    (case w9 => exact ⟨_, rfl⟩)
    (case w10 => exact ⟨_, rfl⟩)
    (case w11 => exact ⟨_, rfl⟩)
    (case aR => k_is)
    (case lR => k_is)
    (case cR => rfl)
    (case dR => rfl)
    (case zR => decide)
    (case vR => exact .cons ⟨_, rfl⟩ (.cons ⟨_, rfl⟩ .nil))
  case S =>
    intro K H xs a hO hwi hask hx
    cases hx with
    | cons h1 h2 =>
      cases h2
      cases h1 with
      | lst hs ha =>
        have e := L2.ints_dw a.1 _ ha
        subst e
        have q : ((Codec.inLen 0 960 a.1 && a.1.all (Codec.inInt 0 4294967295)) && true) = true := hwi
        rw [Bool.and_eq_true, Bool.and_eq_true] at q
        exact ⟨_, a.1, rfl, hs, (Codec.inNat_iff.mp q.1.1).2, hask, fun H' p hp => .lst (L2.SqL.of hp) (L2.dw_ints _)⟩
