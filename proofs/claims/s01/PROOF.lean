import PyProof.Rows.All
import Wide.All
import OpenK.AllK
import Wide.FinOn
import Open.SpecLaws
import KE.OsGo
import HandS.Dict
import HandS.ForSpec
import HandS.ForMost
import HandS.TupAny
import HandS.SortInts
import HandS.CallLocal
import HandS.Flow
import HandS.WideBits
import HandS.Nested
import HandS.TupSets
import KE.OsSetLaws
import HandS.EndTab
import HandS.Spec
import KE.KNest
import PySem.Challenge.RW_seenhistory_s01_answers
set_option Elab.async false
namespace Sh
open Ag13

/-- what a thing holds, as the program holds it -/
inductive HV where
  | num (n : Nat)
  | seq (l : List Nat)
  deriving DecidableEq

def HV.toNum : HV → Nat
  | .num n => n
  | .seq _ => 0
def HV.toSeq : HV → List Nat
  | .num _ => []
  | .seq l => l

/-- put into an increasing list -/
def insS (a : Nat) : List Nat → List Nat
  | [] => [a]
  | x :: l => if a < x then a :: x :: l else if a = x then x :: l else x :: insS a l

def hvFirst (kind : Nat) : HV := if kind = 2 ∨ kind = 3 ∨ kind = 4 then .seq [] else .num 0

/-- what the program's done answers and leaves -/
def hvDo (kind op a b : Nat) (v : HV) : HV × Int := match kind, op with
  | 0, 0 => (v, (v.toNum : Int))
  | 0, 1 => (.num a, 0)
  | 0, _ => if v.toNum = a then (.num b, 1) else (v, 0)
  | 1, 0 => (v, (v.toNum : Int))
  | 1, _ => (.num (v.toNum + a), (v.toNum : Int))
  | 2, 0 => (.seq (v.toSeq ++ [a]), 0)
  | 2, _ => match v.toSeq with
    | [] => (v, -1)
    | x :: l => (.seq l, (x : Int))
  | 3, 0 => (.seq (v.toSeq ++ [a]), 0)
  | 3, _ => match v.toSeq.getLast? with
    | none => (v, -1)
    | some x => (.seq v.toSeq.dropLast, (x : Int))
  | 4, 0 => (v, if v.toSeq.contains a = true then 1 else 0)
  | 4, 1 => (.seq (insS a (v.toSeq.filter (· != a))), if v.toSeq.contains a = true then 0 else 1)
  | 4, _ => (.seq (v.toSeq.filter (· != a)), if v.toSeq.contains a = true then 1 else 0)
  | _, 0 => (.num 1, 1 - (v.toNum : Int))
  | _, _ => (.num 0, (v.toNum : Int))

/-- the program's value stands for the document's -/
def Rep (kind : Nat) (v : HV) (st : List Nat) : Prop := match kind with
  | 0 => v = .num (st.headD 0)
  | 1 => v = .num (st.headD 0)
  | 2 => v = .seq st
  | 3 => v = .seq st.reverse
  | 4 => ∃ l, v = .seq l ∧ l.Pairwise (· < ·) ∧ st.Nodup ∧ ∀ x, x ∈ l ↔ x ∈ st
  | _ => v = .num (st.headD 0) ∧ st.headD 0 ≤ 1

theorem rep_first (kind : Nat) : Rep kind (hvFirst kind) [] := by
  unfold hvFirst Rep
  match kind with
  | 0 => simp
  | 1 => simp
  | 2 => simp
  | 3 => simp
  | 4 => simp
  | n + 5 => simp

theorem mem_insS {a x : Nat} : ∀ {l : List Nat}, x ∈ insS a l ↔ x = a ∨ x ∈ l
  | [] => by simp [insS]
  | y :: l => by
    unfold insS
    split
    · simp
    · split
      · rename_i h; subst h; simp
      · simp only [List.mem_cons, mem_insS (l := l)]
        constructor
        · rintro (h | h | h) <;> simp [h]
        · rintro (h | h | h) <;> simp [h]

theorem insS_sorted {a : Nat} : ∀ {l : List Nat}, l.Pairwise (· < ·) → (insS a l).Pairwise (· < ·)
  | [], _ => by simp [insS]
  | y :: l, h => by
    unfold insS
    rw [List.pairwise_cons] at h
    split
    · rename_i hlt
      rw [List.pairwise_cons]
      refine ⟨fun z hz => ?_, List.pairwise_cons.mpr h⟩
      rcases List.mem_cons.mp hz with rfl | hz
      · exact hlt
      · exact Nat.lt_trans hlt (h.1 z hz)
    · split
      · exact List.pairwise_cons.mpr h
      · rename_i h1 h2
        rw [List.pairwise_cons]
        refine ⟨fun z hz => ?_, insS_sorted h.2⟩
        rcases mem_insS.mp hz with rfl | hz
        · omega
        · exact h.1 z hz

theorem rep_do {kind op a b : Nat} {v : HV} {st : List Nat} (hk : kind ≤ 5) (r : Rep kind v st) :
    (hvDo kind op a b v).2 = (apply kind op a b st).2 ∧ Rep kind (hvDo kind op a b v).1 (apply kind op a b st).1 := by
  match kind, hk with
  | 0, _ =>
    have e : v = .num (st.headD 0) := r
    subst e
    match op with
    | 0 => exact ⟨rfl, rfl⟩
    | 1 => exact ⟨rfl, rfl⟩
    | n + 2 =>
      by_cases h : st.headD 0 = a
      · simp only [hvDo, apply, HV.toNum, h, if_true]; exact ⟨trivial, rfl⟩
      · simp only [hvDo, apply, HV.toNum, h, if_false]; exact ⟨trivial, rfl⟩
  | 1, _ =>
    have e : v = .num (st.headD 0) := r
    subst e
    match op with
    | 0 => exact ⟨rfl, rfl⟩
    | n + 1 => exact ⟨rfl, rfl⟩
  | 2, _ =>
    have e : v = .seq st := r
    subst e
    match op with
    | 0 => exact ⟨rfl, rfl⟩
    | n + 1 =>
      match st with
      | [] => exact ⟨rfl, rfl⟩
      | x :: l => exact ⟨rfl, rfl⟩
  | 3, _ =>
    have e : v = .seq st.reverse := r
    subst e
    match op with
    | 0 => exact ⟨rfl, by show HV.seq (st.reverse ++ [a]) = HV.seq (a :: st).reverse; simp⟩
    | n + 1 =>
      match st with
      | [] => exact ⟨rfl, rfl⟩
      | x :: l =>
        have h1 : (HV.seq (x :: l).reverse).toSeq.getLast? = some x := by simp [HV.toSeq]
        have h2 : (HV.seq (x :: l).reverse).toSeq.dropLast = l.reverse := by simp [HV.toSeq]
        simp only [hvDo, apply, h1, h2, List.tail_cons]
        exact ⟨trivial, rfl⟩
  | 4, _ =>
    obtain ⟨l, rfl, hs, hn, hm⟩ := r
    have hc : l.contains a = st.contains a := by
      rw [Bool.eq_iff_iff]; simp [hm a]
    match op with
    | 0 => simp only [hvDo, apply, HV.toSeq, hc]; exact ⟨trivial, l, rfl, hs, hn, hm⟩
    | 1 =>
      have hf : (l.filter (· != a)).Pairwise (· < ·) := hs.filter _
      cases h : st.contains a
      · simp only [hvDo, apply, HV.toSeq, hc, h]
        refine ⟨by simp, _, rfl, insS_sorted hf, ?_, ?_⟩
        · simp only [Bool.false_eq_true, if_false]
          rw [List.nodup_cons]
          exact ⟨by simpa using h, hn⟩
        · intro x
          simp only [mem_insS, List.mem_filter, Bool.false_eq_true, if_false, List.mem_cons, hm x]
          constructor
          · rintro (h | h)
            · exact .inl h
            · exact .inr h.1
          · rintro (h | h)
            · exact .inl h
            · by_cases e : x = a
              · exact .inl e
              · exact .inr ⟨h, by simpa using e⟩
      · simp only [hvDo, apply, HV.toSeq, hc, h]
        refine ⟨by simp, _, rfl, insS_sorted hf, by simpa using hn, ?_⟩
        intro x
        have ha : a ∈ st := by simpa using h
        simp only [mem_insS, List.mem_filter, if_true, hm x]
        constructor
        · rintro (h | h)
          · rw [h]; exact ha
          · exact h.1
        · intro h
          by_cases e : x = a
          · exact .inl e
          · exact .inr ⟨h, by simpa using e⟩
    | n + 2 =>
      have hf : (l.filter (· != a)).Pairwise (· < ·) := hs.filter _
      cases h : st.contains a
      · simp only [hvDo, apply, HV.toSeq, hc, h]
        refine ⟨by simp, _, rfl, hf, by simpa using hn, ?_⟩
        intro x
        have ha : a ∉ st := by simpa using h
        simp only [List.mem_filter, hm x, Bool.false_eq_true, if_false]
        constructor
        · exact fun h => h.1
        · intro h'
          exact ⟨h', by simp; rintro rfl; exact ha h'⟩
      · simp only [hvDo, apply, HV.toSeq, hc, h]
        refine ⟨by simp, _, rfl, hf, by simpa using hn.erase a, ?_⟩
        intro x
        simp only [List.mem_filter, hm x, if_true]
        rw [hn.mem_erase_iff]
        constructor
        · rintro ⟨h1, h2⟩; exact ⟨by simpa using h2, h1⟩
        · rintro ⟨h1, h2⟩; exact ⟨h2, by simpa using h1⟩
  | 5, _ =>
    have e : v = .num (st.headD 0) ∧ st.headD 0 ≤ 1 := r
    obtain ⟨rfl, h1⟩ := e
    match op with
    | 0 =>
      refine ⟨?_, rfl, Nat.le_refl _⟩
      show (1 : Int) - (st.headD 0 : Int) = if st.headD 0 = 0 then 1 else 0
      split <;> omega
    | n + 1 =>
      refine ⟨?_, rfl, Nat.zero_le _⟩
      show (st.headD 0 : Int) = if st.headD 0 = 0 then 0 else 1
      split <;> omega

/-! ### all things -/
def RepM (kinds : List Nat) (hs : List HV) (m : Mem) : Prop :=
  hs.length = kinds.length ∧ m.length = kinds.length ∧ ∀ i, i < kinds.length → Rep (kinds.getD i 0) (hs.getD i (.num 0)) (m.getD i [])

def hvNew (s : State) : List HV := s.kinds.map hvFirst
theorem repM_new (s : State) : RepM s.kinds (hvNew s) (new s) := by
  refine ⟨by simp [hvNew], by simp [new], fun i hi => ?_⟩
  have e1 : (hvNew s).getD i (.num 0) = hvFirst (s.kinds.getD i 0) := by
    simp [hvNew, List.getD, hi]
  have e2 : (new s).getD i [] = [] := by
    simp [new, List.getD, hi]
  rw [e1, e2]
  exact rep_first _

/-- one operation done on all things, as the program holds them -/
def hvOne (s : State) (i : Nat) (hs : List HV) : List HV × Int :=
  let o := op s i
  let r := hvDo (s.kinds.getD o.thing 0) o.op o.a o.b (hs.getD o.thing (.num 0))
  (hs.set o.thing r.1, r.2)

/-- an operation of a thing that there is -/
def Fine (s : State) (i : Nat) : Prop := (op s i).thing < s.kinds.length
theorem Fine.out {s : State} {i : Nat} (h : Fine s i) : (op s i).thing < s.kinds.length := h

theorem repM_one {s : State} {i : Nat} {hs : List HV} {m : Mem} (hk : ∀ k ∈ s.kinds, k ≤ 5) (hf : Fine s i) (r : RepM s.kinds hs m) :
    (hvOne s i hs).2 = (one s i m).2 ∧ RepM s.kinds (hvOne s i hs).1 (one s i m).1 := by
  obtain ⟨h1, h2, h3⟩ := r
  have hkk : s.kinds.getD (op s i).thing 0 ≤ 5 := by
    have e : s.kinds.getD (op s i).thing 0 ∈ s.kinds := by
      rw [List.getD, List.getElem?_eq_getElem hf.out]
      exact List.getElem_mem hf.out
    exact hk _ e
  have q := rep_do (op := (op s i).op) (a := (op s i).a) (b := (op s i).b) hkk (h3 _ hf)
  refine ⟨q.1, by simp [hvOne, h1], by simp [one, h2], fun j hj => ?_⟩
  unfold hvOne one
  simp only
  by_cases e : (op s i).thing = j
  · subst e
    have e1 : ∀ x : HV, (hs.set (op s i).thing x).getD (op s i).thing (.num 0) = x := fun x => by simp [List.getD, List.getElem?_set, h1, hf.out]
    have e2 : ∀ x : List Nat, (m.set (op s i).thing x).getD (op s i).thing [] = x := fun x => by simp [List.getD, List.getElem?_set, h2, hf.out]
    rw [e1, e2]
    exact q.2
  · have e1 : ∀ x : HV, (hs.set (op s i).thing x).getD j (.num 0) = hs.getD j (.num 0) := fun x => by simp [List.getD, e]
    have e2 : ∀ x : List Nat, (m.set (op s i).thing x).getD j [] = m.getD j [] := fun x => by simp [List.getD, e]
    rw [e1, e2]
    exact h3 j hj
end Sh

set_option Elab.async false
namespace Sh
open Ag13

/-! ### marks: one number for several operations -/
def markOf (l : List Nat) : Nat := l.foldl (fun m n => m ||| (1 <<< n)) 0
theorem mark_fold (b : Nat) : ∀ (l : List Nat) (m : Nat), (l.foldl (fun m n => m ||| (1 <<< n)) m).testBit b = (m.testBit b || l.contains b)
  | [], m => by simp
  | n :: l, m => by
    rw [List.foldl_cons, mark_fold b l]
    have e : (1 <<< n).testBit b = (b == n) := by
      rw [Nat.one_shiftLeft, Nat.testBit_two_pow]
      by_cases h : n = b
      · subst h; simp
      · have h' : ¬ b = n := fun z => h z.symm
        simp [h, h']
    rw [Nat.testBit_or, e, List.contains_cons, Bool.or_assoc]
theorem mark_bit (l : List Nat) (b : Nat) : (markOf l).testBit b = l.contains b := by
  unfold markOf
  rw [mark_fold]; simp
theorem bit_one (n b : Nat) : (1 <<< n).testBit b = (b == n) := by
  rw [Nat.one_shiftLeft, Nat.testBit_two_pow]
  by_cases h : n = b
  · subst h; simp
  · have h' : ¬ b = n := fun z => h z.symm
    simp [h, h']
theorem mark_append (l : List Nat) (n : Nat) : markOf (l ++ [n]) = markOf l ||| (1 <<< n) := by
  unfold markOf
  rw [List.foldl_append]; rfl
theorem mark_single (n : Nat) : markOf [n] = 1 <<< n := by
  show 0 ||| (1 <<< n) = 1 <<< n
  simp
theorem within_iff {p q : Nat} : p &&& q = q ↔ ∀ b, q.testBit b = true → p.testBit b = true := by
  constructor
  · intro h b hb
    have e : (p &&& q).testBit b = q.testBit b := by rw [h]
    rw [Nat.testBit_and, hb] at e
    simpa using e
  · intro h
    refine Nat.eq_of_testBit_eq fun b => ?_
    rw [Nat.testBit_and]
    cases hq : q.testBit b with
    | false => simp
    | true => simp [h b hq]
theorem mark_within {p : Nat} {l : List Nat} : p &&& markOf l = markOf l ↔ ∀ b ∈ l, p.testBit b = true := by
  rw [within_iff]
  constructor
  · intro h b hb
    exact h b (by rw [mark_bit]; simpa using hb)
  · intro h b hb
    rw [mark_bit] at hb
    exact h b (by simpa using hb)
theorem mark_apart {p n : Nat} : p &&& (1 <<< n) = 0 ↔ p.testBit n = false := by
  constructor
  · intro h
    have e : (p &&& (1 <<< n)).testBit n = false := by rw [h]; simp
    rw [Nat.testBit_and, bit_one] at e
    simpa using e
  · intro h
    refine Nat.eq_of_testBit_eq fun b => ?_
    rw [Nat.testBit_and, bit_one, Nat.zero_testBit]
    by_cases e : b = n
    · subst e; simp [h]
    · simp [e]
theorem mark_lt {l : List Nat} {n : Nat} (h : ∀ x ∈ l, x < n) : markOf l < 2 ^ n := by
  refine Nat.lt_pow_two_of_testBit _ fun i hi => ?_
  rw [mark_bit]
  cases e : l.contains i with
  | false => rfl
  | true => exact absurd (h i (by simpa using e)) (by omega)

/-! ### what is left -/
def leftOf (given : List Nat) (p : Nat) : List Nat := given.filter fun i => !(p.testBit i)
theorem mem_leftOf {given : List Nat} {p i : Nat} : i ∈ leftOf given p ↔ i ∈ given ∧ p.testBit i = false := by
  simp [leftOf, List.mem_filter]
theorem leftOf_zero (given : List Nat) : leftOf given 0 = given := by
  unfold leftOf
  rw [List.filter_eq_self]
  intro a _; simp
theorem filter_erase {given : List Nat} (hn : given.Nodup) (f : Nat → Bool) (i : Nat) : (given.filter f).erase i = given.filter fun j => f j && j != i := by
  rw [List.Nodup.erase_eq_filter (hn.filter f), List.filter_filter]
  congr 1
  funext j
  rw [Bool.and_comm]
theorem leftOf_more {given : List Nat} (hn : given.Nodup) (p i : Nat) : (leftOf given p).erase i = leftOf given (p ||| (1 <<< i)) := by
  unfold leftOf
  rw [filter_erase hn]
  congr 1
  funext j
  rw [Nat.testBit_or, bit_one, Bool.not_or]
  rfl

/-! ### the search, over what the program holds -/
section
variable (s : State) (first : Nat → Nat → Bool) (counts : Nat → Bool)
def psearch : Nat → List Nat → List HV → Option (List Nat)
  | 0, left, _ => if left.any (must s) = true then none else some []
  | k + 1, left, hs => if left.any (must s) = true then left.findSome? (fun (i : Nat) => if left.any (fun (j : Nat) => first j i) = true then none else
      let r := hvOne s i hs
      if (counts i && !(right s i r.2)) = true then none else (psearch k (left.erase i) r.1).map fun (l : List Nat) => i :: l)
    else some []
end

theorem findSome_congr {α β : Type} {f g : α → Option β} : ∀ {l : List α}, (∀ x ∈ l, f x = g x) → l.findSome? f = l.findSome? g
  | [], _ => rfl
  | x :: l, h => by
    rw [List.findSome?_cons, List.findSome?_cons, h x List.mem_cons_self, findSome_congr fun y hy => h y (List.mem_cons_of_mem _ hy)]

theorem psearch_eq {s : State} {first : Nat → Nat → Bool} {counts : Nat → Bool} (hk : ∀ k ∈ s.kinds, k ≤ 5) :
    ∀ (k : Nat) (left : List Nat) (hs : List HV) (m : Mem), (∀ i ∈ left, Fine s i) → RepM s.kinds hs m → psearch s first counts k left hs = search s first counts k left m
  | 0, left, hs, m, _, _ => rfl
  | k + 1, left, hs, m, hf, r => by
    unfold psearch search
    split
    · refine findSome_congr fun i hi => ?_
      split
      · rfl
      · have q := repM_one hk (hf i hi) r
        simp only
        rw [q.1]
        split
        · rfl
        · rw [psearch_eq hk k (left.erase i) _ _ (fun j hj => hf j (List.mem_of_mem_erase hj)) q.2]
    · rfl

/-- the whole search, as the document tells it -/
theorem explained_eq {s : State} {first : Nat → Nat → Bool} {counts : Nat → Bool} (hk : ∀ k ∈ s.kinds, k ≤ 5) {l : List Nat} (hf : ∀ i ∈ l, Fine s i) :
    explained s first counts l = psearch s first counts l.length l (hvNew s) :=
  (psearch_eq hk l.length l _ _ hf (repM_new s)).symm

/-! ### the same operations under other numbers -/
theorem any_map {α β : Type} (f : α → β) (g : β → Bool) (l : List α) : (l.map f).any g = l.any fun x => g (f x) := by
  induction l with
  | nil => rfl
  | cons x l ih => simp [ih]
theorem erase_map {f : Nat → Nat} {i : Nat} : ∀ {l : List Nat}, (∀ j ∈ l, f j = f i → j = i) → (l.map f).erase (f i) = (l.erase i).map f
  | [], _ => rfl
  | x :: l, h => by
    rw [List.map_cons, List.erase_cons, List.erase_cons]
    by_cases e : x = i
    · subst e; simp
    · have e' : f x ≠ f i := fun z => e (h x List.mem_cons_self z)
      rw [if_neg (by simpa using e'), if_neg (by simpa using e), List.map_cons, erase_map fun j hj => h j (List.mem_cons_of_mem _ hj)]
theorem findSome_map {α β γ : Type} (f : α → β) (g : β → Option γ) (l : List α) : (l.map f).findSome? g = l.findSome? fun x => g (f x) := by
  induction l with
  | nil => rfl
  | cons x l ih => simp only [List.map_cons, List.findSome?_cons, ih]
theorem findSome_mapO {α β γ : Type} (f : α → Option β) (g : β → γ) (l : List α) : (l.findSome? f).map g = l.findSome? fun x => (f x).map g := by
  induction l with
  | nil => rfl
  | cons x l ih =>
    simp only [List.findSome?_cons]
    cases h : f x with
    | none => simp [ih]
    | some y => simp

theorem any_congr {α : Type} {f g : α → Bool} : ∀ {l : List α}, (∀ x ∈ l, f x = g x) → l.any f = l.any g
  | [], _ => rfl
  | x :: l, h => by rw [List.any_cons, List.any_cons, h x List.mem_cons_self, any_congr fun y hy => h y (List.mem_cons_of_mem _ hy)]

/-- two histories of the same kinds, operations alike under f -/
theorem search_renamed {s s' : State} {first first' : Nat → Nat → Bool} {counts counts' : Nat → Bool} {f : Nat → Nat} (hkinds : s'.kinds = s.kinds) :
    ∀ (k : Nat) (left : List Nat) (m : Mem), (∀ i ∈ left, op s' i = op s (f i)) → (∀ i ∈ left, ∀ j ∈ left, f i = f j → i = j) →
      (∀ i ∈ left, ∀ j ∈ left, first' i j = first (f i) (f j)) → (∀ i ∈ left, counts' i = counts (f i)) →
      (search s' first' counts' k left m).map (fun l => l.map f) = search s first counts k (left.map f) m := by
  intro k
  induction k with
  | zero =>
    intro left m ho _ _ _
    unfold search
    have e : (left.map f).any (must s) = left.any (must s') := by
      rw [any_map]
      refine any_congr fun i hi => ?_
      unfold must
      rw [ho i hi]
    rw [e]
    split <;> rfl
  | succ k ih =>
    intro left m ho hi h1 h2
    unfold search
    have e : (left.map f).any (must s) = left.any (must s') := by
      rw [any_map]
      refine any_congr fun i hi => ?_
      unfold must
      rw [ho i hi]
    rw [e]
    split
    · rw [findSome_mapO, findSome_map]
      refine findSome_congr fun i hii => ?_
      have e1 : (left.map f).any (fun j => first j (f i)) = left.any fun j => first' j i := by
        rw [any_map]
        exact any_congr fun j hj => (h1 j hj i hii).symm
      have e2 : one s (f i) m = one s' i m := by
        unfold one
        rw [← ho i hii, hkinds]
      have e3 : ∀ x, right s (f i) x = right s' i x := fun x => by
        unfold right
        rw [ho i hii]
      rw [e1]
      split
      · rfl
      · simp only [e2, e3, h2 i hii]
        split
        · rfl
        · have q := ih (left.erase i) (one s' i m).1 (fun j hj => ho j (List.mem_of_mem_erase hj)) (fun a ha b hb => hi a (List.mem_of_mem_erase ha) b (List.mem_of_mem_erase hb))
            (fun a ha b hb => h1 a (List.mem_of_mem_erase ha) b (List.mem_of_mem_erase hb)) (fun a ha => h2 a (List.mem_of_mem_erase ha))
          rw [erase_map fun j hj z => hi j hj i hii z, ← q, Option.map_map, Option.map_map]
          rfl
    · rfl
theorem explained_renamed {s s' : State} {first first' : Nat → Nat → Bool} {counts counts' : Nat → Bool} {f : Nat → Nat} (hkinds : s'.kinds = s.kinds) {left : List Nat}
    (ho : ∀ i ∈ left, op s' i = op s (f i)) (hi : ∀ i ∈ left, ∀ j ∈ left, f i = f j → i = j) (h1 : ∀ i ∈ left, ∀ j ∈ left, first' i j = first (f i) (f j)) (h2 : ∀ i ∈ left, counts' i = counts (f i)) :
    (explained s' first' counts' left).isSome = (explained s first counts (left.map f)).isSome := by
  have q := search_renamed hkinds left.length left (new s') ho hi h1 h2
  unfold explained
  have e : new s' = new s := by unfold new; rw [hkinds]
  rw [e] at q ⊢
  rw [List.length_map, ← q]
  simp
end Sh

set_option Elab.async false
namespace Sh
open Ag13
section
variable (s : State) (first : Nat → Nat → Bool) (counts : Nat → Bool)
/-- what the search makes of one operation -/
def pbody (k : Nat) (left : List Nat) (hs : List HV) (i : Nat) : Option (List Nat) :=
  if left.any (fun j => first j i) = true then none else
    if (counts i && !(right s i (hvOne s i hs).2)) = true then none else (psearch s first counts k (left.erase i) (hvOne s i hs).1).map fun l => i :: l
end
section
variable {s : State} {first : Nat → Nat → Bool} {counts : Nat → Bool}
theorem psearch_done {k : Nat} {left : List Nat} {hs : List HV} (h : left.any (must s) = false) : psearch s first counts k left hs = some [] := by
  cases k with
  | zero => unfold psearch; rw [h]; rfl
  | succ k => unfold psearch; rw [h]; rfl
theorem psearch_more {k : Nat} {left : List Nat} {hs : List HV} (h : left.any (must s) = true) : psearch s first counts (k + 1) left hs = left.findSome? (pbody s first counts k left hs) := by
  unfold psearch
  rw [if_pos h]
  rfl
end
theorem find_none {f : Nat → Option (List Nat)} {p : Nat → Bool} {nums : List Nat} (h : ∀ y ∈ nums, p y = true → f y = none) : (nums.filter p).findSome? f = none := by
  rw [List.findSome?_eq_none_iff]
  intro x hx
  obtain ⟨h1, h2⟩ := List.mem_filter.mp hx
  exact h x h1 h2
theorem find_first {f : Nat → Option (List Nat)} {p : Nat → Bool} {l : List Nat} : ∀ {nums : List Nat} {i x : Nat}, nums[i]? = some x → p x = true → f x = some l → (∀ (j y : Nat), j < i → nums[j]? = some y → p y = true → f y = none) → (nums.filter p).findSome? f = some l
  | [], i, x, h, _, _, _ => by simp at h
  | y :: nums, 0, x, h, hp, hf, _ => by
    have e : y = x := by simpa using h
    subst e
    rw [List.filter_cons, if_pos hp, List.findSome?_cons, hf]
  | y :: nums, i + 1, x, h, hp, hf, hn => by
    have ih := find_first (nums := nums) (i := i) (x := x) (by simpa using h) hp hf fun j z hj hz => hn (j + 1) z (by omega) (by simpa using hz)
    rw [List.filter_cons]
    cases hy : p y with
    | false => simpa using ih
    | true =>
      rw [if_pos rfl, List.findSome?_cons, hn 0 y (by omega) rfl hy]
      exact ih
/-- how many calls a search of so many operations makes at the most -/
def nodes : Nat → Nat
  | 0 => 1
  | k + 1 => 1 + (k + 1) * nodes k
theorem nodes_pos (k : Nat) : 1 ≤ nodes k := by
  cases k with
  | zero => exact Nat.le_refl 1
  | succ k => unfold nodes; omega
theorem nodes_mono {j k : Nat} (h : j ≤ k) : nodes j ≤ nodes k := by
  induction h with
  | refl => exact Nat.le_refl _
  | step _ ih =>
    rename_i m _
    show nodes j ≤ 1 + (m + 1) * nodes m
    have : nodes m ≤ (m + 1) * nodes m := Nat.le_mul_of_pos_left _ (by omega)
    omega
theorem nodes_9 : nodes 9 = 986410 := by decide
theorem insS_len (a : Nat) : ∀ l : List Nat, (insS a l).length ≤ l.length + 1
  | [] => by simp [insS]
  | x :: l => by
    unfold insS
    have := insS_len a l
    split
    · simp
    · split
      · simp
      · simp; omega
theorem leftOf_len {nums : List Nat} {p i : Nat} (hn : nums.Nodup) (hi : i ∈ leftOf nums p) : (leftOf nums (p ||| (1 <<< i))).length + 1 = (leftOf nums p).length := by
  rw [← leftOf_more hn, List.length_erase_of_mem hi]
  have : 0 < (leftOf nums p).length := List.length_pos_of_mem hi
  omega
theorem findSome_mem {f : Nat → Option (List Nat)} {l : List Nat} : ∀ {xs : List Nat}, xs.findSome? f = some l → ∃ x ∈ xs, f x = some l
  | [], h => by simp at h
  | x :: xs, h => by
    rw [List.findSome?_cons] at h
    cases hx : f x with
    | some y => rw [hx] at h; exact ⟨x, List.mem_cons_self, by rw [hx]; exact h⟩
    | none =>
      rw [hx] at h
      obtain ⟨y, hy, e⟩ := findSome_mem h
      exact ⟨y, List.mem_cons_of_mem _ hy, e⟩
theorem search_len {s : State} {first : Nat → Nat → Bool} {counts : Nat → Bool} : ∀ (k : Nat) (left : List Nat) (m : Mem) (l : List Nat), search s first counts k left m = some l → l.length ≤ k
  | 0, left, m, l, h => by
    unfold search at h
    split at h
    · cases h
    · cases h; exact Nat.le_refl _
  | k + 1, left, m, l, h => by
    unfold search at h
    split at h
    · obtain ⟨x, _, hx⟩ := findSome_mem h
      split at hx
      · cases hx
      · simp only at hx
        split at hx
        · cases hx
        · obtain ⟨l', h1, rfl⟩ := Option.map_eq_some_iff.mp hx
          have := search_len k _ _ _ h1
          simp; omega
    · cases h; exact Nat.zero_le _
theorem explained_len {s : State} {first : Nat → Nat → Bool} {counts : Nat → Bool} {nums l : List Nat} (h : explained s first counts nums = some l) : l.length ≤ nums.length := search_len _ _ _ _ h
end Sh

set_option Elab.async false
namespace Sh
open Ag13
/-- over one step or several -/
inductive Reach (s : State) : Nat → Nat → Prop
  | one {i j : Nat} : j < s.ops.length → direct s i j = true → Reach s i j
  | more {i k j : Nat} : Reach s i k → j < s.ops.length → direct s k j = true → Reach s i j
theorem Reach.lt {s : State} {i j : Nat} (h : Reach s i j) : j < s.ops.length := by
  cases h with
  | one h _ => exact h
  | more _ h _ => exact h
theorem Reach.trans {s : State} {i j k : Nat} (a : Reach s i j) (b : Reach s j k) : Reach s i k := by
  induction b with
  | one h d => exact .more a h d
  | more _ h d ih => exact .more ih h d
/-- one round -/
def round (s : State) (l : List Nat) : List Nat := (all s).filter fun (j : Nat) => l.contains j || l.any fun (i : Nat) => direct s i j
theorem mem_round {s : State} {l : List Nat} {j : Nat} : j ∈ round s l ↔ j < s.ops.length ∧ (j ∈ l ∨ ∃ i ∈ l, direct s i j = true) := by
  unfold round all
  rw [List.mem_filter, List.mem_range, Bool.or_eq_true, List.any_eq_true]
  simp
/-- an increasing part of all -/
def Part (s : State) (l : List Nat) : Prop := ∃ p : Nat → Bool, l = (all s).filter p
theorem part_round (s : State) (l : List Nat) : Part s (round s l) := ⟨_, rfl⟩
theorem Part.lt {s : State} {l : List Nat} (h : Part s l) {j : Nat} (hj : j ∈ l) : j < s.ops.length := by
  obtain ⟨p, rfl⟩ := h
  exact List.mem_range.mp (List.mem_filter.mp hj).1
theorem filter_len_le {p q : Nat → Bool} : ∀ {l : List Nat}, (∀ x ∈ l, p x = true → q x = true) → (l.filter p).length ≤ (l.filter q).length
  | [], _ => Nat.le_refl _
  | x :: l, h => by
    have ih := filter_len_le (l := l) fun y hy => h y (List.mem_cons_of_mem _ hy)
    rw [List.filter_cons, List.filter_cons]
    cases hp : p x with
    | true => rw [if_pos rfl, if_pos (h x List.mem_cons_self hp)]; simp; exact ih
    | false =>
      rw [if_neg Bool.false_ne_true]
      split
      · simp; omega
      · exact ih
theorem filter_len_lt {p q : Nat → Bool} : ∀ {l : List Nat}, (∀ x ∈ l, p x = true → q x = true) → (∃ x ∈ l, q x = true ∧ p x = false) → (l.filter p).length < (l.filter q).length
  | [], _, h => by obtain ⟨x, hx, _⟩ := h; simp at hx
  | x :: l, h, hx => by
    have h' : ∀ y ∈ l, p y = true → q y = true := fun y hy => h y (List.mem_cons_of_mem _ hy)
    rw [List.filter_cons, List.filter_cons]
    cases hp : p x with
    | true =>
      rw [if_pos rfl, if_pos (h x List.mem_cons_self hp)]
      obtain ⟨y, hy, h1, h2⟩ := hx
      rcases List.mem_cons.mp hy with rfl | hy
      · rw [hp] at h2; cases h2
      · have := filter_len_lt h' ⟨y, hy, h1, h2⟩
        simp; exact this
    | false =>
      rw [if_neg Bool.false_ne_true]
      cases hq : q x with
      | true => rw [if_pos rfl]; have := filter_len_le h'; simp; omega
      | false =>
        rw [if_neg Bool.false_ne_true]
        obtain ⟨y, hy, h1, h2⟩ := hx
        rcases List.mem_cons.mp hy with rfl | hy
        · rw [hq] at h1; cases h1
        · exact filter_len_lt h' ⟨y, hy, h1, h2⟩
/-- nothing is added any more -/
def Closed (s : State) (l : List Nat) : Prop := ∀ i ∈ l, ∀ j, j < s.ops.length → direct s i j = true → j ∈ l
theorem round_closed {s : State} {l : List Nat} (hp : Part s l) (hc : Closed s l) : round s l = l := by
  obtain ⟨p, rfl⟩ := hp
  unfold round
  refine List.filter_congr fun j hj => ?_
  have hj' : j < s.ops.length := List.mem_range.mp hj
  rw [Bool.eq_iff_iff, Bool.or_eq_true, List.any_eq_true]
  constructor
  · rintro (h | ⟨i, hi, hd⟩)
    · have : j ∈ (all s).filter p := by simpa using h
      exact (List.mem_filter.mp this).2
    · exact (List.mem_filter.mp (hc i hi j hj' hd)).2
  · intro h
    left
    simpa using List.mem_filter.mpr ⟨hj, h⟩
theorem grow_closed {s : State} {l : List Nat} (hp : Part s l) (hc : Closed s l) : ∀ k, grow s k l = l
  | 0 => rfl
  | k + 1 => by
    show grow s k (round s l) = l
    rw [round_closed hp hc]
    exact grow_closed hp hc k
theorem not_closed {s : State} {l : List Nat} (hp : Part s l) (hc : ¬ Closed s l) : l.length < (round s l).length := by
  obtain ⟨i, hi⟩ := Classical.not_forall.mp hc
  obtain ⟨h1, h2⟩ := Classical.not_imp.mp hi
  obtain ⟨j, h3⟩ := Classical.not_forall.mp h2
  obtain ⟨h4, h5⟩ := Classical.not_imp.mp h3
  obtain ⟨h6, h7⟩ := Classical.not_imp.mp h5
  obtain ⟨p, e⟩ := hp
  have hr : round s l = (all s).filter fun (j : Nat) => l.contains j || l.any fun (i : Nat) => direct s i j := rfl
  rw [hr]
  conv => lhs; rw [e]
  refine filter_len_lt (fun x hx hpx => ?_) ⟨j, List.mem_range.mpr h4, ?_, ?_⟩
  · have : x ∈ l := by rw [e]; exact List.mem_filter.mpr ⟨hx, hpx⟩
    rw [Bool.or_eq_true]
    left; simpa using this
  · rw [Bool.or_eq_true]
    right
    exact List.any_eq_true.mpr ⟨i, h1, h6⟩
  · cases hz : p j with
    | false => rfl
    | true => exact absurd (by rw [e]; exact List.mem_filter.mpr ⟨List.mem_range.mpr h4, hz⟩) h7
theorem grow_part {s : State} : ∀ (k : Nat) {l : List Nat}, Part s l → Part s (grow s k l)
  | 0, _, h => h
  | k + 1, l, _ => grow_part k (part_round s l)
/-- enough rounds close it -/
theorem grow_done {s : State} : ∀ (k : Nat) {l : List Nat}, Part s l → s.ops.length ≤ l.length + k → Closed s (grow s k l)
  | 0, l, hp, h => by
    intro i hi j hj hd
    obtain ⟨p, e⟩ := hp
    show j ∈ l
    cases hz : p j with
    | true => rw [e]; exact List.mem_filter.mpr ⟨List.mem_range.mpr hj, hz⟩
    | false =>
      exfalso
      have : ((all s).filter p).length < ((all s).filter fun _ => true).length := filter_len_lt (fun _ _ _ => rfl) ⟨j, List.mem_range.mpr hj, rfl, hz⟩
      rw [← e, List.filter_eq_self.mpr (fun _ _ => rfl)] at this
      unfold all at this
      rw [List.length_range] at this
      omega
  | k + 1, l, hp, h => by
    by_cases hc : Closed s l
    · rw [grow_closed hp hc]; exact hc
    · show Closed s (grow s k (round s l))
      have := not_closed hp hc
      exact grow_done k (part_round s l) (by omega)
theorem grow_sub {s : State} {j : Nat} : ∀ (k : Nat) {l : List Nat}, Part s l → j ∈ l → j ∈ grow s k l
  | 0, _, _, h => h
  | k + 1, l, hp, h => grow_sub k (part_round s l) (mem_round.mpr ⟨hp.lt h, .inl h⟩)
theorem grow_reach {s : State} {i : Nat} : ∀ (k : Nat) {l : List Nat}, (∀ j ∈ l, Reach s i j) → ∀ j ∈ grow s k l, Reach s i j
  | 0, _, h, j, hj => h j hj
  | k + 1, l, h, j, hj => grow_reach k (l := round s l) (fun x hx => by
    obtain ⟨h1, h2⟩ := mem_round.mp hx
    rcases h2 with h2 | ⟨y, hy, hd⟩
    · exact h x h2
    · exact .more (h y hy) h1 hd) j hj
theorem mem_after {s : State} {i j : Nat} : j ∈ after s i ↔ Reach s i j := by
  unfold after
  have hp : Part s ((all s).filter fun (j : Nat) => direct s i j) := ⟨_, rfl⟩
  constructor
  · refine fun h => grow_reach _ (fun x hx => ?_) j h
    obtain ⟨h1, h2⟩ := List.mem_filter.mp hx
    exact .one (List.mem_range.mp h1) h2
  · intro h
    have hc := grow_done s.ops.length hp (by omega)
    induction h with
    | one h d => exact grow_sub _ hp (List.mem_filter.mpr ⟨List.mem_range.mpr h, d⟩)
    | more _ h d ih => exact hc _ ih _ h d
end Sh

set_option Elab.async false
namespace Sh
open Ag13
/-- of one thing, among these -/
def thingN (s : State) (nums : List Nat) (t : Nat) : Bool := (explained s (byTime s 0) every (nums.filter fun i => (op s i).thing == t)).isSome
def linearN (s : State) (nums : List Nat) : Bool := (List.range s.kinds.length).all (thingN s nums)
theorem thingN_all (s : State) (t : Nat) : thingN s (all s) t = thing s t := rfl
theorem linearN_all (s : State) : linearN s (all s) = linear s := rfl
theorem ops_all (s : State) : s.ops = (all s).map (op s) := by
  unfold all op
  apply List.ext_getElem?
  intro i
  rw [List.getElem?_map]
  rcases Nat.lt_or_ge i s.ops.length with h | h
  · rw [List.getElem?_range h, List.getElem?_eq_getElem h]
    simp [List.getD, h]
  · rw [List.getElem?_eq_none h, List.getElem?_eq_none (by simpa using h)]
    rfl
theorem range_get (l : List Nat) : (List.range l.length).map (fun i => l.getD i 0) = l := by
  apply List.ext_getElem?
  intro i
  rw [List.getElem?_map]
  rcases Nat.lt_or_ge i l.length with h | h
  · rw [List.getElem?_range h, List.getElem?_eq_getElem h]
    simp [List.getD, h]
  · rw [List.getElem?_eq_none h, List.getElem?_eq_none (by simpa using h)]
    rfl
theorem filter_map_eq {f : Nat → Nat} {q q' : Nat → Bool} : ∀ {l : List Nat}, (∀ x ∈ l, q x = q' (f x)) → (l.filter q).map f = (l.map f).filter q'
  | [], _ => rfl
  | x :: l, h => by
    have ih := filter_map_eq (l := l) fun y hy => h y (List.mem_cons_of_mem _ hy)
    rw [List.filter_cons, List.map_cons, List.filter_cons, ← h x List.mem_cons_self]
    cases q x with
    | true => simp only [if_true, List.map_cons, ih]
    | false => simpa using ih
/-- a history that is a part of another, numbered anew -/
theorem linear_part {c s : State} {nums : List Nat} (hk : c.kinds = s.kinds) (ho : c.ops = nums.map (op s)) (hn : nums.Nodup) : linear c = linearN s nums := by
  unfold linear linearN
  rw [hk]
  congr 1
  funext t
  unfold thing thingN
  have hl : c.ops.length = nums.length := by rw [ho, List.length_map]
  have hop : ∀ i, i < nums.length → op c i = op s (nums.getD i 0) := fun i hi => by
    unfold op
    rw [ho]
    simp [List.getD, hi, op]
  have hm : ∀ i ∈ onThing c t, i < nums.length := fun i hi => by
    have := (List.mem_filter.mp hi).1
    unfold all at this
    rw [hl] at this
    exact List.mem_range.mp this
  have q := explained_renamed (s := s) (s' := c) (first := byTime s 0) (first' := byTime c 0) (counts := every) (counts' := every) (f := fun i => nums.getD i 0) hk (left := onThing c t)
    (fun i hi => hop i (hm i hi)) (fun i hi j hj e => ?_) (fun i hi j hj => ?_) (fun _ _ => rfl)
  · rw [q]
    congr 2
    unfold onThing
    rw [filter_map_eq (q' := fun i => (op s i).thing == t) fun x hx => ?_]
    · unfold all
      rw [hl, range_get]
    · unfold all at hx
      rw [hl] at hx
      rw [hop x (List.mem_range.mp hx)]
  · have h1 := hm i hi
    have h2 := hm j hj
    have e' : nums[i]? = nums[j]? := by
      have : nums.getD i 0 = nums.getD j 0 := e
      simp only [List.getD, List.getElem?_eq_getElem h1, List.getElem?_eq_getElem h2, Option.getD_some] at this
      rw [List.getElem?_eq_getElem h1, List.getElem?_eq_getElem h2, this]
    exact (List.getElem?_inj h1 hn).mp e'
  · unfold byTime byClient
    rw [hop i (hm i hi), hop j (hm j hj)]
def cutOp (m : Nat) (o : Op) : Op := { o with ended := match o.ended with
    | some e => if e.1 < m then some e else none
    | none => none }
/-- the same history, ends behind m forgotten -/
def forget (s : State) (m : Nat) : State := { s with ops := s.ops.map (cutOp m) }
theorem op_forget (s : State) (m n : Nat) : op (forget s m) n = cutOp m (op s n) := by
  unfold op forget
  simp only [List.getD, List.getElem?_map]
  cases s.ops[n]? with
  | some o => rfl
  | none => rfl
def begunBy (s : State) (m : Nat) : List Nat := (all s).filter fun n => decide ((op s n).begun < m)
theorem filter_ops (s : State) (p : Op → Bool) : s.ops.filter p = ((all s).filter fun n => p (op s n)).map (op s) := by
  conv => lhs; rw [ops_all s]
  rw [List.filter_map]
  rfl
theorem all_nodup (s : State) : (all s).Nodup := List.nodup_range
theorem linear_cut (s : State) (m : Nat) : linear (cut s m) = linearN (forget s m) (begunBy s m) := by
  refine linear_part rfl ?_ ((all_nodup s).filter _)
  show ((s.ops.filter fun o => decide (o.begun < m)).map (cutOp m)) = (begunBy s m).map (op (forget s m))
  rw [filter_ops, List.map_map]
  refine List.map_congr_left fun n _ => ?_
  rw [op_forget]
  rfl
theorem map_erase {α β : Type} (f : α → β) : ∀ (l : List α) (i : Nat), (l.map f).eraseIdx i = (l.eraseIdx i).map f
  | [], _ => rfl
  | _ :: _, 0 => rfl
  | x :: l, i + 1 => by
    show f x :: (l.map f).eraseIdx i = f x :: (l.eraseIdx i).map f
    rw [map_erase f l i]
theorem erase_range (s : State) (i : Nat) : s.ops.eraseIdx i = ((all s).erase i).map (op s) := by
  have e : (all s).erase i = (all s).eraseIdx i := by
    unfold all
    rcases Nat.lt_or_ge i s.ops.length with h | h
    · rw [List.erase_eq_eraseIdx]
      have : (List.range s.ops.length).idxOf? i = some i := by
        rw [List.idxOf?_eq_some_iff]
        refine ⟨by simpa using h, by simp, fun j hj => by simp; omega⟩
      rw [this]
    · rw [List.erase_of_not_mem (by simpa using h), List.eraseIdx_of_length_le (by simpa using h)]
  rw [e, ← map_erase]
  conv => lhs; rw [ops_all s]
theorem linear_without (s : State) (i : Nat) : linear (without s i) = linearN s ((all s).erase i) :=
  linear_part rfl (erase_range s i) ((all_nodup s).erase i)
end Sh

set_option Elab.async false
namespace Sh
open PyAg13
/-- a call as it stands in the list -/
def flat : List (List Int) → List Int
  | [] => []
  | x :: rows => x ++ rows.flatMap fun r => (r.length : Int) :: r
theorem whole_id (c : List (List Int)) : whole c = c := by
  unfold whole
  split <;> rfl
theorem map_whole (cs : List (List (List Int))) : cs.map whole = cs := by
  induction cs with
  | nil => rfl
  | cons c cs ih => rw [List.map_cons, ih, whole_id]
/-- how many numbers behind a call's own -/
def numsOf : List Int := [0, 5, 2, 0, 1, 0, 0, 0, 1, 0, 1, 0, 0, 0, 1]
theorem shape_cases {p : Int} {n k : Nat} (h : shape p = some (n, k)) : 0 ≤ p ∧ p < 15 ∧ numsOf[p.toNat]? = some (n : Int) ∧ ((k = 1 ∧ n = 0 ∧ (p = 0 ∨ p = 12 ∨ p = 13)) ∨ (k = 0 ∧ ¬ (p = 0 ∨ p = 12 ∨ p = 13))) := by
  by_cases e0 : p = 0
  · subst e0
    have e : shape 0 = some (0, 1) := rfl
    rw [e] at h
    cases h
    exact ⟨by decide, by decide, rfl, .inl ⟨rfl, rfl, by decide⟩⟩
  by_cases e1 : p = 1
  · subst e1
    have e : shape 1 = some (5, 0) := rfl
    rw [e] at h
    cases h
    exact ⟨by decide, by decide, rfl, .inr ⟨rfl, by decide⟩⟩
  by_cases e2 : p = 2
  · subst e2
    have e : shape 2 = some (2, 0) := rfl
    rw [e] at h
    cases h
    exact ⟨by decide, by decide, rfl, .inr ⟨rfl, by decide⟩⟩
  by_cases e3 : p = 3
  · subst e3
    have e : shape 3 = some (0, 0) := rfl
    rw [e] at h
    cases h
    exact ⟨by decide, by decide, rfl, .inr ⟨rfl, by decide⟩⟩
  by_cases e4 : p = 4
  · subst e4
    have e : shape 4 = some (1, 0) := rfl
    rw [e] at h
    cases h
    exact ⟨by decide, by decide, rfl, .inr ⟨rfl, by decide⟩⟩
  by_cases e5 : p = 5
  · subst e5
    have e : shape 5 = some (0, 0) := rfl
    rw [e] at h
    cases h
    exact ⟨by decide, by decide, rfl, .inr ⟨rfl, by decide⟩⟩
  by_cases e6 : p = 6
  · subst e6
    have e : shape 6 = some (0, 0) := rfl
    rw [e] at h
    cases h
    exact ⟨by decide, by decide, rfl, .inr ⟨rfl, by decide⟩⟩
  by_cases e7 : p = 7
  · subst e7
    have e : shape 7 = some (0, 0) := rfl
    rw [e] at h
    cases h
    exact ⟨by decide, by decide, rfl, .inr ⟨rfl, by decide⟩⟩
  by_cases e8 : p = 8
  · subst e8
    have e : shape 8 = some (1, 0) := rfl
    rw [e] at h
    cases h
    exact ⟨by decide, by decide, rfl, .inr ⟨rfl, by decide⟩⟩
  by_cases e9 : p = 9
  · subst e9
    have e : shape 9 = some (0, 0) := rfl
    rw [e] at h
    cases h
    exact ⟨by decide, by decide, rfl, .inr ⟨rfl, by decide⟩⟩
  by_cases e10 : p = 10
  · subst e10
    have e : shape 10 = some (1, 0) := rfl
    rw [e] at h
    cases h
    exact ⟨by decide, by decide, rfl, .inr ⟨rfl, by decide⟩⟩
  by_cases e11 : p = 11
  · subst e11
    have e : shape 11 = some (0, 0) := rfl
    rw [e] at h
    cases h
    exact ⟨by decide, by decide, rfl, .inr ⟨rfl, by decide⟩⟩
  by_cases e12 : p = 12
  · subst e12
    have e : shape 12 = some (0, 1) := rfl
    rw [e] at h
    cases h
    exact ⟨by decide, by decide, rfl, .inl ⟨rfl, rfl, by decide⟩⟩
  by_cases e13 : p = 13
  · subst e13
    have e : shape 13 = some (0, 1) := rfl
    rw [e] at h
    cases h
    exact ⟨by decide, by decide, rfl, .inl ⟨rfl, rfl, by decide⟩⟩
  by_cases e14 : p = 14
  · subst e14
    have e : shape 14 = some (1, 0) := rfl
    rw [e] at h
    cases h
    exact ⟨by decide, by decide, rfl, .inr ⟨rfl, by decide⟩⟩
  have e : shape p = none := by
    unfold shape
    simp only [e0, e1, e2, e3, e4, e5, e6, e7, e8, e9, e10, e11, e12, e13, e14, if_false]
  rw [e] at h
  cases h
/-- one call: the numbers it takes -/
theorem call_flat {p : Int} {r : List Int} {c : List (List Int)} {t : List Int} (h : PyFlat.call shape (p :: r) = some (c, t)) :
    ∃ n : Nat, 0 ≤ p ∧ p < 15 ∧ numsOf[p.toNat]? = some (n : Int) ∧ p :: r = flat c ++ t ∧
      ((p = 0 ∨ p = 12 ∨ p = 13) → n = 0 ∧ ∃ x : List Int, c = [[p], x] ∧ r = (x.length : Int) :: (x ++ t)) ∧
      (¬ (p = 0 ∨ p = 12 ∨ p = 13) → ∃ x : List Int, x.length = n ∧ c = [p :: x]) := by
  unfold PyFlat.call at h
  dsimp only at h
  cases hs : shape p with
  | none => rw [hs] at h; cases h
  | some nk =>
    obtain ⟨n, k⟩ := nk
    rw [hs] at h
    obtain ⟨h0, h1, h2, h3⟩ := shape_cases hs
    simp only at h
    split at h
    · cases h
    rename_i hlt
    refine ⟨n, h0, h1, h2, ?_⟩
    rcases h3 with ⟨rfl, rfl, hp⟩ | ⟨rfl, hp⟩
    · simp only [List.take_zero, List.drop_zero, PyFlat.rows] at h
      cases r with
      | nil => simp [PyFlat.row] at h
      | cons m r' =>
        unfold PyFlat.row at h
        dsimp only at h
        by_cases hm : 0 ≤ m ∧ m.toNat ≤ r'.length
        · rw [if_pos hm] at h
          simp only [Option.some.injEq, Prod.mk.injEq] at h
          obtain ⟨rfl, rfl⟩ := h
          have hl : ((r'.take m.toNat).length : Int) = m := by rw [List.length_take]; omega
          refine ⟨?_, fun _ => ⟨rfl, _, rfl, ?_⟩, fun z => absurd hp z⟩
          · simp only [flat, List.flatMap_cons, List.flatMap_nil, List.append_nil, hl, List.cons_append, List.nil_append, List.take_append_drop]
          · rw [hl, List.take_append_drop]
        · rw [if_neg hm] at h
          cases h
    · simp only [PyFlat.rows, Option.some.injEq, Prod.mk.injEq] at h
      obtain ⟨rfl, rfl⟩ := h
      refine ⟨?_, fun z => absurd z hp, fun _ => ⟨_, ?_, rfl⟩⟩
      · simp only [flat, List.flatMap_nil, List.append_nil, List.cons_append, List.take_append_drop]
      · rw [List.length_take]; omega
theorem calls_cons {f : Nat} {p : Int} {r : List Int} {cs : List (List (List Int))} (h : PyFlat.calls shape f (p :: r) = some cs) :
    ∃ f' c t cs', PyFlat.call shape (p :: r) = some (c, t) ∧ PyFlat.calls shape f' t = some cs' ∧ cs = c :: cs' := by
  cases f with
  | zero => unfold PyFlat.calls at h; cases h
  | succ f =>
    unfold PyFlat.calls at h
    cases hc : PyFlat.call shape (p :: r) with
    | none => rw [hc] at h; cases h
    | some ct =>
      obtain ⟨c, t⟩ := ct
      rw [hc] at h
      simp only at h
      cases ht : PyFlat.calls shape f t with
      | none => rw [ht] at h; cases h
      | some cs' =>
        rw [ht] at h
        simp only [Option.some.injEq] at h
        exact ⟨f, c, t, cs', rfl, ht, h.symm⟩
theorem calls_nil {f : Nat} {cs : List (List (List Int))} (h : PyFlat.calls shape f [] = some cs) : cs = [] := by
  unfold PyFlat.calls at h
  cases f <;> simpa using h.symm
/-- what is asked of one call -/
def ok1 (c : List (List Int)) : Bool := PyInside.call bound c && Ag13Neutral.asked1 c
theorem asked_all {l : List Int} (h : answers_asked l = true) : ∃ cs, PyFlat.calls shape l.length l = some cs ∧ (∀ c ∈ cs, Ag13Neutral.asked1 c = true) ∧ answers l = PyFlat.told (PyFlat.played Ag13Neutral.step Ag13Neutral.start cs) ∧ (answers l).length ≤ 10000000 := by
  unfold answers_asked at h
  cases hc : PyFlat.calls shape l.length l with
  | none => rw [hc] at h; cases h
  | some cs =>
    rw [hc] at h
    simp only [Bool.and_eq_true, map_whole] at h
    obtain ⟨⟨⟨⟨h1, h2⟩, h3⟩, h4⟩, h5⟩ := h
    unfold Ag13Neutral.asked at h4
    simp only [Bool.and_eq_true] at h4
    refine ⟨cs, rfl, fun c hcm => List.all_eq_true.mp h4.2.2 c hcm, ?_, ?_⟩
    · unfold answers calls
      rw [hc]
      simp only [map_whole]
    · unfold PyFlat.short at h5
      exact of_decide_eq_true h5
end Sh

set_option Elab.async false
namespace Sh
open Ag13
/-- what holds of a history -/
structure StOk (s : State) : Prop where
  k1 : 1 ≤ s.kinds.length
  k3 : s.kinds.length ≤ 3
  k6 : ∀ k ∈ s.kinds, k < 6
  len : s.ops.length ≤ 9
  thing : ∀ o ∈ s.ops, o.thing < s.kinds.length
  op : ∀ o ∈ s.ops, o.op < opsOf (s.kinds.getD o.thing 0)
  cl : ∀ o ∈ s.ops, o.client < 4
def fit (s : State) (c t o : Nat) : Prop := c < 4 ∧ t < s.kinds.length ∧ o < opsOf (s.kinds.getD t 0)
theorem op_mem {s : State} {n : Nat} (h : n < s.ops.length) : Ag13.op s n ∈ s.ops := by
  unfold Ag13.op
  rw [List.getD, List.getElem?_eq_getElem h]
  exact List.getElem_mem h
theorem mem_set {α : Type} {l : List α} {i : Nat} {x y : α} (h : y ∈ l.set i x) : y ∈ l ∨ y = x := by
  exact List.mem_or_eq_of_mem_set h
theorem start_ok {ks : List Nat} (h1 : 1 ≤ ks.length) (h3 : ks.length ≤ 3) (h6 : ∀ k ∈ ks, k < 6) : StOk ⟨ks, [], 0⟩ := ⟨h1, h3, h6, by simp, by simp, by simp, by simp⟩
theorem call_ok {s : State} {c t o a b : Nat} (k : StOk s) (f : fit s c t o) (h9 : s.ops.length < 9) : StOk { s with ops := s.ops ++ [⟨c, t, o, a, b, s.time, none⟩], time := s.time + 1 } := by
  refine ⟨k.k1, k.k3, k.k6, by simp; omega, fun x hx => ?_, fun x hx => ?_, fun x hx => ?_⟩
  · rcases List.mem_append.mp hx with h | h
    · exact k.thing x h
    · simp at h; subst h; exact f.2.1
  · rcases List.mem_append.mp hx with h | h
    · exact k.op x h
    · simp at h; subst h; exact f.2.2
  · rcases List.mem_append.mp hx with h | h
    · exact k.cl x h
    · simp at h; subst h; exact f.1
theorem end_ok {s : State} {i : Nat} {e : Option (Nat × Int)} (k : StOk s) (hi : i < s.ops.length) : StOk { s with ops := s.ops.set i { Ag13.op s i with ended := e }, time := s.time + 1 } := by
  refine ⟨k.k1, k.k3, k.k6, by simpa using k.len, fun x hx => ?_, fun x hx => ?_, fun x hx => ?_⟩
  · rcases mem_set hx with h | h
    · exact k.thing x h
    · subst h; exact k.thing (Ag13.op s i) (op_mem hi)
  · rcases mem_set hx with h | h
    · exact k.op x h
    · subst h; exact k.op (Ag13.op s i) (op_mem hi)
  · rcases mem_set hx with h | h
    · exact k.cl x h
    · subst h; exact k.cl (Ag13.op s i) (op_mem hi)
theorem under_lt {s : State} {c i : Nat} (h : under s c = some i) : i < s.ops.length := by
  have := List.mem_of_find?_eq_some h
  unfold all at this
  exact List.mem_range.mp this
/-- all calls but begin -/
theorem step_ok {s : State} {c : Call} (k : StOk s) (hb : ∀ l, c ≠ .begin_ l) : ∃ s', (step (some s) c).1 = some s' ∧ StOk s' ∧ s'.time ≤ s.time + 1 := by
  cases c with
  | begin_ l => exact absurd rfl (hb l)
  | call c t p a b =>
    unfold step
    dsimp only
    split
    · exact ⟨s, rfl, k, by omega⟩
    · rename_i h
      split
      · exact ⟨s, rfl, k, by omega⟩
      · split
        · exact ⟨s, rfl, k, by omega⟩
        · rename_i h9
          exact ⟨_, rfl, call_ok k ⟨by omega, by omega, by omega⟩ (by omega), Nat.le_refl _⟩
  | end_ c x =>
    unfold step
    dsimp only
    split
    · exact ⟨s, rfl, k, by omega⟩
    · split
      · exact ⟨s, rfl, k, by omega⟩
      · rename_i i hi
        exact ⟨_, rfl, end_ok k (under_lt hi), Nat.le_refl _⟩
  | linear => exact ⟨s, rfl, k, by omega⟩
  | thing t => exact ⟨s, rfl, k, by omega⟩
  | order => exact ⟨s, rfl, k, by omega⟩
  | shortest => exact ⟨s, rfl, k, by omega⟩
  | serial => exact ⟨s, rfl, k, by omega⟩
  | own c => exact ⟨s, rfl, k, by omega⟩
  | causal => exact ⟨s, rfl, k, by omega⟩
  | late t => exact ⟨s, rfl, k, by omega⟩
  | blame => exact ⟨s, rfl, k, by omega⟩
  | held l => exact ⟨s, rfl, k, by omega⟩
  | play l => exact ⟨s, rfl, k, by omega⟩
  | show_ i => exact ⟨s, rfl, k, by omega⟩
/-! ### the numbered operations -/
theorem all_more (s : State) (o : Op) (tm : Nat) : let s' : State := { s with ops := s.ops ++ [o], time := tm }
    (all s').map (fun n => (n, Ag13.op s' n)) = (all s).map (fun n => (n, Ag13.op s n)) ++ [(s.ops.length, o)] := by
  intro s'
  have e : all s' = all s ++ [s.ops.length] := by
    show List.range (s.ops ++ [o]).length = _
    rw [List.length_append, List.length_singleton, List.range_succ]
    rfl
  rw [e, List.map_append]
  congr 1
  · refine List.map_congr_left fun n hn => ?_
    have hn' : n < s.ops.length := List.mem_range.mp hn
    show (n, (s.ops ++ [o]).getD n nobody) = (n, s.ops.getD n nobody)
    simp [List.getD, List.getElem?_append_left hn']
  · show [(s.ops.length, (s.ops ++ [o]).getD s.ops.length nobody)] = _
    simp [List.getD]
theorem all_set (s : State) (i : Nat) (o : Op) (tm : Nat) (hi : i < s.ops.length) : let s' : State := { s with ops := s.ops.set i o, time := tm }
    (all s').map (fun n => (n, Ag13.op s' n)) = ((all s).map (fun n => (n, Ag13.op s n))).set i (i, o) := by
  intro s'
  have e : all s' = all s := by
    show List.range (s.ops.set i o).length = _
    rw [List.length_set]
    rfl
  rw [e]
  apply List.ext_getElem?
  intro j
  rw [List.getElem?_set, List.getElem?_map, List.getElem?_map]
  unfold all
  rcases Nat.lt_or_ge j s.ops.length with h | h
  · rw [List.getElem?_range h]
    by_cases ij : i = j
    · subst ij
      rw [if_pos rfl, if_pos (by simpa using h)]
      show some (i, (s.ops.set i o).getD i nobody) = _
      simp [List.getD, h]
    · rw [if_neg ij]
      show some (j, (s.ops.set i o).getD j nobody) = some (j, s.ops.getD j nobody)
      simp [List.getD, ij]
  · rw [List.getElem?_eq_none (by simpa using h)]
    by_cases ij : i = j
    · omega
    · rw [if_neg ij]; rfl
theorem under_idx (s : State) (c : Nat) : ((all s).map (fun n => (n, Ag13.op s n))).findIdx? (fun q => q.2.client == c && q.2.ended.isNone) = under s c := by
  unfold under
  have e : ∀ i, ((Ag13.op s i).client == c && (Ag13.op s i).ended.isNone) = ((Ag13.op s i).client == c && !(must s i)) := fun i => by
    unfold must
    cases (Ag13.op s i).ended <;> rfl
  rw [List.findIdx?_map]
  unfold all
  cases hu : (List.range s.ops.length).find? (fun i => (Ag13.op s i).client == c && !(must s i)) with
  | none =>
    rw [List.findIdx?_eq_none_iff]
    intro x hx
    have := List.find?_eq_none.mp hu x hx
    show ((Ag13.op s x).client == c && (Ag13.op s x).ended.isNone) = false
    rw [e]
    simpa using this
  | some i =>
    rw [List.find?_eq_some_iff_getElem] at hu
    obtain ⟨h1, j, hj, hji, h2⟩ := hu
    have ej : j = i := by simpa using hji
    subst ej
    rw [List.findIdx?_eq_some_iff_getElem]
    refine ⟨hj, ?_, fun k hk => ?_⟩
    · simp only [List.getElem_range, Function.comp]
      rw [e]; exact h1
    · have := h2 k hk
      simp only [List.getElem_range, Function.comp] at this ⊢
      rw [e]
      cases hz : ((Ag13.op s k).client == c && !(must s k)) with
      | false => simp
      | true => rw [hz] at this; simp at this
end Sh

set_option Elab.async false
namespace Sh
open Ag13
/-! ### the same search by a rule that is the same there -/
theorem search_congr {s : State} {first first' : Nat → Nat → Bool} {counts counts' : Nat → Bool} : ∀ (k : Nat) (left : List Nat) (m : Mem), (∀ i ∈ left, ∀ j ∈ left, first i j = first' i j) → (∀ i ∈ left, counts i = counts' i) →
    search s first counts k left m = search s first' counts' k left m
  | 0, left, m, _, _ => rfl
  | k + 1, left, m, h1, h2 => by
    unfold search
    split
    · refine findSome_congr fun i hi => ?_
      rw [any_congr (f := fun j => first j i) (g := fun j => first' j i) fun j hj => h1 j hj i hi, h2 i hi]
      split
      · rfl
      · simp only
        split
        · rfl
        · rw [search_congr k (left.erase i) _ (fun a ha b hb => h1 a (List.mem_of_mem_erase ha) b (List.mem_of_mem_erase hb)) fun a ha => h2 a (List.mem_of_mem_erase ha)]
    · rfl
theorem explained_congr {s : State} {first first' : Nat → Nat → Bool} {counts counts' : Nat → Bool} {nums : List Nat} (h1 : ∀ i ∈ nums, ∀ j ∈ nums, first i j = first' i j) (h2 : ∀ i ∈ nums, counts i = counts' i) :
    explained s first counts nums = explained s first' counts' nums := search_congr _ _ _ h1 h2
/-! ### a weaker rule explains as well -/
theorem some_of_find {f g : Nat → Option (List Nat)} : ∀ {l : List Nat}, (∀ x ∈ l, (f x).isSome = true → (g x).isSome = true) → (l.findSome? f).isSome = true → (l.findSome? g).isSome = true
  | [], _, h => by simp at h
  | x :: l, h, hs => by
    rw [List.findSome?_cons] at hs ⊢
    cases hf : f x with
    | some y =>
      have := h x List.mem_cons_self (by rw [hf]; rfl)
      obtain ⟨z, hz⟩ := Option.isSome_iff_exists.mp this
      rw [hz]; rfl
    | none =>
      rw [hf] at hs
      cases hg : g x with
      | some z => rfl
      | none => exact some_of_find (fun y hy => h y (List.mem_cons_of_mem _ hy)) hs
theorem search_mono {s : State} {first first' : Nat → Nat → Bool} {counts : Nat → Bool} (hf : ∀ i j, first' i j = true → first i j = true) : ∀ (k : Nat) (left : List Nat) (m : Mem), (search s first counts k left m).isSome = true → (search s first' counts k left m).isSome = true
  | 0, left, m, h => h
  | k + 1, left, m, h => by
    unfold search at h ⊢
    split
    · rename_i hm
      rw [if_pos hm] at h
      refine some_of_find (fun i hi hs => ?_) h
      by_cases h1 : left.any (fun j => first j i) = true
      · rw [if_pos h1] at hs; cases hs
      · rw [if_neg h1] at hs
        have h2 : ¬ left.any (fun j => first' j i) = true := fun z => by
          obtain ⟨x, hx, hfx⟩ := List.any_eq_true.mp z
          exact h1 (List.any_eq_true.mpr ⟨x, hx, hf x i hfx⟩)
        rw [if_neg h2]
        simp only at hs ⊢
        split
        · rename_i hc; rw [if_pos hc] at hs; cases hs
        · rename_i hc
          rw [if_neg hc, Option.isSome_map] at hs
          rw [Option.isSome_map]
          exact search_mono hf k _ _ hs
    · rfl
theorem explained_mono {s : State} {first first' : Nat → Nat → Bool} {counts : Nat → Bool} {nums : List Nat} (hf : ∀ i j, first' i j = true → first i j = true) (h : (explained s first counts nums).isSome = true) : (explained s first' counts nums).isSome = true := search_mono hf _ _ _ h
theorem byTime_mono {s : State} {d e : Nat} (h : d ≤ e) (i j : Nat) (q : byTime s e i j = true) : byTime s d i j = true := by
  unfold byTime at q ⊢
  rw [Bool.or_eq_true] at q ⊢
  rcases q with q | q
  · exact .inl q
  · right
    revert q
    cases (op s i).ended with
    | none => exact id
    | some x =>
      intro q
      have := of_decide_eq_true q
      exact decide_eq_true (by omega)
/-! ### ways over several steps, by the numbers between -/
def Via (s : State) : Nat → Nat → Nat → Prop
  | 0, i, j => direct s i j = true
  | k + 1, i, j => Via s k i j ∨ (Via s k i k ∧ Via s k k j)
theorem Via.up {s : State} {i j : Nat} : ∀ {k m : Nat}, k ≤ m → Via s k i j → Via s m i j := by
  intro k m h
  induction h with
  | refl => exact id
  | step _ ih => exact fun q => .inl (ih q)
theorem Via.trans {s : State} : ∀ {k i m j : Nat}, m < k → Via s k i m → Via s k m j → Via s k i j
  | 0, _, _, _, h, _, _ => absurd h (by omega)
  | k + 1, i, m, j, h, a, b => by
    rcases Nat.lt_or_eq_of_le (Nat.le_of_lt_succ h) with hm | rfl
    · rcases a with a | ⟨a1, a2⟩
      · rcases b with b | ⟨b1, b2⟩
        · exact .inl (Via.trans hm a b)
        · exact .inr ⟨Via.trans hm a b1, b2⟩
      · rcases b with b | ⟨b1, b2⟩
        · exact .inr ⟨a1, Via.trans hm a2 b⟩
        · exact .inr ⟨a1, b2⟩
    · have a' : Via s m i m := by
        rcases a with a | ⟨a1, _⟩
        · exact a
        · exact a1
      have b' : Via s m m j := by
        rcases b with b | ⟨_, b2⟩
        · exact b
        · exact b2
      exact .inr ⟨a', b'⟩
theorem Reach.via {s : State} {i j : Nat} (h : Reach s i j) : Via s s.ops.length i j := by
  induction h with
  | one _ d => exact Via.up (Nat.zero_le _) d
  | more r _ d ih => exact Via.trans r.lt ih (Via.up (k := 0) (Nat.zero_le _) d)
def reachB (s : State) (i j : Nat) : Bool := (after s i).contains j
theorem reachB_iff {s : State} {i j : Nat} : reachB s i j = true ↔ Reach s i j := by
  unfold reachB
  rw [← mem_after]
  simp
/-- a table of what is reached -/
structure TabOkW (s : State) (k : Nat) (tab : Nat → Nat → Bool) : Prop where
  sound : ∀ i j, i < s.ops.length → j < s.ops.length → tab i j = true → Reach s i j
  full : ∀ i j, i < s.ops.length → j < s.ops.length → Via s k i j → tab i j = true
theorem tab_start (s : State) : TabOkW s 0 (direct s) := ⟨fun _ _ _ hj h => .one hj h, fun _ _ _ _ h => h⟩
theorem tab_end {s : State} {tab : Nat → Nat → Bool} (t : TabOkW s s.ops.length tab) {i j : Nat} (hi : i < s.ops.length) (hj : j < s.ops.length) : tab i j = reachB s i j := by
  rw [Bool.eq_iff_iff, reachB_iff]
  exact ⟨t.sound i j hi hj, fun h => t.full i j hi hj h.via⟩
def putT (tab : Nat → Nat → Bool) (i j : Nat) : Nat → Nat → Bool := fun a b => if a = i ∧ b = j then true else tab a b
/-- one round's inside: between k, up to the pair (i, j) -/
structure TabIn (s : State) (k : Nat) (tab0 tab : Nat → Nat → Bool) (i j : Nat) : Prop where
  sound : ∀ a b, a < s.ops.length → b < s.ops.length → tab a b = true → Reach s a b
  more : ∀ a b, tab0 a b = true → tab a b = true
  done : ∀ a b, (a < i ∨ (a = i ∧ b < j)) → tab0 a k = true → tab0 k b = true → tab a b = true
theorem tabIn_start {s : State} {k : Nat} {tab : Nat → Nat → Bool} (t : TabOkW s k tab) : TabIn s k tab tab 0 0 :=
  ⟨t.sound, fun _ _ h => h, fun a b h => absurd h (by omega)⟩
theorem TabIn.row {s : State} {k : Nat} {tab0 tab : Nat → Nat → Bool} {i n : Nat} (t : TabIn s k tab0 tab i n) (hn : ∀ b, tab0 k b = true → b < n) : TabIn s k tab0 tab (i + 1) 0 :=
  ⟨t.sound, t.more, fun a b h h1 h2 => by
    have hb := hn b h2
    exact t.done a b (by omega) h1 h2⟩
theorem TabIn.skip {s : State} {k : Nat} {tab0 tab : Nat → Nat → Bool} {i j : Nat} (t : TabIn s k tab0 tab i j) (h : (tab i k && tab k j) = false) : TabIn s k tab0 tab i (j + 1) :=
  ⟨t.sound, t.more, fun a b hab h1 h2 => by
    by_cases e : a = i ∧ b = j
    · obtain ⟨rfl, rfl⟩ := e
      rw [t.more _ _ h1, t.more _ _ h2] at h
      cases h
    · exact t.done a b (by omega) h1 h2⟩
theorem TabIn.put {s : State} {k : Nat} {tab0 tab : Nat → Nat → Bool} {i j : Nat} (hi : i < s.ops.length) (hk : k < s.ops.length) (hj : j < s.ops.length) (t : TabIn s k tab0 tab i j) (h : (tab i k && tab k j) = true) : TabIn s k tab0 (putT tab i j) i (j + 1) := by
  rw [Bool.and_eq_true] at h
  refine ⟨fun a b ha hb q => ?_, fun a b q => ?_, fun a b hab h1 h2 => ?_⟩
  · unfold putT at q
    by_cases e : a = i ∧ b = j
    · obtain ⟨rfl, rfl⟩ := e
      exact (t.sound _ _ ha hk h.1).trans (t.sound _ _ hk hb h.2)
    · rw [if_neg e] at q
      exact t.sound a b ha hb q
  · unfold putT
    split
    · rfl
    · exact t.more a b q
  · unfold putT
    by_cases e : a = i ∧ b = j
    · rw [if_pos e]
    · rw [if_neg e]
      exact t.done a b (by omega) h1 h2
theorem TabIn.next {s : State} {k : Nat} {tab0 tab : Nat → Nat → Bool} (t0 : TabOkW s k tab0) (hk : k < s.ops.length) (t : TabIn s k tab0 tab s.ops.length 0) : TabOkW s (k + 1) tab :=
  ⟨t.sound, fun i j hi hj h => by
    rcases h with h | ⟨h1, h2⟩
    · exact t.more _ _ (t0.full i j hi hj h)
    · exact t.done i j (.inl hi) (t0.full i k hi hk h1) (t0.full k j hk hj h2)⟩
/-! ### rows that are handed over -/
def memA (s : State) (l : List Nat) (m : Mem) : Mem := l.foldl (fun m i => (one s i m).1) m
theorem play_get {s : State} : ∀ {l : List Nat} {m : Mem} {p i : Nat}, l[p]? = some i → (play s l m)[p]? = some (one s i (memA s (l.take p) m)).2
  | [], _, _, _, h => by simp at h
  | x :: l, m, 0, i, h => by
    simp at h; subst h; rfl
  | x :: l, m, p + 1, i, h => by
    have h' : l[p]? = some i := by simpa using h
    show (play s l (one s x m).1)[p]? = _
    rw [play_get h']
    rfl
theorem play_len {s : State} : ∀ {l : List Nat} {m : Mem}, (play s l m).length = l.length
  | [], _ => rfl
  | x :: l, m => by show (play s l _).length + 1 = _; rw [play_len]; rfl
theorem play_snoc {s : State} : ∀ {l : List Nat} {m : Mem} {i : Nat}, play s (l ++ [i]) m = play s l m ++ [(one s i (memA s l m)).2]
  | [], _, _ => rfl
  | x :: l, m, i => by
    show (one s x m).2 :: play s (l ++ [i]) _ = (one s x m).2 :: (play s l _ ++ _)
    rw [play_snoc]
    rfl
theorem memA_snoc {s : State} {l : List Nat} {m : Mem} {i : Nat} : memA s (l ++ [i]) m = (one s i (memA s l m)).1 := by
  unfold memA
  rw [List.foldl_append]
  rfl
def leftA (s : State) (l : List Nat) : List Nat := (all s).filter fun j => !(l.contains j)
theorem leftA_nil (s : State) : leftA s [] = all s := by
  unfold leftA
  rw [List.filter_eq_self]
  intro a _; rfl
theorem leftA_snoc {s : State} {l : List Nat} {i : Nat} : leftA s (l ++ [i]) = (leftA s l).erase i := by
  unfold leftA
  rw [filter_erase (all_nodup s)]
  congr 1
  funext j
  rw [List.contains_eq_mem, List.contains_eq_mem]
  by_cases h1 : j ∈ l <;> by_cases h2 : j = i <;> simp [h1, h2]
theorem held_at {s : State} {row : List Nat} {p i : Nat} (h : row[p]? = some i) : held s p (leftA s (row.take p)) (row.drop p) (memA s (row.take p) (new s)) =
    if (leftA s (row.take p)).any (fun j => byTime s 0 j i) = true then [-2, (p : Int)] else if right s i (one s i (memA s (row.take p) (new s))).2 = false then [-3, (p : Int)] else
      held s (p + 1) (leftA s (row.take (p + 1))) (row.drop (p + 1)) (memA s (row.take (p + 1)) (new s)) := by
  obtain ⟨hp, e⟩ := List.getElem?_eq_some_iff.mp h
  have e1 : row.drop p = i :: row.drop (p + 1) := by rw [List.drop_eq_getElem_cons hp, e]
  have e2 : row.take (p + 1) = row.take p ++ [i] := by rw [List.take_add_one, h]; rfl
  conv => lhs; rw [e1]
  rw [e2, leftA_snoc, memA_snoc]
  rfl
theorem held_end {s : State} {row : List Nat} {p : Nat} (h : row.length ≤ p) : held s p (leftA s (row.take p)) (row.drop p) (memA s (row.take p) (new s)) = [0] := by
  rw [List.drop_eq_nil_of_le h]
  rfl
theorem held_start (s : State) (row : List Nat) : held s 0 (all s) row (new s) = held s 0 (leftA s (row.take 0)) (row.drop 0) (memA s (row.take 0) (new s)) := by
  rw [List.take_zero, leftA_nil, List.drop_zero]
  rfl
theorem behind_eq {s : State} {l : List Nat} {i : Nat} : (((all s).filter fun j => byTime s 0 j i).all fun j => l.contains j) = !((leftA s l).any fun j => byTime s 0 j i) := by
  rw [Bool.eq_iff_iff, List.all_eq_true, Bool.not_eq_true', Bool.eq_false_iff]
  constructor
  · intro h z
    obtain ⟨x, hx, hb⟩ := List.any_eq_true.mp z
    obtain ⟨h1, h2⟩ := List.mem_filter.mp hx
    have := h x (List.mem_filter.mpr ⟨h1, hb⟩)
    rw [this] at h2
    cases h2
  · intro h x hx
    obtain ⟨h1, h2⟩ := List.mem_filter.mp hx
    cases hc : l.contains x with
    | true => rfl
    | false => exact absurd (List.any_eq_true.mpr ⟨x, List.mem_filter.mpr ⟨h1, by rw [hc]; rfl⟩, h2⟩) h
theorem once_iff : ∀ {l : List Nat}, once l = true ↔ l.Nodup
  | [] => by simp [once]
  | x :: l => by
    unfold once
    rw [Bool.and_eq_true, List.nodup_cons, once_iff (l := l)]
    simp
/-! ### of which histories causal is asked -/
theorem nodup_map {α β : Type} [DecidableEq β] {f : α → β} : ∀ {l : List α}, l.Nodup → ((l.map f).Nodup ↔ ∀ i ∈ l, ∀ j ∈ l, f i = f j → i = j)
  | [], _ => by simp
  | x :: l, h => by
    rw [List.nodup_cons] at h
    rw [List.map_cons, List.nodup_cons, nodup_map h.2]
    constructor
    · rintro ⟨h1, h2⟩ i hi j hj e
      rcases List.mem_cons.mp hi with z1 | z1
      · rcases List.mem_cons.mp hj with z2 | z2
        · rw [z1, z2]
        · exact absurd (List.mem_map.mpr ⟨j, z2, by rw [← e, z1]⟩) h1
      · rcases List.mem_cons.mp hj with z2 | z2
        · exact absurd (List.mem_map.mpr ⟨i, z1, by rw [e, z2]⟩) h1
        · exact h2 i z1 j z2 e
    · intro h3
      refine ⟨fun z => ?_, fun i hi j hj => h3 i (List.mem_cons_of_mem _ hi) j (List.mem_cons_of_mem _ hj)⟩
      obtain ⟨y, hy, e⟩ := List.mem_map.mp z
      have := h3 y (List.mem_cons_of_mem _ hy) x List.mem_cons_self e
      subst this
      exact h.1 hy
def writesOf (s : State) : List Nat := (all s).filter fun i => (op s i).op == 1
def wPair (s : State) (i : Nat) : List Int := [((op s i).thing : Int), ((op s i).a : Int)]
theorem simple_eq (s : State) : simple s = (s.kinds.all (fun k => k == 0) && ((all s).all (fun i => decide ((op s i).op ≤ 1)) && ((writesOf s).all (fun i => (op s i).a != 0) && decide (((writesOf s).map (wPair s)).Nodup)))) := by
  have nd : (writesOf s).Nodup := (all_nodup s).filter _
  have pe : ∀ i j, wPair s i = wPair s j ↔ (op s i).thing = (op s j).thing ∧ (op s i).a = (op s j).a := fun i j => by
    unfold wPair
    simp
    omega
  unfold simple
  congr 1
  rw [Bool.eq_iff_iff]
  simp only [Bool.and_eq_true, List.all_eq_true, decide_eq_true_eq, Bool.or_eq_true, beq_iff_eq, bne_iff_ne, ne_eq, Bool.not_eq_true', nodup_map nd]
  constructor
  · rintro ⟨h1, h2⟩
    refine ⟨fun x hx => (h1 x hx).1, fun x hx => ?_, fun i hi j hj e => ?_⟩
    · obtain ⟨hx1, hx2⟩ := List.mem_filter.mp hx
      have hx2 : (op s x).op = 1 := by simpa using hx2
      rcases (h1 x hx1).2 with z | z
      · omega
      · exact z
    · obtain ⟨hi1, hi2⟩ := List.mem_filter.mp hi
      obtain ⟨hj1, hj2⟩ := List.mem_filter.mp hj
      have e' := (pe i j).mp e
      rcases h2 i hi1 j hj1 with z | z
      · exact z
      · exfalso
        rw [hi2, hj2, e'.1, e'.2] at z
        simp at z
  · rintro ⟨h1, h2, h3⟩
    refine ⟨fun x hx => ⟨h1 x hx, ?_⟩, fun i hi j hj => ?_⟩
    · by_cases z : (op s x).op = 0
      · exact .inl z
      · right
        have := h1 x hx
        exact h2 x (List.mem_filter.mpr ⟨hx, by simp; omega⟩)
    · by_cases z : i = j
      · exact .inl z
      · right
        rw [Bool.eq_false_iff]
        intro q
        simp only [Bool.and_eq_true, beq_iff_eq] at q
        obtain ⟨q1, q2, q3, q4⟩ := q
        exact z (h3 i (List.mem_filter.mpr ⟨hi, by simp [q1]⟩) j (List.mem_filter.mpr ⟨hj, by simp [q2]⟩) ((pe i j).mpr ⟨q3, q4⟩))
/-- the search of causal, by the table -/
theorem causal_eq (s : State) : causal s = (List.range 4).all fun c => (explained s (reachB s) (fun i => [c].contains (op s i).client) ((all s).filter fun i => (op s i).op == 1 || (op s i).client == c)).isSome := by
  unfold causal
  simp only
  congr 1
  funext c
  congr 1
  refine explained_congr (fun i hi j hj => ?_) fun i hi => ?_
  · have hi' : i < s.ops.length := List.mem_range.mp (List.mem_filter.mp hi).1
    unfold reachB
    have : ((all s).map (after s)).getD i [] = after s i := by
      unfold all
      simp [List.getD, hi']
    rw [this]
  · rw [List.contains_cons]
    simp
end Sh

set_option Elab.async false
set_option maxRecDepth 100000
set_option maxHeartbeats 4000000
namespace Sh
open PySem PySem.SeqAt

/-- keys that are values: whole numbers, tuples of such, at any depth -/
structure VKey (prog : Program) (w : World) (K : Type) [DecidableEq K] where
  is : Heap → K → Value → Prop
  hash : K → Int
  draws : K → Nat
  deep : Nat
  inj : ∀ {h : Heap} {v : Value} {x y : K}, is h x v → is h y v → x = y
  keeps : ∀ {h h' : Heap} {k : K} {v : Value} {d : Addr} {o : Obj} {es ep}, is h k v → h.get? d = some o → o.data = .dict es ep → Heap.SameBut d h h' → is h' k v
  pyHash : ∀ {A : Around} {E : Value → Shared → Prop} {s : Shared} {k : K} {v : Value} {Q : Int → Shared → Prop}, A.units + deep < cLine → is s.heap k v → Q (hash k) { s with toks := s.toks + draws k } →
    wpAny (model prog w) A (PySem.pyHash v) Q E s
  eqAt : ∀ {A : Around} {s : Shared} {x y : K} {u v : Value}, A.units + deep < cLine → is s.heap x u → is s.heap y v → EqAt A s u v (decide (x = y))
  quiet : ∀ {A : Around} {E : Value → Shared → Prop} {s : Shared} {k : K} {v : Value} {Q : Bool → Shared → Prop} (n : Nat), deep < n → is s.heap k v → Q true s → wpAny (model prog w) A (eqIsQuiet n v) Q E s

/-- whole numbers -/
def vkInt (prog : Program) (w : World) : VKey prog w Int where
  is := fun _ k v => Value.isInt k v = true
  hash := hashInt
  draws := fun _ => 1
  deep := 0
  inj := fun {h v x y} hx hy => by
    obtain ⟨t, rfl⟩ := Value.isInt_shape hx
    obtain ⟨u, e⟩ := Value.isInt_shape hy
    injection e
  keeps := fun h _ _ _ => h
  pyHash := fun {A E s k v Q} _ hv h => by
    obtain ⟨t, rfl⟩ := Value.isInt_shape hv
    exact wpAny_pyHash_int h
  eqAt := fun {A s x y u v} _ hu hv => by
    obtain ⟨t, rfl⟩ := Value.isInt_shape hu
    obtain ⟨t', rfl⟩ := Value.isInt_shape hv
    exact EqAt.int_int x t y t'
  quiet := fun {A E s k v Q} n _ hv h => by
    obtain ⟨t, rfl⟩ := Value.isInt_shape hv
    rw [eqIsQuiet_byValue n rfl]
    exact wpAny_pure h

section
variable {prog : Program} {w : World} {K : Type} [DecidableEq K] (V : VKey prog w K)

inductive Items (h : Heap) : List K → List Value → Prop
  | nil : Items h [] []
  | cons {k : K} {v : Value} {ks : List K} {vs : List Value} : V.is h k v → Items h ks vs → Items h (k :: ks) (v :: vs)

def TupKey (h : Heap) (ks : List K) (v : Value) : Prop := ∃ a o items n, v = .ref a ∧ h.get? a = some o ∧ o.cls = .type "tuple" ∧ o.data = .seq items n ∧ Items V h ks items.toList

variable {V}
theorem Items.inj {h : Heap} {x y : List K} {vs : List Value} (hx : Items V h x vs) (hy : Items V h y vs) : x = y := by
  induction hx generalizing y with
  | nil => cases hy; rfl
  | cons h1 _ ih =>
    cases hy with
    | cons h2 t2 => rw [V.inj h1 h2, ih t2]
theorem Items.length {h : Heap} {x : List K} {vs : List Value} (hx : Items V h x vs) : x.length = vs.length := by
  induction hx with
  | nil => rfl
  | cons _ _ ih => simp [ih]
theorem Items.keeps {h h' : Heap} {x : List K} {vs : List Value} {d : Addr} {o : Obj} {es ep} (hx : Items V h x vs) (ho : h.get? d = some o) (hd : o.data = .dict es ep) (hs : Heap.SameBut d h h') : Items V h' x vs := by
  induction hx with
  | nil => exact .nil
  | cons h1 _ ih => exact .cons (V.keeps h1 ho hd hs) ih
theorem Items.get {h : Heap} {x : List K} {vs : List Value} (hx : Items V h x vs) : ∀ (j : Nat) (h1 : j < x.length) (h2 : j < vs.length), V.is h x[j] vs[j] := by
  induction hx with
  | nil => intro j h1; exact absurd h1 (by simp)
  | cons hk _ ih =>
    intro j h1 h2
    match j with
    | 0 => exact hk
    | j + 1 => exact ih j (by simpa using h1) (by simpa using h2)

theorem TupKey.keeps {h h' : Heap} {ks : List K} {v : Value} {d : Addr} {o : Obj} {es ep} (x : TupKey V h ks v) (ho : h.get? d = some o) (hd : o.data = .dict es ep) (hs : Heap.SameBut d h h') : TupKey V h' ks v := by
  obtain ⟨a, o', items, n, rfl, ho', hc, hd', hi⟩ := x
  have hne : a ≠ d := by
    rintro rfl
    obtain rfl : o' = o := Option.some.inj (ho'.symm.trans ho)
    rw [hd] at hd'; exact nomatch hd'
  exact ⟨a, o', items, n, rfl, (hs.2 a hne).trans ho', hc, hd', hi.keeps ho hd hs⟩
theorem TupKey.inj {h : Heap} {v : Value} {x y : List K} (hx : TupKey V h x v) (hy : TupKey V h y v) : x = y := by
  obtain ⟨a, o, items, n, rfl, ho, _, hd, hi⟩ := hx
  obtain ⟨a', o', items', n', e, ho', _, hd', hi'⟩ := hy
  injection e with e
  subst e
  obtain rfl : o = o' := Option.some.inj (ho.symm.trans ho')
  rw [hd] at hd'
  injection hd' with h1 _
  subst h1
  exact hi.inj hi'

def tupHash (V : VKey prog w K) (ks : List K) : Int := reduceHash (Builtin.Tuple.tupleHashOf (ks.map V.hash))
def tupDraws (V : VKey prog w K) (ks : List K) : Nat := (ks.map V.draws).sum + 1

variable {A : Around} {E : Value → Shared → Prop} {s : Shared}

/-- the hashes of the items, one behind the other -/
theorem items_hash {ks : List K} {items : Array Value} {E' : Value → Shared → Prop} {R : Array Int → Shared → Prop} {B : Around} {f : Value → Array Int → Sem (ForInStep (Array Int))} (hB : B.units + V.deep < cLine) (hi : Items V s.heap ks items.toList)
    (hf : ∀ (v : Value) (b : Array Int) (t : Shared) (R' : ForInStep (Array Int) → Shared → Prop), wpAny (model prog w) B (pyHash v) (fun x t' => R' (.yield (b.push x)) t') E' t → wpAny (model prog w) B (f v b) R' E' t)
    (h : ∀ b : Array Int, b.toList = ks.map V.hash → R b { s with toks := s.toks + (ks.map V.draws).sum }) : wpAny (model prog w) B (forIn items #[] f) R E' s := by
  rw [← Array.forIn_toList]
  refine wpAny_forIn_list _ (fun rest (b : Array Int) t => ∃ got more, ks = got ++ more ∧ Items V s.heap more rest ∧ b.toList = got.map V.hash ∧ t = { s with toks := s.toks + (got.map V.draws).sum }) _ ?_ ?_ _ _ ⟨[], ks, rfl, hi, rfl, rfl⟩
  · rintro v rest b t ⟨got, more, e, hm, hb, rfl⟩
    cases hm with
    | @cons k _ more' _ h1 h2 =>
      refine hf v b _ _ (V.pyHash (s := { s with toks := s.toks + (got.map V.draws).sum }) hB h1 ?_)
      exact ⟨got ++ [k], more', by rw [e]; simp, h2, by simp [hb], by simp [Nat.add_assoc]⟩
  · rintro b t ⟨got, more, e, hm, hb, rfl⟩
    cases hm
    rw [List.append_nil] at e
    subst e
    exact h b hb

theorem tup_pyHash {ks : List K} {v : Value} {Q : Int → Shared → Prop} (hu : A.units + (V.deep + 1) < cLine) (hk : TupKey V s.heap ks v) (h : Q (tupHash V ks) { s with toks := s.toks + tupDraws V ks }) :
    wpAny (model prog w) A (pyHash v) Q E s := by
  obtain ⟨a, o, items, n, rfl, ho, hc, hd, hi⟩ := hk
  have ht : s.TypeIs (.ref a) "tuple" := ⟨o, ho, hc⟩
  unfold pyHash; first | unfold pyHashByItsType | skip
  refine wpAny_bind (wpAny_cRoomFor_or (.inr (by omega)) (wpAny_bind (wpAny_specialOf ht F.slot_tuple_hash.lookup ?_)))
  refine (show wpAny _ _ (if (some (Value.builtin "tuple.__hash__") == some Value.none) = true then _ else _) Q E s from ?_)
  rw [beq_builtin_none, if_neg Bool.false_ne_true]
  refine wpAny_bind (wpAny_specialOf ht F.slot_tuple_hash.lookup (wpAny_bind ((wpAny_callSpecialIfBoundUnlessNone?_slot ht F.slot_tuple_hash (wpAny_call_entry F.slot_tuple_hash ht F.entry_tuple_hash ?_ (F.args_tuple_hash_1 _))))))
  refine (show wpAny (model prog w) A.in1 (Builtin.Tuple.tupleItemsOf (.ref a) >>= _) _ E s from ?_)
  refine wpAny_bind (wpAny_tupleItemsOf ho hd (wpAny_bind (items_hash (V := V) (B := A.in1) (by show A.units + 1 + V.deep < cLine; omega) hi (fun u b t R' q => ?_) fun b hb => ?_)))
  · first | exact wpAny_bind (wpAny_mono q (fun _ _ z => wpAny_pure z) fun _ _ z => z) | exact wpAny_bind (wpAny_mono q (fun _ _ z => wpAny_bind (wpAny_pure (wpAny_pure z))) fun _ _ z => z)
  · show wpAny _ _ (retInt (Builtin.Tuple.tupleHashOf b.toList)) _ _ _; rw [hb]
    refine wpAny_ret_mkInt ?_
    have h' := h; unfold tupHash reduceHash at h'
    refine (show wpAny _ _ (if (decide (-(2 : Int) ^ 63 ≤ Builtin.Tuple.tupleHashOf (ks.map V.hash)) && decide (Builtin.Tuple.tupleHashOf (ks.map V.hash) < 2 ^ 63)) = true then _ else _) Q E _ from ?_)
    cases hz : (decide (-(2 : Int) ^ 63 ≤ Builtin.Tuple.tupleHashOf (ks.map V.hash)) && decide (Builtin.Tuple.tupleHashOf (ks.map V.hash) < 2 ^ 63)) with
    | true => rw [hz, if_pos rfl] at h'; exact wpAny_pure (by simpa [tupDraws, Nat.add_assoc] using h')
    | false => rw [hz, if_neg Bool.false_ne_true] at h'; exact wpAny_bind (wpAny_rule (wpAny_pure (by simpa [tupDraws, Nat.add_assoc] using h')))

theorem tup_eqAt {x y : List K} {u v : Value} (hu : A.units + (V.deep + 1) < cLine) (hx : TupKey V s.heap x u) (hy : TupKey V s.heap y v) : EqAt A s u v (decide (x = y)) := by
  have hx' := hx
  have hy' := hy
  obtain ⟨a, o, items, n, rfl, ho, hc, hd, hi⟩ := hx
  obtain ⟨b, o', items', n', rfl, ho', hc', hd', hi'⟩ := hy
  by_cases hab : a = b
  · subst hab
    obtain rfl := hx'.inj hy'
    rw [decide_eq_true rfl]
    exact EqAt.same _
  · have l1 : x.length = items.size := by have := hi.length; simpa using this
    have l2 : y.length = items'.size := by have := hi'.length; simpa using this
    let e : Nat → Bool := fun j => decide (x[j]? = y[j]?)
    have q := RcAt.tuples (A := A) (s := s) (l := a) (b := b) (items := items) (items2 := items') (e := e) ⟨o, ho, hc, n, hd⟩ ⟨o', ho', hc', n', hd'⟩ (by omega) (fun j h1 h2 => by
      have g1 := hi.get j (by omega) (by simpa using h1)
      have g2 := hi'.get j (by omega) (by simpa using h2)
      have r := V.eqAt (A := A.in1) (s := s) (by show A.units + 1 + V.deep < cLine; omega) g1 g2
      have e1 : e j = decide (x[j]'(by omega) = y[j]'(by omega)) := by
        show decide (x[j]? = y[j]?) = _
        rw [List.getElem?_eq_getElem (by omega), List.getElem?_eq_getElem (by omega)]
        simp
      rw [e1]
      simpa using r)
    have z : ((List.range (min items.size items'.size)).all e && items.size == items'.size) = decide (x = y) := by
      by_cases hxy : x = y
      · subst hxy
        have : items.size = items'.size := by omega
        rw [decide_eq_true rfl, this]
        simp [e]
      · rw [decide_eq_false hxy]
        cases hz : ((List.range (min items.size items'.size)).all e && items.size == items'.size) with
        | false => rfl
        | true =>
          exfalso
          rw [Bool.and_eq_true] at hz
          have hl : items.size = items'.size := by simpa using hz.2
          apply hxy
          apply List.ext_getElem?
          intro j
          rcases Nat.lt_or_ge j items.size with hj | hj
          · have hm := List.all_eq_true.mp hz.1 j (List.mem_range.mpr (by omega))
            exact of_decide_eq_true hm
          · rw [List.getElem?_eq_none (by omega), List.getElem?_eq_none (by omega)]
    rw [z] at q
    exact EqAt.of_refs hab q

theorem tup_quiet {ks : List K} {v : Value} {Q : Bool → Shared → Prop} (n : Nat) (hn : V.deep + 1 < n) (hk : TupKey V s.heap ks v) (h : Q true s) : wpAny (model prog w) A (eqIsQuiet n v) Q E s := by
  obtain ⟨a, o, items, n', rfl, ho, hc, hd, hi⟩ := hk
  have ht : s.TypeIs (.ref a) "tuple" := ⟨o, ho, hc⟩
  cases n with
  | zero => exact absurd hn (by omega)
  | succ m =>
    unfold eqIsQuiet
    refine wpAny_bind (wpAny_specialOf ht F.slot_tuple_eq.lookup (wpAny_bind (wpAny_isInstance ht isSubtype_tuple_tuple ?_)))
    rw [Bool.not_true, if_neg Bool.false_ne_true]
    refine wpAny_bind (wpAny_seqItems ho hd (wpAny_bind ?_))
    rw [← Array.forIn_toList]
    refine wpAny_forIn_list _ (fun rest r t => r.1 = none ∧ t = s ∧ ∃ more, Items V s.heap more rest) _ (fun v rest r t z => ?_) (fun r t z => ?_) _ _ ⟨rfl, rfl, ks, hi⟩
    · obtain ⟨_, e, more, hm⟩ := z; subst e
      cases hm with
      | cons h1 h2 =>
        refine wpAny_bind (V.quiet m (by omega) h1 ?_)
        rw [Bool.not_true, if_neg Bool.false_ne_true]
        exact wpAny_pure ⟨rfl, rfl, _, h2⟩
    · obtain ⟨e1, e2, _⟩ := z; subst e2
      obtain ⟨r1, r2⟩ := r; cases e1
      exact wpAny_pure h
end

/-- tuples of such keys -/
def vkTup {prog : Program} {w : World} {K : Type} [DecidableEq K] (V : VKey prog w K) : VKey prog w (List K) where
  is := TupKey V
  hash := tupHash V
  draws := tupDraws V
  deep := V.deep + 1
  inj := fun hx hy => hx.inj hy
  keeps := fun x ho hd hs => x.keeps ho hd hs
  pyHash := fun hu hk h => tup_pyHash hu hk h
  eqAt := fun hu hx hy => tup_eqAt hu hx hy
  quiet := fun n hn hk h => tup_quiet n hn hk h

/-- a whole number, or a tuple of such keys -/
def vkSum {prog : Program} {w : World} {K : Type} [DecidableEq K] (V : VKey prog w K) : VKey prog w (Sum Int (List K)) where
  is := fun h k v => match k with
    | .inl i => (vkInt prog w).is h i v
    | .inr l => TupKey V h l v
  hash := fun k => match k with
    | .inl i => hashInt i
    | .inr l => tupHash V l
  draws := fun k => match k with
    | .inl _ => 1
    | .inr l => tupDraws V l
  deep := V.deep + 1
  inj := fun {h v x y} hx hy => by
    cases x with
    | inl i =>
      cases y with
      | inl j => exact congrArg _ ((vkInt prog w).inj (h := h) hx hy)
      | inr l =>
        obtain ⟨t, rfl⟩ := Value.isInt_shape hx
        obtain ⟨_, _, _, _, e, _⟩ := hy
        exact nomatch e
    | inr l =>
      cases y with
      | inl j =>
        obtain ⟨t, rfl⟩ := Value.isInt_shape hy
        obtain ⟨_, _, _, _, e, _⟩ := hx
        exact nomatch e
      | inr l' => exact congrArg _ (TupKey.inj hx hy)
  keeps := fun {h h' k v d o es ep} x ho hd hs => by
    cases k with
    | inl i => exact x
    | inr l => exact TupKey.keeps x ho hd hs
  pyHash := fun {A E s k v Q} hu x h => by
    cases k with
    | inl i => exact (vkInt prog w).pyHash (by show A.units + 0 < cLine; omega) x h
    | inr l => exact tup_pyHash hu x h
  eqAt := fun {A s x y u v} hu hx hy => by
    cases x with
    | inl i =>
      cases y with
      | inl j =>
        have q := (vkInt prog w).eqAt (A := A) (s := s) (by show A.units + 0 < cLine; omega) hx hy
        have e : decide ((Sum.inl i : Sum Int (List K)) = .inl j) = decide (i = j) := by
          by_cases z : i = j
          · simp [z]
          · simp [z]
        rw [e]; exact q
      | inr l =>
        obtain ⟨t, rfl⟩ := Value.isInt_shape hx
        obtain ⟨a, o, items, n, rfl, ho, hc, hd, hi⟩ := hy
        rw [decide_eq_false (fun z => nomatch z)]
        exact EqAt.int_tuple i t ⟨o, ho, hc, n, hd⟩ (by omega)
    | inr l =>
      cases y with
      | inl j =>
        obtain ⟨t, rfl⟩ := Value.isInt_shape hy
        obtain ⟨a, o, items, n, rfl, ho, hc, hd, hi⟩ := hx
        rw [decide_eq_false (fun z => nomatch z)]
        exact EqAt.tuple_int j t ⟨o, ho, hc, n, hd⟩ (by omega)
      | inr l' =>
        have q := tup_eqAt hu hx hy
        have e : decide ((Sum.inr l : Sum Int (List K)) = .inr l') = decide (l = l') := by
          by_cases z : l = l'
          · simp [z]
          · simp [z]
        rw [e]; exact q
  quiet := fun {A E s k v Q} n hn x h => by
    cases k with
    | inl i => exact (vkInt prog w).quiet n (by show 0 < n; omega) x h
    | inr l => exact tup_quiet n hn x h

/-- the keys of a dict: tuples of such -/
def vkHeap {prog : Program} {w : World} {K : Type} [DecidableEq K] (V : VKey prog w K) (hd : V.deep < 7) : HeapKind prog w (List K) where
  is := fun h k a => TupKey V h k (.ref a)
  hash := tupHash V
  draws := tupDraws V
  room := fun A => A.units + (V.deep + 1) < cLine
  inj := fun hx hy => hx.inj hy
  keeps := fun x ho hd hs => x.keeps ho hd hs
  pyHash := fun hu hk h => tup_pyHash hu hk h
  eqBool := fun {A E s x y a b Q} hu hx hy h => tup_eqAt hu hx hy prog w E Q h
  quiet := fun hk h => tup_quiet 8 (by omega) hk h
end Sh

set_option Elab.async false
set_option maxRecDepth 100000
set_option maxHeartbeats 4000000
set_option linter.all false
namespace Sh
open PySem PySem.Spec PyProof.Rows L2

/-- a key: a tuple of whole numbers, tuples of these, tuples of these and whole numbers -/
abbrev K1 := Sum Int (List Int)
abbrev K2 := Sum Int (List K1)
abbrev DKey := List K2
abbrev deepV (P : Program) (w : World) : VKey P w K2 := vkSum (vkSum (vkInt P w))
abbrev deepK (P : Program) (w : World) : HeapKind P w DKey := vkHeap (deepV P w) (by show 2 < 7; omega)

/-- the key lies in the heap -/
def In1 (H : Hp) : K1 → V → Prop
  | .inl i, v => v = .int i
  | .inr l, v => ∃ b, v = .ref b ∧ H b = some (.tup (l.map V.int))
def In2 (H : Hp) : K2 → V → Prop
  | .inl i, v => v = .int i
  | .inr l, v => ∃ b vs, v = .ref b ∧ H b = some (.tup vs) ∧ Paired (In1 H) l vs
def KeyAt (H : Hp) (k : DKey) (b : Addr) : Prop := ∃ vs, H b = some (.tup vs) ∧ Paired (In2 H) k vs

theorem In1.keeps {H H' : Hp} {k : K1} {v : V} (x : In1 H k v) (ht : ∀ b ys, H b = some (.tup ys) → H' b = some (.tup ys)) : In1 H' k v := by
  cases k with
  | inl i => exact x
  | inr l => obtain ⟨b, e, h⟩ := x; exact ⟨b, e, ht _ _ h⟩
theorem In2.keeps {H H' : Hp} {k : K2} {v : V} (x : In2 H k v) (ht : ∀ b ys, H b = some (.tup ys) → H' b = some (.tup ys)) : In2 H' k v := by
  cases k with
  | inl i => exact x
  | inr l => obtain ⟨b, vs, e, h, p⟩ := x; exact ⟨b, vs, e, ht _ _ h, Paired.mapP p fun _ _ z => z.keeps ht⟩
theorem KeyAt.keeps {H H' : Hp} {k : DKey} {b : Addr} (x : KeyAt H k b) (ht : ∀ b ys, H b = some (.tup ys) → H' b = some (.tup ys)) : KeyAt H' k b := by
  obtain ⟨vs, h, p⟩ := x
  exact ⟨vs, ht _ _ h, Paired.mapP p fun _ _ z => z.keeps ht⟩

section
variable {P : Program} {w : World} {H : Hp} {h : Heap}
theorem tup_rd {xs : List V} {a : Addr} (ok : HOk P w H h) (e : H a = some (.tup xs)) : ∃ (o : Obj) (its : List Value) (n : Nat), h.get? a = some o ∧ o.cls = .type "tuple" ∧ o.data = .seq its.toArray n ∧ Vals xs its := by
  obtain ⟨_, its, r, o, h1, h2, n, h3⟩ := (show ObjOk P w H h a (.tup xs) from ok a _ e)
  exact ⟨o, its, n, h1, h2, h3, r⟩
theorem ints_items : ∀ {l : List Int} {vs : List Value}, Vals (l.map V.int) vs → Items (vkInt P w) h l vs
  | [], _, r => by cases r; exact .nil
  | i :: l, _, r => by
    cases r with
    | cons r1 r2 =>
      obtain ⟨t, rfl⟩ := r1
      exact .cons (by show Value.isInt i (Value.int i t) = true; simp [Value.isInt]) (ints_items r2)
theorem in1_is {k : K1} {v : V} {u : Value} (ok : HOk P w H h) (x : In1 H k v) (r : RelV v u) : (vkSum (vkInt P w)).is h k u := by
  cases k with
  | inl i =>
    have e : v = .int i := x
    subst e
    obtain ⟨t, rfl⟩ := r
    show Value.isInt i (Value.int i t) = true
    simp [Value.isInt]
  | inr l =>
    obtain ⟨b, rfl, e⟩ := x
    cases (show u = Value.ref b from r)
    obtain ⟨o, its, n, h1, h2, h3, r⟩ := tup_rd ok e
    exact ⟨b, o, its.toArray, n, rfl, h1, h2, h3, by simpa using ints_items r⟩
theorem items1 (ok : HOk P w H h) : ∀ {l : List K1} {vs : List V} {us : List Value}, Paired (In1 H) l vs → Vals vs us → Items (vkSum (vkInt P w)) h l us
  | _, _, _, .nil, r => by cases r; exact .nil
  | _, _, _, .cons x t, r => by
    cases r with
    | cons r1 r2 => exact .cons (in1_is ok x r1) (items1 ok t r2)
theorem in2_is {k : K2} {v : V} {u : Value} (ok : HOk P w H h) (x : In2 H k v) (r : RelV v u) : (deepV P w).is h k u := by
  cases k with
  | inl i =>
    have e : v = .int i := x
    subst e
    obtain ⟨t, rfl⟩ := r
    show Value.isInt i (Value.int i t) = true
    simp [Value.isInt]
  | inr l =>
    obtain ⟨b, vs, rfl, e, p⟩ := x
    cases (show u = Value.ref b from r)
    obtain ⟨o, its, n, h1, h2, h3, r⟩ := tup_rd ok e
    exact ⟨b, o, its.toArray, n, rfl, h1, h2, h3, by simpa using items1 ok p r⟩
theorem items2 (ok : HOk P w H h) : ∀ {l : List K2} {vs : List V} {us : List Value}, Paired (In2 H) l vs → Vals vs us → Items (deepV P w) h l us
  | _, _, _, .nil, r => by cases r; exact .nil
  | _, _, _, .cons x t, r => by
    cases r with
    | cons r1 r2 => exact .cons (in2_is ok x r1) (items2 ok t r2)
theorem key_is {k : DKey} {b : Addr} (ok : HOk P w H h) (x : KeyAt H k b) : (deepK P w).is h k b := by
  obtain ⟨vs, e, p⟩ := x
  obtain ⟨o, its, n, h1, h2, h3, r⟩ := tup_rd ok e
  exact ⟨b, o, its.toArray, n, rfl, h1, h2, h3, by simpa using items2 ok p r⟩
end

/-! ### the dict -/
abbrev DEnt := DKey × Addr × V
def RelE (p : DEnt) (q : DKey × Addr × Value) : Prop := p.1 = q.1 ∧ p.2.1 = q.2.1 ∧ RelV p.2.2 q.2.2
def DictR (P : Program) (w : World) (h : Heap) (a : Addr) (kvs : List DEnt) : Prop :=
  kvs.length ≤ sizeLine ∧ (a == sysModules) = false ∧ ∃ xs : List (DKey × Addr × Value), Paired RelE kvs xs ∧
    ∃ o es ep, h.get? a = some o ∧ o.ExactDict ∧ o.data = .dict es ep ∧ es.toList = xs.map (entryOfKey (deepK P w)) ∧ (xs.map (·.1)).Nodup
def DdO (P : Program) (w : World) (a : Addr) (kvs : List DEnt) : HO := .ext fun h => DictR P w h a kvs
theorem ddO_new {P : Program} {w : World} {H : Hp} {h : Heap} {a : Addr} {kvs : List DEnt} (R : DictR P w h a kvs) : ObjOk P w H h a (DdO P w a kvs) := by
  have ⟨_, _, _, _, o, _, _, ho, _⟩ := R
  refine ⟨R, ⟨o, ho⟩, fun h1 h2 p k => ?_⟩
  obtain ⟨z, y, xs, r, o, es, ep, ho, c⟩ := p
  exact ⟨z, y, xs, r, o, es, ep, k o ho, c⟩

def lookD (kvs : List DEnt) (k : DKey) : Option V := (kvs.find? fun x => decide (x.1 = k)).map (·.2.2)
def putD (kvs : List DEnt) (k : DKey) (b : Addr) (v : V) : List DEnt :=
  if (lookD kvs k).isSome then kvs.map (fun x => if x.1 = k then (x.1, x.2.1, v) else x) else kvs ++ [(k, b, v)]

theorem look_rel {kvs : List DEnt} {xs : List (DKey × Addr × Value)} (r : Paired RelE kvs xs) (k : DKey) : RelO (lookD kvs k) ((atKey xs k).map (·.2)) := by
  unfold lookD atKey
  induction r with
  | nil => trivial
  | @cons p q ps qs h t ih =>
    obtain ⟨h1, h2, h3⟩ := h
    rw [List.find?_cons, List.find?_cons, ← h1]
    by_cases e : p.1 = k
    · rw [decide_eq_true e]
      exact h3
    · rw [decide_eq_false e]
      exact ih
theorem put_rel {kvs : List DEnt} {xs : List (DKey × Addr × Value)} (r : Paired RelE kvs xs) (k : DKey) (b : Addr) {v : V} {u : Value} (rv : RelV v u) : Paired RelE (putD kvs k b v) (storedH xs k b u) := by
  have e : (lookD kvs k).isSome = (atKey xs k).isSome := by
    have q := (look_rel r k).isSome_eq
    rwa [Option.isSome_map] at q
  unfold putD storedH
  rw [e]
  by_cases q : (atKey xs k).isSome = true
  · rw [if_pos q, if_pos q]
    clear q e
    induction r with
    | nil => exact .nil
    | @cons p q ps qs h t ih =>
      refine .cons ?_ ih
      obtain ⟨h1, h2, h3⟩ := h
      show RelE (if p.1 = k then _ else _) (putAt k u q)
      unfold putAt
      rw [← h1]
      by_cases e : p.1 = k
      · rw [if_pos e, if_pos e]
        exact ⟨rfl, h2, rv⟩
      · rw [if_neg e, if_neg e]
        exact ⟨h1, h2, h3⟩
  · rw [if_neg q, if_neg q]
    exact Paired.snoc r ⟨rfl, rfl, rv⟩
theorem length_putD (kvs : List DEnt) (k : DKey) (b : Addr) (v : V) : (putD kvs k b v).length ≤ kvs.length + 1 := by
  unfold putD
  split
  · simp
  · simp

/-- the dict at a, its keys in place -/
def DictAt (P : Program) (w : World) (H : Hp) (a : Addr) (kvs : List DEnt) : Prop := H a = some (DdO P w a kvs) ∧ ∀ x ∈ kvs, KeyAt H x.1 x.2.1
theorem DictAt.keeps {P : Program} {w : World} {H H' : Hp} {a : Addr} {kvs : List DEnt} (x : DictAt P w H a kvs) (ha : H' a = H a) (ht : ∀ b ys, H b = some (.tup ys) → H' b = some (.tup ys)) : DictAt P w H' a kvs :=
  ⟨ha.trans x.1, fun e he => (x.2 e he).keeps ht⟩
theorem mem_putD {kvs : List DEnt} {k : DKey} {b : Addr} {v : V} {x : DEnt} (h : x ∈ putD kvs k b v) : (x = (k, b, v)) ∨ ∃ y ∈ kvs, y.1 = x.1 ∧ y.2.1 = x.2.1 := by
  unfold putD at h
  split at h
  · obtain ⟨y, hy, e⟩ := List.mem_map.mp h
    right
    refine ⟨y, hy, ?_⟩
    split at e
    · subst e; exact ⟨rfl, rfl⟩
    · subst e; exact ⟨rfl, rfl⟩
  · rcases List.mem_append.mp h with h | h
    · exact .inr ⟨x, h, rfl, rfl⟩
    · left; simpa using h
theorem DictAt.put {P : Program} {w : World} {H : Hp} {a : Addr} {kvs : List DEnt} (x : DictAt P w H a kvs) {k : DKey} {b : Addr} (hk : KeyAt H k b) (v : V) : DictAt P w (upd H a (DdO P w a (putD kvs k b v))) a (putD kvs k b v) := by
  have ht : ∀ c ys, H c = some (.tup ys) → upd H a (DdO P w a (putD kvs k b v)) c = some (.tup ys) := fun c ys e => by
    rw [upd_ne (ne_of e x.1 (fun z => nomatch z))]; exact e
  refine ⟨upd_same, fun e he => ?_⟩
  rcases mem_putD he with rfl | ⟨y, hy, e1, e2⟩
  · exact hk.keeps ht
  · rw [← e1, ← e2]; exact (x.2 y hy).keeps ht

section
variable {X : Cx} {pins : List (Addr × Obj)} {σ : L2.St} {H : Hp} {s : Shared} {a b : Addr} {kvs : List DEnt} {k : DKey} {v : V} {r : Value} {A : Around} {E : Value → Shared → Prop}
theorem dd_rd (I : Inv X pins σ H s) (g : DictAt X.prog X.w H a kvs) : kvs.length ≤ sizeLine ∧ (a == sysModules) = false ∧ ∃ xs, Paired RelE kvs xs ∧ s.heap.DictOfH (deepK X.prog X.w) a xs := by
  obtain ⟨z, y, xs, rel, o, es, ep, h1, h2, h3, h4, h5⟩ := (show ObjOk X.prog X.w H s.heap a (DdO X.prog X.w a kvs) from I.hok a _ g.1).1
  refine ⟨z, y, xs, rel, o, es, ep, h1, h2, h3, h4, fun x hx => ?_, h5⟩
  have all : ∀ {l : List DEnt} {m : List (DKey × Addr × Value)}, Paired RelE l m → (∀ x ∈ l, KeyAt H x.1 x.2.1) → ∀ x ∈ m, (deepK X.prog X.w).is s.heap x.1 x.2.1 := by
    intro l m q
    induction q with
    | nil => intro _ x hx; exact nomatch hx
    | @cons p q ps qs hq t ih =>
      intro hall x hx
      rcases List.mem_cons.mp hx with e | hx
      · subst e
        have := hall p List.mem_cons_self
        rw [hq.1, hq.2.1] at this
        exact key_is I.hok this
      · exact ih (fun y hy => hall y (List.mem_cons_of_mem _ hy)) x hx
  exact all rel g.2 x hx
theorem dd_in {Q : Value → Shared → Prop} (hu : A.units + 4 < cLine) (I : Inv X pins σ H s) (g : DictAt X.prog X.w H a kvs) (hk : KeyAt H k b) (h : ∀ s', Inv X pins σ H s' → Q (.bool (lookD kvs k).isSome) s') :
    wpAny (model X.prog X.w) A (compareOp .In (.ref b) (.ref a)) Q E s := by
  obtain ⟨z, hd, xs, rel, dd⟩ := dd_rd I g
  refine wpAny_in_heap (knd := deepK X.prog X.w) (by show A.units + 1 + (2 + 1) < cLine; omega) (key_is I.hok hk) hd dd ?_
  have q := (look_rel rel k).isSome_eq
  rw [Option.isSome_map] at q
  rw [← q]
  exact h _ (I.tok _)
theorem dd_notIn {Q : Value → Shared → Prop} (hu : A.units + 4 < cLine) (I : Inv X pins σ H s) (g : DictAt X.prog X.w H a kvs) (hk : KeyAt H k b) (h : ∀ s', Inv X pins σ H s' → Q (.bool (!(lookD kvs k).isSome)) s') :
    wpAny (model X.prog X.w) A (compareOp .NotIn (.ref b) (.ref a)) Q E s := by
  obtain ⟨z, hd, xs, rel, dd⟩ := dd_rd I g
  refine wpAny_notIn_heap (knd := deepK X.prog X.w) (by show A.units + 1 + (2 + 1) < cLine; omega) (key_is I.hok hk) hd dd ?_
  have q := (look_rel rel k).isSome_eq
  rw [Option.isSome_map] at q
  rw [← q]
  exact h _ (I.tok _)
theorem dd_getItem {Q : Value → Shared → Prop} (hu : A.units + 4 < cLine) (I : Inv X pins σ H s) (g : DictAt X.prog X.w H a kvs) (hk : KeyAt H k b) (l : lookD kvs k = some v) (h : ∀ w' s', Inv X pins σ H s' → RelV v w' → Q w' s') :
    wpAny (model X.prog X.w) A (getItem (.ref a) (.ref b)) Q E s := by
  obtain ⟨z, hd, xs, rel, dd⟩ := dd_rd I g
  obtain ⟨w', hw, rw'⟩ := RelO.some_of (v := v) (o := (atKey xs k).map (·.2)) (by rw [← l]; exact look_rel rel k)
  obtain ⟨p, hp, hp2⟩ := Option.map_eq_some_iff.mp hw
  refine wpAny_getItem_heap (knd := deepK X.prog X.w) (by show A.units + 1 + (2 + 1) < cLine; omega) (key_is I.hok hk) dd hp ?_
  rw [hp2]
  exact h w' _ (I.tok _) rw'
theorem dd_setItem {Q : Unit → Shared → Prop} (hu : A.units + 4 < cLine) (I : Inv X pins σ H s) (g : DictAt X.prog X.w H a kvs) (hk : KeyAt H k b) (hl : kvs.length < sizeLine) (rv : RelV v r)
    (h : ∀ s', Inv X pins σ (upd H a (DdO X.prog X.w a (putD kvs k b v))) s' → Q () s') :
    wpAny (model X.prog X.w) A (setItem (.ref a) (.ref b) r) Q E s := by
  obtain ⟨z, hd, xs, rel, dd⟩ := dd_rd I g
  have hz : xs.length ≤ sizeLine := by rw [← Paired.length rel]; exact z
  have hl' : (putD kvs k b v).length ≤ sizeLine := by have := length_putD kvs k b v; omega
  refine wpAny_setItem_heap (knd := deepK X.prog X.w) (hsz := hz) (by show A.units + 1 + (2 + 1) < cLine; omega) (key_is I.hok hk) dd fun h' dd' hs => h _ ?_
  obtain ⟨q, es, ep, hq, h2, h3, h4, _, h5⟩ := dd'
  exact d_write I (by rw [g.1]; exact True.intro) hs ⟨q, hq⟩ (ddO_new ⟨hl', hd, _, put_rel rel k b rv, q, es, ep, hq, h2, h3, h4, h5⟩)
end

/-- looked up in the dict at a by the key at y: r -/
def DGetD (P : Program) (w : World) (H : Hp) (a : Addr) (y : V) (r : Option V) : Prop := ∃ kvs k b, DictAt P w H a kvs ∧ y = .ref b ∧ KeyAt H k b ∧ r = lookD kvs k
def tDDIn (P : Program) (w : World) (ty td : TE) : TE := fun σ H Q => ty σ H fun y H1 => td σ H1 fun x H2 => ∃ a o, x = .ref a ∧ DGetD P w H2 a y o ∧ Q (.bl o.isSome) H2
def tDDNotIn (P : Program) (w : World) (ty td : TE) : TE := fun σ H Q => ty σ H fun y H1 => td σ H1 fun x H2 => ∃ a o, x = .ref a ∧ DGetD P w H2 a y o ∧ Q (.bl (!o.isSome)) H2
def tDDGet (P : Program) (w : World) (td ty : TE) : TE := fun σ H Q => td σ H fun x H1 => ty σ H1 fun y H2 => ∃ a v, x = .ref a ∧ DGetD P w H2 a y (some v) ∧ Q v H2
def sDDPut (P : Program) (w : World) (td ty tv : TE) : TS := fun D σ H => tv σ H fun v H1 => td σ H1 fun x H2 => ty σ H2 fun y H3 => ∃ a b k kvs, x = .ref a ∧ y = .ref b ∧ DictAt P w H3 a kvs ∧ KeyAt H3 k b ∧ kvs.length < sizeLine ∧ D.nx σ (upd H3 a (DdO P w a (putD kvs k b v)))
/-- {}, to be such a dict -/
def tDDNew (P : Program) (w : World) : TE := fun _ H Q => ∀ p, H p = none → Q (.ref p) (upd H p (DdO P w p []))
section
variable {X : Cx} {o i e value : Expr} {pos pos' tpos : Pos} {td ty tv : TE}
theorem pc_ddin (hu : X.A.units + 4 < cLine) (hi : PE X i ty) (ho : PE X o td) : PC X .In i o (tDDIn X.prog X.w ty td) := by
  refine ⟨fun pins s σ H Q I h => ?_⟩
  refine thn (hi.run pins s σ H _ I h) fun iv s1 ⟨y, H1, I1, ry, q1⟩ => thn (ho.run pins s1 σ H1 _ I1 q1) fun u s2 ⟨x, H2, I2, rx, a, ov, ex, ⟨kvs, k, b, g, ey, hk, l⟩, q2⟩ => ?_
  subst ex ey
  obtain rfl : u = Value.ref a := rx
  obtain rfl : iv = Value.ref b := ry
  refine dd_in hu I2 g hk fun s3 I3 => ⟨.bl ov.isSome, H2, I3, ?_, q2⟩
  rw [l]; rfl
theorem pc_ddnotin (hu : X.A.units + 4 < cLine) (hi : PE X i ty) (ho : PE X o td) : PC X .NotIn i o (tDDNotIn X.prog X.w ty td) := by
  refine ⟨fun pins s σ H Q I h => ?_⟩
  refine thn (hi.run pins s σ H _ I h) fun iv s1 ⟨y, H1, I1, ry, q1⟩ => thn (ho.run pins s1 σ H1 _ I1 q1) fun u s2 ⟨x, H2, I2, rx, a, ov, ex, ⟨kvs, k, b, g, ey, hk, l⟩, q2⟩ => ?_
  subst ex ey
  obtain rfl : u = Value.ref a := rx
  obtain rfl : iv = Value.ref b := ry
  refine dd_notIn hu I2 g hk fun s3 I3 => ⟨.bl (!ov.isSome), H2, I3, ?_, q2⟩
  rw [l]; rfl
theorem pe_ddget (hu : X.A.units + 4 < cLine) (ho : PE X o td) (hi : PE X i ty) (hs : NoSl i) : PE X (.Subscript o i pos) (tDDGet X.prog X.w td ty) := by
  refine ⟨fun pins s σ H Q I h => ?_⟩
  refine subD_of PySem.F.slot_dict_getitem.lookup hs (thn (ho.run pins s σ H _ I h) fun u s1 ⟨x, H1, I1, rx, q1⟩ => thn (hi.run pins s1 σ H1 _ I1 q1) fun iv s2 ⟨y, H2, I2, ry, a, v, ex, ⟨kvs, k, b, g, ey, hk, l⟩, q2⟩ => ?_)
  subst ex ey
  obtain rfl : u = Value.ref a := rx
  obtain rfl : iv = Value.ref b := ry
  obtain ⟨_, _, xs, _, dd⟩ := dd_rd I2 g
  exact ⟨dd.typeIs, dd_getItem hu I2 g hk l.symm fun w' s3 I3 rw' => ⟨v, H2, I3, rw', q2⟩⟩
theorem ps_ddput (hu : X.A.units + 4 < cLine) (ho : PE X o td) (hi : PE X i ty) (hv : PE X value tv) (hs : swapsWith value (some (.Subscript o i pos')) pos.line X.env = pure false) :
    PS X (.Assign [.Subscript o i pos'] value pos) (sDDPut X.prog X.w td ty tv) := by
  refine ⟨fun pins s σ H D I h => ?_⟩
  refine wpAny_Assign_Subscript (thn (hv.run pins s σ H _ I h) fun r s1 ⟨v, H1, I1, rv, q1⟩ => thn (ho.run pins s1 σ H1 _ I1 q1) fun u s2 ⟨x, H2, I2, rx, q2⟩ => thn (hi.run pins s2 σ H2 _ I2 q2) fun iv s3 ⟨y, H3, I3, ry, a, b, k, kvs, ex, ey, g, hk, hl, q3⟩ => ?_) hs
  subst ex ey
  obtain rfl : u = Value.ref a := rx
  obtain rfl : iv = Value.ref b := ry
  exact dd_setItem hu I3 g hk hl rv fun s4 I4 => ⟨σ, _, I4, q3⟩
theorem dd_empty {P : Program} {w : World} {H : Hp} (h : Heap) (hb : sysModules < h.objs.size) : ObjOk P w H (h.push { cls := .type "dict", data := .dict #[] }) h.objs.size (DdO P w h.objs.size []) :=
  ddO_new ⟨Nat.zero_le _, beq_eq_false_iff_ne.mpr (Ne.symm (Nat.ne_of_lt hb)), [], .nil, _, #[], 0, Heap.get?_push_size _ rfl, ⟨rfl, rfl, rfl⟩, rfl, rfl, List.nodup_nil⟩
theorem pe_ddnew : PE X (.Dict [] [] pos) (tDDNew X.prog X.w) := ⟨fun pins s σ H Q I h =>
  wpAny_Dict_empty ⟨.ref s.heap.objs.size, _, I.laid (a := s.heap.objs.size) (o := DdO X.prog X.w s.heap.objs.size []) (t' := s.toks) (fun _ _ q => Heap.get?_push_of_some _ q) (Nat.le_refl _) (dd_empty s.heap I.big), rfl, h _ (I.hok.fresh (Nat.le_refl _))⟩⟩
end
end Sh

set_option Elab.async false
set_option linter.all false
set_option maxRecDepth 100000
set_option maxHeartbeats 4000000
namespace Sh
open PySem PySem.Spec PyProof.Rows L2
/-! ### defs, methods, classes with their promises -/
structure OkD (P : Program) (w : World) (K : PySem.W.Frag) (mg : Str → Option Value) (base : Heap) (k : Nat) (x : Str) (ps : List Str) (sp : Sp) (f : Addr) (fd : FuncData) : Prop where
  G : FnOk P w K mg base CX0 k f fd ps sp
  m : mg x = some (.ref f)
  kp : PySem.W.keepIn K (.ref f) = true
  b : Binds K fd ps []
structure OkM (P : Program) (w : World) (K : PySem.W.Frag) (mg : Str → Option Value) (base : Heap) (k : Nat) (C : Addr) (x : Str) (ps : List Str) (sp : Sp) (f : Addr) (fd : FuncData) : Prop where
  G : FnOk P w K mg base CX0 k f fd ps sp
  m : Meth K C x f
  b : Binds K fd ps []
  c : Cls K C
structure OkC (P : Program) (w : World) (K : PySem.W.Frag) (mg : Str → Option Value) (base : Heap) (k : Nat) (C : Addr) (x : Str) (ps : List Str) (sp : Sp) (f : Addr) (fd : FuncData) : Prop where
  G : FnOk P w K mg base CX0 k f fd ps sp
  M : Mk K C f
  g : mg x = some (.ref C)
  b : Binds K fd ps []
section
variable {X : Cx} {k : Nat} {f C : Addr} {fd : FuncData} {ps : List Str} {sp : Sp} {x : Str} {p pos apos : Pos} {e o : Expr} {es : List Expr} {t : TA} {ta : TE}
theorem pe_cd (o : OkD X.prog X.w X.K X.mg X.base k x ps sp f fd) (hr : Room k X.A) (ha : PA X (e :: es) t) (hg : Gl X x := by rfl)
    (hdb : (x == ("__debug__" : Str)) = false := by decide) (he : starEach (e :: es) X.env = (false, eval e X.env) :: starEach es X.env := by rfl) (hpl : (backTo pos (starEach es X.env)).any (·.1) = false := by rfl) :
    PE X (.Call (.Name x p) (e :: es) [] pos) (tCall sp [] E0 t) := pe_call o.G hr hg o.m o.kp o.b .nil pass0 ha hdb he hpl
theorem pe_md {pl : Sem Bool} (he : PE X o ta) (m : OkM X.prog X.w X.K X.mg X.base k C x ps sp f fd) (hr : Room k X.A) (ha : PA X (e :: es) t)
    (hst : starEach (e :: es) X.env = (false, eval e X.env) :: starEach es X.env := by rfl) (hpl : (backTo pos (starEach es X.env)).any (·.1) = false := by rfl)
    (ht : eval (.Call (.Attribute o x apos) (e :: es) [] pos) X.env = (do
      let ov ← eval o X.env
      standAt apos.atName
      let (f, first) ← holding [ov] (getMethod ov x pl)
      callWith pos f first (backTo pos (starEach (e :: es) X.env)) (backToKw pos (keywordEach [] X.env))) := by rfl) :
    PE X (.Call (.Attribute o x apos) (e :: es) [] pos) (tMeth C x sp [] E0 ta t) := pe_meth he m.c m.m m.G hr m.b .nil pass0 ha hst hpl ht
theorem pe_mk (c : OkC X.prog X.w X.K X.mg X.base k C x ps sp f fd) (hr : Room (k + 1) X.A) (ha : PA X (e :: es) t) (hg : Gl X x := by rfl)
    (hdb : (x == ("__debug__" : Str)) = false := by decide) (he : starEach (e :: es) X.env = (false, eval e X.env) :: starEach es X.env := by rfl) (hpl : (backTo pos (starEach es X.env)).any (·.1) = false := by rfl) :
    PE X (.Call (.Name x p) (e :: es) [] pos) (tMake C sp [] E0 t) := pe_make c.M c.G hr hg c.g c.b .nil pass0 ha hdb he hpl
end
/-! ### constants of the top -/
def GI (mg : Str → Option Value) (x : Str) (n : Int) : Prop := ∃ t, mg x = some (.int n t)
theorem pe_gi {X : Cx} {x : Str} {n : Int} {pos : Pos} (h : GI X.mg x n) (hg : Gl X x := by rfl) (hd : (x == ("__debug__" : Str)) = false := by decide) : PE X (.Name x pos) (tC (.int n)) := by
  obtain ⟨t, e⟩ := h
  exact pe_glob hg e ⟨t, rfl⟩ hd
/-- a tuple of the top, of whole numbers -/
structure GT (K : PySem.W.Frag) (mg : Str → Option Value) (x : Str) (a : Addr) (ns : List Int) : Prop where
  m : mg x = some (.ref a)
  s : ∃ (o : Obj) (its : Array Value) (n : Nat), K.lookup a = some o ∧ o.cls = .type "tuple" ∧ o.data = .seq its n ∧ its.size ≤ sizeLine ∧ Vals (ns.map V.int) its.toList
theorem GT.sq {K : PySem.W.Frag} {mg : Str → Option Value} {x : Str} {a : Addr} {ns : List Int} (g : GT K mg x a ns) (H : Hp) : SqT K H a (ns.map V.int) := .inr g.s
theorem pe_gt {X : Cx} {x : Str} {a : Addr} {ns : List Int} {pos : Pos} (h : GT X.K X.mg x a ns) (hg : Gl X x := by rfl) (hd : (x == ("__debug__" : Str)) = false := by decide) : PE X (.Name x pos) (tC (.ref a)) := pe_glob hg h.m rfl hd
/-! ### a def handed on -/
theorem pe_gd {X : Cx} {k : Nat} {f : Addr} {fd : FuncData} {ps : List Str} {sp : Sp} {x : Str} {pos : Pos} (o : OkD X.prog X.w X.K X.mg X.base k x ps sp f fd) (hg : Gl X x := by rfl) (hd : (x == ("__debug__" : Str)) = false := by decide) : PE X (.Name x pos) (tC (.ref f)) := pe_glob hg o.m rfl hd
theorem ip_of {X : Cx} {op : Operator} {r : R2} (h : OpR X (inplaceOp op) r) : PIp X op r := h
/-! ### heaps -/
theorem same_new {H : Hp} {p : Addr} (h : H p = none) (o : HO) : Same H (upd H p o) := fun b u q => by rw [upd_ne (ne_of_none q h)]; exact q
theorem Same.tup {K : PySem.W.Frag} {H H' : Hp} {a : Addr} {xs : List V} (e : Same H H') (h : SqT K H a xs) : SqT K H' a xs := by
  rcases h with (h | ⟨o, h⟩) | h
  · exact .inl (.inl (e _ _ h))
  · exact .inl (.inr ⟨o, e _ _ h⟩)
  · exact .inr h
theorem if_true_of {c : Bool} {A B : Prop} (hc : c = true) (h : A) : if c = true then A else B := by rw [if_pos hc]; exact h
theorem if_false_of {c : Bool} {A B : Prop} (hc : c = false) (h : B) : if c = true then A else B := by rw [hc, if_neg Bool.false_ne_true]; exact h
end Sh

set_option Elab.async false
set_option linter.all false
set_option maxRecDepth 100000
set_option maxHeartbeats 4000000
namespace Sh
open PySem PySem.Spec PyProof.Rows L2
theorem go_nx {D : Ends} {σ : L2.St} {H : Hp} (h : D.nx σ H) : tNext D σ H := h
theorem go_seq {t u : TS} {D : Ends} {σ : L2.St} {H : Hp} (h : t { D with nx := u D } σ H) : tSeq t u D σ H := h
theorem go_fld {K : PySem.W.Frag} {ta tv : TE} {f : Str} {D : Ends} {σ : L2.St} {H : Hp} (h : tv σ H fun y H1 => ta σ H1 fun x H2 => ∃ a C dx fs, x = .ref a ∧ H2 a = some (.ins C dx fs) ∧ Cls K C ∧ NoAttr K C f ∧ fs.length < 1000 ∧ D.nx σ (upd H2 a (.ins C dx (putF f y fs)))) : sFld K ta tv f D σ H := h
theorem go_cons {te : TE} {t : TA} {σ : L2.St} {H : Hp} {Q : List V → Hp → Prop} (h : te σ H fun x H1 => t σ H1 fun xs H2 => Q (x :: xs) H2) : tCons te t σ H Q := h
theorem go_tc {v : V} {σ : L2.St} {H : Hp} {Q : VK} (h : Q v H) : tC v σ H Q := h
theorem go_cb {r : List V → Hp → VK → Prop} {te : TE} {σ : L2.St} {H : Hp} {Q : VK} (h : te σ H fun x H1 => r [x] H1 Q) : tCB r (tCons te tNil) σ H Q := h
theorem go_asg {te : TE} {g : TG} {D : Ends} {σ : L2.St} {H : Hp} (h : te σ H fun x H1 => g x σ H1 D.nx) : tAsg te g D σ H := h
/-- what is related stays so where nothing but a list changes -/
def Firm {α : Type} (R : α → V → Hp → Prop) : Prop := ∀ x y D acc H1 H2, H1 D = some (.lst acc) → (∀ b o, b ≠ D → H1 b = some o → H2 b = some o) → R x y H1 → R x y H2
theorem Firm.eq {α : Type} (f : α → V) : Firm fun x y _ => y = f x := fun _ _ _ _ _ _ _ _ h => h
theorem take_one {α : Type} {l : List α} {i : Nat} {x : α} (h : l[i]? = some x) : l.take (i + 1) = l.take i ++ [x] := by
  rw [List.take_add_one, h]; rfl
section
variable {α : Type} {K : PySem.W.Frag} {a : Addr} {i : Nat} {tt : TT} {te : TE} {σ : L2.St} {H : Hp} {Q : VK} {l : List α} {g : α → V} {p : α → Bool} {R : α → V → Hp → Prop}
/-- the test and the element of a comprehension; the walked values are those of l by g -/
structure CompOk (i : Nat) (tt : TT) (te : TE) (σ : L2.St) (H : Hp) (l : List α) (g : α → V) (p : α → Bool) (R : α → V → Hp → Prop) : Prop where
  firm : Firm R
  few : l.length < 100000
  test : ∀ x ∈ l, ∀ H', Same H H' → ∀ k : Bool → Hp → Prop, (∀ H'', Same H' H'' → k (p x) H'') → tt ((wipe σ [i]).set i (some (g x))) H' k
  elt : ∀ x ∈ l, p x = true → ∀ H', Same H H' → ∀ k : VK, (∀ y H'', Same H' H'' → R x y H'' → k y H'') → te ((wipe σ [i]).set i (some (g x))) H' k
theorem wipe_one (σ : L2.St) (i : Nat) (v : Option V) : wipe (((wipe σ [i]).set i v)) [i] = wipe σ [i] := by
  show (((σ.set i none).set i v).set i none) = σ.set i none
  rw [List.set_set, List.set_set]
def CompInv (H : Hp) (D : Addr) (l : List α) (p : α → Bool) (R : α → V → Hp → Prop) (j : Nat) (H' : Hp) : Prop :=
  Same H H' ∧ ∃ ys, H' D = some (.lst ys) ∧ ys.length ≤ j ∧ Paired (fun x y => R x y H') ((l.take j).filter p) ys
theorem comp_turn (ok : CompOk i tt te σ H l g p R) {D : Addr} (hD : H D = none) (j : Nat) (v : V) (H' : Hp) (hv : (l.map g)[j]? = some v) (inv : CompInv H D l p R j H') :
    gName i v (wipe σ [i]) H' fun σ2 H2 => wipe σ2 [i] = wipe σ [i] ∧ tt σ2 H2 fun b H3 =>
      if b = true then te σ2 H3 fun y H4 => ∃ acc, H4 D = some (.lst acc) ∧ acc.length < sizeLine ∧ CompInv H D l p R (j + 1) (upd H4 D (.lst (acc ++ [y]))) else CompInv H D l p R (j + 1) H3 := by
  obtain ⟨e, ys, hy, hl, pr⟩ := inv
  rw [List.getElem?_map] at hv
  obtain ⟨x, hj, rfl⟩ := Option.map_eq_some_iff.mp hv
  have hjl : j < l.length := (List.getElem?_eq_some_iff.mp hj).1
  have hm : x ∈ l := List.mem_of_getElem? hj
  refine ⟨wipe_one σ i _, ok.test x hm H' e _ fun H3 e3 => ?_⟩
  have pr3 : Paired (fun x y => R x y H3) ((l.take j).filter p) ys := Paired.mapP pr fun u v r => ok.firm u v D ys H' H3 hy (fun b o _ q => e3 b o q) r
  have hy3 := e3 _ _ hy
  cases hp : p x with
  | true =>
    refine ok.elt x hm hp H3 (e.trans e3) _ fun y H4 e4 r => ?_
    have hy4 := e4 _ _ hy3
    have far : ∀ b o, b ≠ D → H4 b = some o → upd H4 D (.lst (ys ++ [y])) b = some o := fun b o hb q => by rw [upd_ne hb]; exact q
    refine ⟨ys, hy4, Nat.lt_of_lt_of_le (show ys.length < 100000 by have := ok.few; omega) (by decide), fun b o q => ?_, ys ++ [y], upd_same, by simp; omega, ?_⟩
    · exact far b o (ne_of_none q hD) (e4 _ _ (e3 _ _ (e b o q)))
    · rw [take_one hj, List.filter_append]
      have e1 : [x].filter p = [x] := by simp [hp]
      rw [e1]
      refine Paired.snoc (Paired.mapP pr3 fun u v q => ok.firm u v D ys H3 _ hy3 (fun b o hb z => far b o hb (e4 _ _ z)) q) ?_
      exact ok.firm x y D ys H4 _ hy4 far r
  | false =>
    refine ⟨e.trans e3, ys, hy3, by omega, ?_⟩
    rw [take_one hj, List.filter_append]
    have e1 : [x].filter p = [] := by simp [hp]
    rw [e1, List.append_nil]
    exact pr3
theorem comp_list {tl : TE} (hS : SqL K H a (l.map g)) (htl : tl σ H fun x H1 => x = .ref a ∧ H1 = H) (mono : ∀ (k1 k2 : VK), (∀ v H', k1 v H' → k2 v H') → tl σ H k1 → tl σ H k2) (ok : CompOk i tt te σ H l g p R)
    (hq : ∀ D ys H', Same H H' → H D = none → H' D = some (.lst ys) → Paired (fun x y => R x y H') (l.filter p) ys → Q (.ref D) H') :
    tLc (iList K tl) (gName i) tt te [i] σ H Q := by
  refine mono _ _ ?_ htl
  rintro v H' ⟨rfl, rfl⟩
  refine ⟨a, rfl, ⟨_, hS⟩, fun D hD => lc_list (K := K) (a := a) (xs := l.map g) (CompInv H' D l p R) ⟨same_new hD _, [], upd_same, Nat.zero_le _, by simpa using Paired.nil⟩ (fun j H1 _ z => z.1.seq hS) (fun j x H1 hj z => comp_turn ok hD j x H1 hj z) fun H1 z => ?_⟩
  obtain ⟨e, ys, hy, _, pr⟩ := z
  rw [List.length_map, List.take_length] at pr
  exact hq D ys H1 e hD hy pr
theorem comp_tup {tl : TE} (hS : SqT K H a (l.map g)) (htl : tl σ H fun x H1 => x = .ref a ∧ H1 = H) (mono : ∀ (k1 k2 : VK), (∀ v H', k1 v H' → k2 v H') → tl σ H k1 → tl σ H k2) (ok : CompOk i tt te σ H l g p R)
    (hq : ∀ D ys H', Same H H' → H D = none → H' D = some (.lst ys) → Paired (fun x y => R x y H') (l.filter p) ys → Q (.ref D) H') :
    tLc (iTup K tl) (gName i) tt te [i] σ H Q := by
  refine mono _ _ ?_ htl
  rintro v H' ⟨rfl, rfl⟩
  refine ⟨a, rfl, ⟨_, hS⟩, fun D hD => lc_tup (K := K) (a := a) (xs := l.map g) (CompInv H' D l p R) ⟨same_new hD _, [], upd_same, Nat.zero_le _, by simpa using Paired.nil⟩ (fun j H1 _ z => Same.tup z.1 hS) (fun j x H1 hj z => comp_turn ok hD j x H1 hj z) fun H1 z => ?_⟩
  obtain ⟨e, ys, hy, _, pr⟩ := z
  rw [List.length_map, List.take_length] at pr
  exact hq D ys H1 e hD hy pr
theorem mono_var {j : Nat} : ∀ (k1 k2 : VK), (∀ v H', k1 v H' → k2 v H') → tVar j σ H k1 → tVar j σ H k2 := fun k1 k2 h ⟨v, e, q⟩ => ⟨v, e, h _ _ q⟩
theorem mono_fld {ta : TE} {f : Str} (m : ∀ (k1 k2 : VK), (∀ v H', k1 v H' → k2 v H') → ta σ H k1 → ta σ H k2) : ∀ (k1 k2 : VK), (∀ v H', k1 v H' → k2 v H') → tFld K ta f σ H k1 → tFld K ta f σ H k2 := fun k1 k2 h q =>
  m _ _ (fun v H' ⟨a, C, dx, fs, v1, e1, e2, e3, e4, e5, q⟩ => ⟨a, C, dx, fs, v1, e1, e2, e3, e4, e5, h _ _ q⟩) q
end
theorem paired_map {α : Type} {f : α → V} : ∀ {xs : List α} {ys : List V}, Paired (fun x y => y = f x) xs ys → ys = xs.map f
  | _, _, .nil => rfl
  | _, _, .cons h t => by rw [h, paired_map t]; rfl
end Sh

set_option Elab.async false
set_option linter.all false
set_option maxRecDepth 100000
set_option maxHeartbeats 4000000
namespace Sh
open PySem PySem.Spec PyProof.Rows L2
/-! ### attributes by place -/
def fIx (f : Str) : List Str → Option Nat
  | [] => none
  | g :: r => if g = f then some 0 else (fIx f r).map (· + 1)
theorem look_at {f : Str} : ∀ {names : List Str} {vals : List V} {i : Nat} {v : V}, fIx f names = some i → vals[i]? = some v → (names.zip vals).lookup f = some v
  | [], _, _, _, h, _ => by cases h
  | g :: r, [], i, v, _, hv => by simp at hv
  | g :: r, x :: vals, i, v, h, hv => by
    unfold fIx at h
    rw [List.zip_cons_cons, List.lookup_cons]
    by_cases e : g = f
    · rw [if_pos e] at h
      have e' : (f == g) = true := by rw [e]; exact beq_self_eq_true f
      rw [e']
      have h0 : i = 0 := (Option.some.inj h).symm
      subst h0
      simpa using hv
    · rw [if_neg e] at h
      have e' : (f == g) = false := beq_eq_false_iff_ne.mpr fun z => e z.symm
      rw [e']
      obtain ⟨j, hj, rfl⟩ := Option.map_eq_some_iff.mp h
      exact look_at hj (by simpa using hv)
theorem look_no {f : Str} : ∀ {names : List Str} {vals : List V}, fIx f names = none → (names.zip vals).lookup f = none
  | [], _, _ => rfl
  | g :: r, [], _ => rfl
  | g :: r, x :: vals, h => by
    unfold fIx at h
    by_cases e : g = f
    · rw [if_pos e] at h; cases h
    · rw [if_neg e] at h
      rw [List.zip_cons_cons, List.lookup_cons]
      have e' : (f == g) = false := beq_eq_false_iff_ne.mpr fun z => e z.symm
      rw [e']
      exact look_no (Option.map_eq_none_iff.mp h)
theorem put_at {f : Str} {v : V} : ∀ {names : List Str} {vals : List V} {i : Nat}, fIx f names = some i → i < vals.length → putF f v (names.zip vals) = names.zip (vals.set i v)
  | [], _, _, h, _ => by cases h
  | g :: r, [], i, _, hv => by simp at hv
  | g :: r, x :: vals, i, h, hv => by
    unfold fIx at h
    rw [List.zip_cons_cons]
    unfold putF
    by_cases e : g = f
    · rw [if_pos e] at h
      rw [if_pos e]
      have h0 : i = 0 := (Option.some.inj h).symm
      subst h0
      rfl
    · rw [if_neg e] at h
      rw [if_neg e]
      obtain ⟨j, hj, rfl⟩ := Option.map_eq_some_iff.mp h
      rw [put_at hj (by simpa using hv)]
      rfl
theorem put_new {f : Str} {v : V} : ∀ {names : List Str} {vals : List V}, fIx f names = none → names.length = vals.length → putF f v (names.zip vals) = (names ++ [f]).zip (vals ++ [v])
  | [], [], _, _ => rfl
  | g :: r, x :: vals, h, hl => by
    unfold fIx at h
    by_cases e : g = f
    · rw [if_pos e] at h; cases h
    · rw [if_neg e] at h
      rw [List.zip_cons_cons]
      unfold putF
      rw [if_neg e, put_new (Option.map_eq_none_iff.mp h) (by simpa using hl)]
      rfl
/-! ### reading and storing -/
def FldOk (K : PySem.W.Frag) (H : Hp) (p : Addr) (f : Str) (v : V) : Prop := ∃ C dx fs, H p = some (.ins C dx fs) ∧ Cls K C ∧ NoAttr K C f ∧ fs.lookup f = some v
theorem FldOk.to {K : PySem.W.Frag} {H : Hp} {p : Addr} {f : Str} {v : V} {R : V → Prop} (h : FldOk K H p f v) (q : R v) : ∃ a C dx fs v', V.ref p = .ref a ∧ H a = some (.ins C dx fs) ∧ Cls K C ∧ NoAttr K C f ∧ fs.lookup f = some v' ∧ R v' := by
  obtain ⟨C, dx, fs, h1, h2, h3, h4⟩ := h
  exact ⟨p, C, dx, fs, v, rfl, h1, h2, h3, h4, q⟩
theorem FldOk.same {K : PySem.W.Frag} {H H' : Hp} {p : Addr} {f : Str} {v : V} (e : Same H H') (h : FldOk K H p f v) : FldOk K H' p f v := by
  obtain ⟨C, dx, fs, h1, h⟩ := h
  exact ⟨C, dx, fs, e _ _ h1, h⟩
/-- an instance whose attributes are these, in this order -/
def InsAt (C : Addr) (names : List Str) (H : Hp) (p : Addr) (vals : List V) : Prop := ∃ dx, H p = some (.ins C dx (names.zip vals))
theorem InsAt.same {C : Addr} {names : List Str} {H H' : Hp} {p : Addr} {vals : List V} (e : Same H H') (h : InsAt C names H p vals) : InsAt C names H' p vals := by
  obtain ⟨dx, h⟩ := h; exact ⟨dx, e _ _ h⟩
theorem InsAt.fld {K : PySem.W.Frag} {C : Addr} {names : List Str} {H : Hp} {p : Addr} {vals : List V} {f : Str} {i : Nat} {v : V} (h : InsAt C names H p vals) (c : Cls K C) (n : NoAttr K C f) (hi : fIx f names = some i) (hv : vals[i]? = some v) : FldOk K H p f v := by
  obtain ⟨dx, h⟩ := h; exact ⟨C, dx, _, h, c, n, look_at hi hv⟩
theorem InsAt.put {C : Addr} {names : List Str} {H : Hp} {p : Addr} {vals : List V} (h : InsAt C names H p vals) : InsAt C names (upd H p (.ins C h.choose (names.zip vals))) p vals := ⟨_, upd_same⟩
end Sh

set_option Elab.async false
set_option linter.all false
set_option maxRecDepth 100000
set_option maxHeartbeats 4000000
namespace Sh
open PySem PySem.Spec PyProof.Rows L2 LamX NdefX
/-! ### a cell of a running frame, seen by those whom it calls -/
abbrev cellO (o : Obj) : HO := .frz o (.ext fun _ => True)
def drop (c : Addr) (H : Hp) : Hp := fun b => if b = c then none else H b
section
variable {P : Program} {w : World} {K : PySem.W.Frag} {mg : Str → Option Value} {base : Heap} {H : Hp} {h : Heap} {b c : Addr} {o : Obj} {u0 : HO}
theorem drop_at : drop c H c = none := by unfold drop; rw [if_pos rfl]
theorem drop_ne (hb : b ≠ c) : drop c H b = H b := by unfold drop; rw [if_neg hb]
theorem drop_upd (hc : H c = none) : drop c (upd H c u0) = H := by
  funext b
  by_cases hb : b = c
  · rw [hb, drop_at, hc]
  · rw [drop_ne hb, upd_ne hb]
theorem upd_drop (hc : H c = some u0) : upd (drop c H) c u0 = H := by
  funext b
  by_cases hb : b = c
  · rw [hb, upd_same, hc]
  · rw [upd_ne hb, drop_ne hb]
theorem hok_drop (ok : HOk P w H h) (hc : H c = some (cellO o)) : HOk P w (drop c H) h := fun a u e => by
  have ha : a ≠ c := fun z => by rw [z, drop_at] at e; cases e
  rw [drop_ne ha] at e
  exact (ok a u e).stay (fun _ _ _ q => q) (fun b q => by rw [drop_ne (ne_of q hc (fun z => nomatch z))]; exact q) fun b xs q => by rw [drop_ne (ne_of q hc (fun z => nomatch z))]; exact q
theorem hok_trk (ok : HOk P w H h) (hc : H c = none) (ho : h.get? c = some o) : HOk P w (upd H c (cellO o)) h := fun a u e => by
  by_cases ha : a = c
  · subst ha
    rw [upd_same] at e
    cases e
    exact ⟨ho, trivial, ⟨o, ho⟩, fun _ _ _ _ => trivial⟩
  · rw [upd_ne ha] at e
    exact (ok a u e).stay (fun _ _ _ q => q) (fun b q => by rw [upd_ne (ne_of_none q hc)]; exact q) fun b xs q => by rw [upd_ne (ne_of_none q hc)]; exact q
section
variable {A : Around} {outer : List Env} {s s' : Shared} {Q Q' : VK} {u : Value}
theorem env0_trk (e : Env0 P w K mg base A outer s H) (hc : H c = none) (ho : s.heap.get? c = some o) (hb : base.get? c = none) (nf : c ∉ frs outer) : Env0 P w K mg base A outer s (upd H c (cellO o)) :=
  ⟨e.frames, e.mod, fun b ob z => ⟨(e.bs b ob z).1, by rw [upd_ne (fun y => by rw [y, hb] at z; cases z)]; exact (e.bs b ob z).2⟩, e.bsz, e.funs, fun b z => by rw [upd_ne (fun y => nf (by rw [← y]; exact z))]; exact e.frf b z, hok_trk e.hok hc ho, e.bare⟩
theorem env0_drop (e : Env0 P w K mg base A outer s H) (hc : H c = some (cellO o)) : Env0 P w K mg base A outer s (drop c H) := by
  refine ⟨e.frames, e.mod, fun b ob z => ⟨(e.bs b ob z).1, ?_⟩, e.bsz, e.funs, fun b z => ?_, hok_drop e.hok hc, e.bare⟩
  · by_cases y : b = c
    · rw [y, drop_at]
    · rw [drop_ne y]; exact (e.bs b ob z).2
  · by_cases y : b = c
    · rw [y, drop_at]
    · rw [drop_ne y]; exact e.frf b z
theorem ce_drop (h : CE outer P w (upd H c (cellO o)) s Q' u s') (hc : H c = none) (ho : s.heap.get? c = some o) (hq : ∀ v H', H' c = some (cellO o) → Q' v H' → Q v (drop c H')) : CE outer P w H s Q u s' := by
  obtain ⟨v, H2, e1, e2, un, ok, r, q⟩ := h
  have hc' : H2 c = some (cellO o) := un.frzs c o _ upd_same
  have hoc : s'.heap.get? c = some o := (ok c _ hc').1
  have up : ∀ b u, H b = some u → upd H c (cellO o) b = some u := fun b u z => by rw [upd_ne (ne_of_none z hc)]; exact z
  have dn : ∀ b, b ≠ c → H b = none → upd H c (cellO o) b = none := fun b y z => by rw [upd_ne y]; exact z
  have cc : ∀ ob, s.heap.get? c = some ob → ob = o := fun ob z => Option.some.inj (z.symm.trans ho)
  refine ⟨v, drop c H2, e1, e2, ⟨fun b ob e n h1 h2 => ?_, fun b ob e n h1 h2 => ?_, fun b ob e n h2 => ?_, fun b ob e h2 => un.there b ob e h2, fun b xs e => ?_, fun b ob x e => ?_, fun b ps e => ?_⟩, hok_drop ok hc', r, hq v H2 hc' q⟩
  · by_cases y : b = c
    · subst y; rw [cc ob e]; exact hoc
    · exact un.keep b ob e (dn b y n) h1 h2
  · by_cases y : b = c
    · subst y; rw [cc ob e]; exact ⟨o.slots, hoc⟩
    · exact un.slot b ob e (dn b y n) h1 h2
  · by_cases y : b = c
    · rw [y, drop_at]
    · rw [drop_ne y]; exact un.free b ob e (dn b y n) h2
  · rw [drop_ne (ne_of_none e hc)]; exact un.tups b xs (up b _ e)
  · rw [drop_ne (ne_of_none e hc)]; exact un.frzs b ob x (up b _ e)
  · rw [drop_ne (ne_of_none e hc)]; exact un.tbls b ps (up b _ e)
theorem ce_trk (h : CE outer P w (drop c H) s Q' u s') (hc : H c = some (cellO o)) (ho : s.heap.get? c = some o) (nf : c ∉ frs outer) (hq : ∀ v H', H' c = none → Q' v H' → Q v (upd H' c (cellO o))) : CE outer P w H s Q u s' := by
  obtain ⟨v, H2, e1, e2, un, ok, r, q⟩ := h
  have hoc : s'.heap.get? c = some o := un.keep c o ho drop_at nf (by simp)
  have hn : H2 c = none := un.free c o ho drop_at (by simp)
  have dn : ∀ b, H b = none → b ≠ c ∧ drop c H b = none := fun b z => by
    have y : b ≠ c := fun y => by rw [y, hc] at z; cases z
    exact ⟨y, by rw [drop_ne y]; exact z⟩
  refine ⟨v, upd H2 c (cellO o), e1, e2, ⟨fun b ob e n h1 h2 => un.keep b ob e (dn b n).2 h1 h2, fun b ob e n h1 h2 => un.slot b ob e (dn b n).2 h1 h2, fun b ob e n h2 => ?_, fun b ob e h2 => un.there b ob e h2, fun b xs e => ?_, fun b ob x e => ?_, fun b ps e => ?_⟩, hok_trk ok hn hoc, r, hq v H2 hn q⟩
  · rw [upd_ne (dn b n).1]; exact un.free b ob e (dn b n).2 h2
  · have y : b ≠ c := ne_of e hc (fun z => nomatch z)
    rw [upd_ne y]; exact un.tups b xs (by rw [drop_ne y]; exact e)
  · by_cases y : b = c
    · subst y
      rw [hc] at e
      rw [upd_same, e]
    · rw [upd_ne y]; exact un.frzs b ob x (by rw [drop_ne y]; exact e)
  · have y : b ≠ c := ne_of e hc (fun z => nomatch z)
    rw [upd_ne y]; exact un.tbls b ps (by rw [drop_ne y]; exact e)
end
end
/-! ### what is called by a local name: a def or a lambda -/
structure RuleOk (P : Program) (w : World) (K : PySem.W.Frag) (mg : Str → Option Value) (base : Heap) (k : Nat) (f : Addr) (G : Hp → Prop) (sp : Sp) : Prop where
  at_ : ∀ {A : Around} {outer : List Env} {s : Shared} {H : Hp}, Env0 P w K mg base A outer s H → G H → PySem.W.FnAt f s.heap
  run : ∀ {A : Around} {outer : List Env} {s : Shared} {H : Hp} {us : List Value} {vs : List V} {Q : VK}, Room k A → Env0 P w K mg base A outer s H → G H → Vals vs us → sp vs H Q E0 → codeAny (model P w) A (.call (.ref f) ⟨us, []⟩) (CR CX0 outer P w H s Q E0) s
  st : ∀ {H H' : Hp}, (∀ b u, H b = some u → (∀ C dx fs, u ≠ .ins C dx fs) → H' b = some u) → G H → G H'
theorem rule_def {P : Program} {w : World} {K : PySem.W.Frag} {mg : Str → Option Value} {base : Heap} {j k : Nat} {x qual : Str} {st : Stmt} {ps : List Str} {sp : Sp} {f : Addr} {fd : FuncData} (F : Fun K x qual st f fd) (o : OkD P w K mg base j x ps sp f fd) (hj : j ≤ k) : RuleOk P w K mg base k f (fun _ => True) sp := by
  have kin : ∀ {A : Around} {outer : List Env} {s : Shared} {H : Hp}, Env0 P w K mg base A outer s H → K.In s.heap := fun e => e.mod.kin.keeps fun b ob z => (e.bs b ob z).1
  refine ⟨fun e _ => ?_, fun hr e _ r q => ?_, fun _ _ => trivial⟩
  · obtain ⟨oc, od, kV, doc, pm, an, cdv, ct, osl, _, lk, _⟩ := F.ex
    exact ⟨oc, od, _, osl, kin e f _ lk⟩
  · have hl := o.G.len _ _ _ _ q
    have b := o.b _ _ (kin e) (show (_ ++ []).length = ps.length by rw [List.append_nil, ← r.length]; exact hl)
    rw [List.append_nil] at b
    exact o.G.run _ _ _ _ _ _ _ _ _ (hr.mono hj) e b r q
def tCallR (i : Nat) (f : Addr) (G : Hp → Prop) (sp : Sp) (t : TA) : TE := fun σ H Q => σ[i]? = some (some (.ref f)) ∧ G H ∧ t σ H fun vs H1 => G H1 ∧ sp vs H1 Q E0
section
variable {X : Cx} {k i : Nat} {f : Addr} {G : Hp → Prop} {sp : Sp} {x : Str} {p pos : Pos} {e : Expr} {es : List Expr} {t : TA}
theorem pe_callR (R : RuleOk X.prog X.w X.K X.mg X.base k f G sp) (hr : Room k X.A) (hN : X.N[i]? = some x) (hv : Vis X.env.scope x) (ha : PA X (e :: es) t) (hdb : (x == ("__debug__" : Str)) = false := by decide) (hcd : (x == ("__classdict__" : Str)) = false := by decide)
    (he : starEach (e :: es) X.env = (false, eval e X.env) :: starEach es X.env := by rfl) (hpl : (backTo pos (starEach es X.env)).any (·.1) = false := by rfl) : PE X (.Call (.Name x p) (e :: es) [] pos) (tCallR i f G sp t) := by
  refine ⟨fun pins s σ H Q I ⟨hs, hG, ht⟩ => ?_⟩
  refine wpAny_Call_Name_kw (thn ((pe_var (pos := p) hN hv hdb hcd).run pins s σ H (fun v H1 => v = .ref f ∧ H1 = H) I ⟨_, hs, rfl, rfl⟩) fun u s1 ⟨v, H1, I1, r1, ev, eH⟩ => ?_)
  subst ev eH
  obtain rfl : u = Value.ref f := r1
  refine PySem.W.callWith_F (first := []) (R.at_ I1.env0 hG) (thn (ha.run pos pins s1 σ H1 _ I1 ht) fun us s2 ⟨vs, H2, I2, r, g2, q⟩ => ⟨R.at_ I2.env0 g2, ?_⟩) he hpl
  show wpAny _ _ (call (.ref f) us) _ _ _
  refine wpAny_call (codeAny_mono (R.run hr I2.env0 g2 r q) fun res s3 hq => ?_)
  match res, hq with
  | .ok (.ret u), hq => exact I2.after hq
end
/-! ### a lambda -/
structure LF where
  qual : Str
  params : Arguments
  body : Expr
  scope : Scope
  cl : List (Str × Addr)
  c : Addr
abbrev LF.nf (F : LF) : NF := ⟨"<lambda>", F.qual, F.params, [], F.scope, F.cl, F.c⟩
abbrev LF.fd (F : LF) (pm ctv : Value) : FuncData := PySem.W.kla_fn "<lambda>" F.qual F.params F.body F.scope F.cl pm (.ref F.c) ctv
def LamO (f : Addr) (F : LF) : HO := .ext fun h => ∃ (od : Option Addr) (sl : Array (Option Value)) (pm ctv : Value), h.get? f = some (⟨.type "function", od, .func (F.fd pm ctv), sl⟩ : Obj)
theorem lamO_new {P : Program} {w : World} {H : Hp} {h : Heap} {f : Addr} {F : LF} {pm ctv : Value} (e : h.get? f = some ({ cls := .type "function", data := .func (F.fd pm ctv) } : Obj)) : ObjOk P w H h f (LamO f F) :=
  ⟨⟨_, _, pm, ctv, e⟩, ⟨_, e⟩, fun _ _ ⟨od, sl, p, t, z⟩ st => ⟨od, sl, p, t, st _ z⟩⟩
section
variable {X : Cx} {pins : List (Addr × Obj)} {σ : L2.St} {H : Hp} {s : Shared}
theorem inv_lam {F : LF} {pm ctv : Value} {h' : Heap} {t' : Nat} (I : Inv X pins σ H { s with heap := h', toks := t' }) :
    Inv X pins σ (upd H h'.objs.size (LamO h'.objs.size F)) { s with heap := h'.push { cls := .type "function", data := .func (F.fd pm ctv) }, toks := t' } :=
  I.laid (a := h'.objs.size) (fun _ _ e => Heap.get?_push_of_some _ e) (Nat.le_refl _) (lamO_new (Heap.get?_push_size _ rfl))
/-- the table at P has one more, at c' -/
theorem tabs_more {T : List (Addr × Str)} {H1 : Hp} {P k : Addr} {n : Str} {ps : Array Value} {pos : Pos} (hT : Tabs T H) (one : ∀ p ∈ T, p.1 = P → p.2 = n) (tri : TriplesOk ps.toList) (old : ∀ p cv, codeAmong p ps.toList = some cv → ∃ b, cv = .ref b ∧ H b = some (CodeO b n))
    (eN : ExtN H H1) (far : ∀ b qs, b ≠ P → H b = some (.tbl qs) → H1 b = some (.tbl qs)) (h1 : H1 P = some (.tbl (ps ++ #[rawInt pos.line, rawInt pos.col, .ref k]))) (h2 : H1 k = some (CodeO k n)) : Tabs T H1 := by
  have up : ∀ {b : Addr} {m : Str}, H b = some (CodeO b m) → H1 b = some (CodeO b m) := fun z => eN _ _ z codeO_ne
  have eq : (ps ++ #[rawInt pos.line, rawInt pos.col, .ref k]).toList = ps.toList ++ [rawInt pos.line, rawInt pos.col, .ref k] := by simp
  intro p hp
  by_cases e : p.1 = P
  · rw [one p hp e, e]
    refine ⟨_, h1, eq ▸ PySem.TriplesOk_snoc _ _ _ _ tri, fun p' cv z => ?_⟩
    rcases among_app _ tri (eq ▸ z) with z | rfl
    · obtain ⟨b, rfl, y⟩ := old p' cv z
      exact ⟨b, rfl, up y⟩
    · exact ⟨k, rfl, h2⟩
  · obtain ⟨qs, y1, y2, y3⟩ := hT p hp
    exact ⟨qs, far _ _ e y1, y2, fun p' cv z => (y3 p' cv z).imp fun _ y => ⟨y.1, up y.2⟩⟩
/-- a lambda is made, and tracked from then on -/
theorem lam_mk {T : List (Addr × Str)} {c P : Addr} {params : Arguments} {body : Expr} {scope : Scope} {pos : Pos} {E : Value → Shared → Prop} {Q : Value → Shared → Prop} (I : Inv X pins σ H s) (TB : TabB X.base X.mg c P) (own : X.env.code = .ref c) (mem : (P, X.env.qual ++ "<lambda>") ∈ T) (one : ∀ p ∈ T, p.1 = P → p.2 = X.env.qual ++ "<lambda>")
    (hT : Tabs T H) (plain : defaultsOf params X.env = ([], [])) (has : ∀ y ∈ scope.names, y.2 = .free → ∃ c, X.env.cells.lookup y.1 = some c)
    (h : ∀ (f k : Addr) (H1 : Hp) (s' : Shared), Inv X pins σ H1 s' → ExtN H H1 → Tabs T H1 → H f = none → H1 f = some (LamO f ⟨X.env.qual ++ "<lambda>", params, body, scope, cloFrom X.env.cells scope.names [], k⟩) → H1 k = some (CodeO k (X.env.qual ++ "<lambda>")) → Q (.ref f) s') : wpAny (model X.prog X.w) X.A (eval (.Lambda params body scope pos) X.env) Q E s := by
  -- once its code object is there
  have fin : ∀ (H1 : Hp) (k : Addr) (h' : Heap) (tk : Nat) (pm ctv : Value), Inv X pins σ H1 { s with heap := h', toks := tk } → ExtN H H1 → Tabs T H1 → H1 k = some (CodeO k (X.env.qual ++ "<lambda>")) → s.heap.objs.size ≤ h'.objs.size →
      Q (.ref h'.objs.size) { s with heap := h'.push { cls := .type "function", data := .func ((⟨X.env.qual ++ "<lambda>", params, body, scope, cloFrom X.env.cells scope.names [], k⟩ : LF).fd pm ctv) }, toks := tk } := fun H1 k h' tk pm ctv I1 eN t1 hk sz => by
    have up := same_new (I1.hok.fresh (Nat.le_refl _)) (LamO h'.objs.size ⟨X.env.qual ++ "<lambda>", params, body, scope, cloFrom X.env.cells scope.names [], k⟩)
    exact h _ k _ _ (inv_lam I1) (eN.trans (ExtN.of up)) (t1.ext up) (I.hok.fresh sz) upd_same (up _ _ hk)
  obtain ⟨ps, hP, tri, old⟩ := hT _ mem
  have g := I.mod.glob.keeps I.bk
  have cd := TB.code.keeps I.bk
  have bm := TB.bm.keeps I.bk
  have tb := I.hok P _ hP
  refine PySem.W.kla_eval plain ?_
  cases hc : codeAmong pos ps.toList with
  | some cv =>
    obtain ⟨k, rfl, hk⟩ := old pos cv hc
    exact PySem.W.kla_makeFunctionHit (closure_ok has) I.ok.glob g own cd tb tri hc bm fun ctv h' tk kp sz => fin H k h' tk _ ctv (I.kept kp) (ExtN.refl H) hT hk sz
  | none =>
    refine PySem.W.kla_makeFunction (closure_ok has) I.ok.glob g own cd tb tri hc TB.gP bm fun k ctv h' tk kp lo hi ⟨k', ok, us, t, e, r⟩ tb' => ?_
    cases e
    have free : H k = none := I.hok.fresh lo
    have ne : P ≠ k := ne_of_none hP free
    refine fin _ k h' tk _ ctv (inv_table I hP kp tb' lo ⟨ok, us, t, r⟩) (fun b u z n => ?_) ?_ upd_same (Nat.le_of_lt (Nat.lt_of_le_of_lt lo hi))
    · rw [upd_ne (ne_of_none z free), upd_ne fun y => n ps (by rw [y, hP] at z; exact (Option.some.inj z).symm)]
      exact z
    · refine tabs_more hT one tri old (fun b u z n => ?_) (fun b qs hb z => ?_) ((upd_ne ne).trans upd_same) upd_same
      · rw [upd_ne (ne_of_none z free), upd_ne fun y => n ps (by rw [y, hP] at z; exact (Option.some.inj z).symm)]
        exact z
      · rw [upd_ne (ne_of_none z free), upd_ne hb]
        exact z
end
/-- the reading of a lambda: a new function; the tables may have grown -/
def tLamE (T : List (Addr × Str)) (mk : Addr → LF) : TE := fun _ H Q => Tabs T H ∧ ∀ (f c' : Addr) (H1 : Hp), ExtN H H1 → Tabs T H1 → H f = none → H1 f = some (LamO f (mk c')) → H1 c' = some (CodeO c' (mk c').qual) → Q (.ref f) H1
theorem pe_lam {X : Cx} {T : List (Addr × Str)} {c P : Addr} {params : Arguments} {body : Expr} {scope : Scope} {pos : Pos} (TB : TabB X.base X.mg c P) (hcode : X.env.code = .ref c) (hm : (P, X.env.qual ++ "<lambda>") ∈ T) (hu : ∀ p ∈ T, p.1 = P → p.2 = X.env.qual ++ "<lambda>")
    (hfree : ∀ y ∈ scope.names, y.2 = .free → X.env.scope.names.lookup y.1 = some .cell ∨ X.env.scope.names.lookup y.1 = some .free) (hdef : defaultsOf params X.env = ([], []) := by rfl) :
    PE X (.Lambda params body scope pos) (tLamE T fun c' => ⟨X.env.qual ++ "<lambda>", params, body, scope, cloFrom X.env.cells scope.names [], c'⟩) :=
  ⟨fun pins s σ H Q I ⟨hT, h⟩ => lam_mk I TB hcode hm hu hT hdef (fun y hy e => (hfree y hy e).elim (fun z => I.ok.has _ (.inl z)) fun z => I.ok.has _ (.inr z)) fun f c' H1 s' I1 eN T1 f0 f1 c1 => ⟨.ref f, H1, I1, rfl, h f c' H1 eN T1 f0 f1 c1⟩⟩
/-! ### its body keeps its promise -/
abbrev lamG (f c : Addr) (o : Obj) (F : LF) (G : Hp → Prop) : Hp → Prop := fun H => H f = some (LamO f F) ∧ H F.c = some (CodeO F.c F.qual) ∧ H c = some (cellO o) ∧ G H
theorem rule_lam {P : Program} {w : World} {K : PySem.W.Frag} {mg : Str → Option Value} {base : Heap} {k : Nat} {f c : Addr} {F : LF} {N ps : List Str} {y : Str} {v : V} {u : Value} {o : Obj} {G : Hp → Prop} {sp : Sp} (S : NScope N ps [y] F.scope)
    (hb : ∀ (pm ctv : Value) (us : List Value), us.length = ps.length → bindArgs (F.fd pm ctv) ⟨us, []⟩ = pure (ps.zip us)) (len : ∀ vs H Q, sp vs H Q E0 → vs.length = ps.length)
    (hcl : F.cl.lookup y = some c) (hcl1 : ∀ x a, F.cl.lookup x = some a → x = y) (rv : L2.RelV v u) (hd : o.data = .cell (some u)) (gst : ∀ {H H' : Hp}, (∀ b z, H b = some z → (∀ C dx fs, z ≠ .ins C dx fs) → H' b = some z) → G H → G H')
    (hbody : ∀ (A : Around) (outer : List Env) (s : Shared) (H : Hp) (vs : List V) (Q : VK), Room k (A.deeper (envF F.nf f s.heap.objs.size)) → H c = some (cellO o) → G H → sp vs H Q E0 →
      ∃ t, PE (ncx CX0 P w K mg base N F.nf f A outer s (drop c H) E0).nox F.body t ∧ t (startF N vs [some v]) (drop c H) fun r H' => Q r (upd H' c (cellO o))) :
    RuleOk P w K mg base (k + 1) f (lamG f c o F G) sp := by
  have fn : ∀ {s : Shared} {H : Hp}, HOk P w H s.heap → H f = some (LamO f F) → ∃ (od : Option Addr) (sl : Array (Option Value)) (pm ctv : Value), s.heap.get? f = some (⟨.type "function", od, .func (F.fd pm ctv), sl⟩ : Obj) := fun ok e => (ok f _ e).1
  refine ⟨fun e g => ?_, fun {A outer s H us vs Q} hr e g r q => ?_, fun hst g => ?_⟩
  · obtain ⟨od, sl, pm, ctv, z⟩ := fn e.hok g.1
    exact ⟨_, od, _, sl, z⟩
  · obtain ⟨g1, g2, g3, g4⟩ := g
    obtain ⟨od, sl, pm, ctv, hf⟩ := fn e.hok g1
    have hoc : s.heap.get? c = some o := (e.hok c _ g3).1
    have nf : c ∉ frs outer := fun z => by have := e.frf c z; rw [g3] at this; cases this
    have e1 := env0_drop e g3
    have hl := len _ _ _ q
    have lim : s.heap.NoLimit := e.mod.nolimit.keeps fun b ob z => (e.bs b ob z).1
    have C : CellsAt F.nf.cl [y] [some v] s.heap (drop c H) := by
      refine ⟨rfl, fun x a z => ?_, fun x x' a z z' => (hcl1 x a z).trans (hcl1 x' a z').symm, fun i x hx => ?_⟩
      · have ex := hcl1 x a z
        subst ex
        have : a = c := Option.some.inj (z.symm.trans hcl)
        subst this
        exact ⟨drop_at, _, o, hoc, hd⟩
      · match i, hx with
        | 0, hx =>
          have ex : y = x := Option.some.inj hx
          subst ex
          exact ⟨c, hcl, fun v' hv' => by cases hv'; exact ⟨u, rv, o, hoc, hd⟩⟩
    obtain ⟨oc, cvs, t0, q1, q2, q3⟩ := (e.hok F.c _ g2).1
    refine PySem.W.kla_callFunE hr.depth hf rfl S.co S.gen rfl ⟨F.c, oc, cvs, t0, rfl, q1, q2, q3⟩ ?_
    rw [hb pm ctv us (by rw [← r.length]; exact hl)]
    refine wpAny_pure (wpAny_newFunctionEnv S.nocell (fun ⟨n, _⟩ hy => S.par n (List.of_mem_zip hy).1) (fun h₁ hns hsb => ⟨lim.fresh _ hsb, ?_⟩) S.kind)
    show codeAny _ _ (.expr F.body (envF F.nf f s.heap.objs.size)) _ _
    have kp : ∀ b ob, s.heap.get? b = some ob → h₁.get? b = some ob := fun b ob z => hsb.extBut b ob (Nat.ne_of_lt (Heap.lt_size z)) (Heap.get?_push_of_some _ z)
    obtain ⟨t, pt, qt⟩ := hbody A outer s H vs Q (hr.deeper _) g3 g4 q
    have J := inv_startN (CX := CX0) (f := f) (E := E0) (F := F.nf) S hr.hd e1 hl r C hns kp (tk := s.toks + (ps.zip us).length)
    refine PySem.W.kla_codeExpr (wpAny_mono (pt.run [] _ (startF N vs [some v]) (drop c H) _ (J.wish _) qt) (fun x s2 hx => ?_) fun _ _ z => z.elim)
    obtain ⟨v2, H2, J2, rv2, q4⟩ := hx
    exact ce_trk (s' := s2) (Q' := fun r H' => Q r (upd H' c (cellO o))) ⟨v2, H2, J2.os, J2.bare, J2.base, J2.hok, rv2, q4⟩ g3 hoc nf fun _ _ _ z => z
  · obtain ⟨g1, g2, g3, g4⟩ := g
    exact ⟨hst _ _ g1 (fun _ _ _ z => nomatch z), hst _ _ g2 (fun _ _ _ z => nomatch z), hst _ _ g3 (fun _ _ _ z => nomatch z), gst hst g4⟩
/-! ### a call by which a lambda over a cell of this frame is handed on -/
def tCallC (cells : List (Str × Addr)) (y : Str) (j : Nat) (sp : Sp) (t : TA) : TE := fun σ H Q => t σ H fun vs H1 => ∃ v, σ[j]? = some (some v) ∧
  ∀ c o u, cells.lookup y = some c → H1 c = none → L2.RelV v u → o.data = .cell (some u) → sp vs (upd H1 c (cellO o)) (fun r H2 => H2 c = some (cellO o) → Q r (drop c H2)) E0
theorem pe_cdC {X : Cx} {k j : Nat} {f : Addr} {fd : FuncData} {ps : List Str} {sp : Sp} {x y : Str} {p pos : Pos} {e : Expr} {es : List Expr} {t : TA} (d : OkD X.prog X.w X.K X.mg X.base k x ps sp f fd) (hr : Room k X.A) (ha : PA X (e :: es) t) (hk : X.env.scope.names.lookup y = some .cell) (hj : X.N[j]? = some y) (hf : X.fn y = true) (hg : Gl X x := by rfl)
    (hdb : (x == ("__debug__" : Str)) = false := by decide) (he : starEach (e :: es) X.env = (false, eval e X.env) :: starEach es X.env := by rfl) (hpl : (backTo pos (starEach es X.env)).any (·.1) = false := by rfl) :
    PE X (.Call (.Name x p) (e :: es) [] pos) (tCallC X.env.cells y j sp t) := by
  refine ⟨fun pins s σ H Q I h => wpAny_Call_Name_kw (ld_glob I hg d.m ?_ hdb)⟩
  refine PySem.W.callWith_K (h₀ := X.base) I.ok.mod.kin d.kp (thn (ha.run pos pins s σ H _ I h) fun us s1 ⟨vs, H1, I1, r, v, hv, q⟩ => ⟨I1.kIn, ?_⟩) he hpl
  obtain ⟨m, _, lo⟩ := id I1.loc
  obtain ⟨u, ru, lk⟩ := lo j y v hj hv (.inr (.inl hk))
  obtain ⟨c, hc, o, ho, hd⟩ : ∃ c, X.env.cells.lookup y = some c ∧ s1.heap.IsCell c (some u) := by
    rcases lk with ⟨z, _⟩ | ⟨_, c, z1, z2⟩
    · rw [show X.env.kindOf y = _ from hk] at z; cases z
    · exact ⟨c, z1, z2⟩
  have hn := I1.freeC y c hc
  have big := I1.ok.cab y c hf hc
  have hb : X.base.get? c = none := Heap.get?_none_of_le (Nat.le_trans I1.ok.bsz big)
  have nf : c ∉ frs X.stack := fun z => by
    rcases List.mem_cons.mp (I1.stkSub c z) with y1 | y1
    · exact I1.cne y c hc y1
    · obtain ⟨_, ob, hob, _⟩ := I1.ok.funs.mem y1
      exact absurd (Nat.lt_of_lt_of_le (Heap.lt_size hob) big) (Nat.lt_irrefl _)
  have q1 := q c o u hc hn ru hd
  have hl := d.G.len _ _ _ _ q1
  have b := d.b s1 us I1.kIn (show (us ++ []).length = ps.length by rw [List.append_nil, ← r.length]; exact hl)
  rw [List.append_nil] at b
  show wpAny _ _ (call (.ref f) us) _ _ _
  refine wpAny_call (codeAny_mono (d.G.run X.A X.stack s1 _ ⟨us, []⟩ us vs _ E0 hr (env0_trk I1.env0 hn ho hb nf) b r q1) fun res s3 hq => ?_)
  match res, hq with
  | .ok (.ret u), hq => exact I1.after (ce_drop hq hn ho fun v' H' z z' => z' z)
/-! ### a def whose code object is known -/
structure FunC (K : PySem.W.Frag) (x qual : Str) (st : Stmt) (f : Addr) (fd : FuncData) (c : Addr) : Prop where
  ex : ∃ (oc : Value) (od : Option Addr) (kV doc pm : Value) (an : Option Addr) (ct : Value) (osl : Array (Option Value)),
    fd = PySem.W.fnOf x qual (defArgs st) (defBody st) (defScope st) .none kV doc pm an (.ref c) ct ∧ K.lookup f = some ⟨oc, od, .func fd, osl⟩ ∧ PySem.W.codeIn K (.ref c) qual = true
  kp : PySem.W.keepIn K (.ref f) = true
theorem FunC.fn {K : PySem.W.Frag} {x qual : Str} {st : Stmt} {f : Addr} {fd : FuncData} {c : Addr} (F : FunC K x qual st f fd c) : Fun K x qual st f fd := by
  obtain ⟨oc, od, kV, doc, pm, an, ct, osl, h1, h2, h3⟩ := F.ex
  exact ⟨⟨oc, od, kV, doc, pm, an, _, ct, osl, h1, h2, h3⟩, F.kp⟩
theorem FunC.ok {P : Program} {w : World} {K : PySem.W.Frag} {mg : Str → Option Value} {base : Heap} {x qual : Str} {st : Stmt} {f : Addr} {fd : FuncData} {c : Addr} {N ps : List Str} {k : Nat} {sp : Sp} (F : FunC K x qual st f fd c) (S : FnScope N ps (defScope st)) (len : ∀ vs H Q E, sp vs H Q E → vs.length = ps.length)
    (hbody : ∀ (A : Around) (outer : List Env) (s : Shared) (H : Hp) (vs : List V) (Q : VK) (E : XK), Room k (A.deeper (envOfC qual (defScope st) s.heap.objs.size f (.ref c))) → sp vs H Q E →
      ∃ t, PSs (cxOf CX0 P w K mg base N qual (defScope st) f (.ref c) A outer s H E).nox (defBody st) t ∧ t { nx := fun _ H' => Q .non H', rt := Q } (start N vs) H) : FnOk P w K mg base CX0 (k + 1) f fd ps sp := by
  obtain ⟨oc, od, kV, doc, pm, an, ct, osl, rfl, lk, hcd⟩ := F.ex
  exact fn_of lk hcd S len fun A outer s H vs Q E hr hsp => let ⟨t, z1, z2⟩ := hbody A outer s H vs Q E hr hsp; ⟨t, z1.nox, z2⟩
end Sh

set_option Elab.async false
set_option linter.all false
set_option maxRecDepth 100000
set_option maxHeartbeats 4000000
namespace Sh
open PySem PySem.Spec PyProof.Rows L2 PySem.W
/-! ### how many different ones -/
theorem len_le {α : Type} [DecidableEq α] : ∀ {L D : List α}, L.Nodup → (∀ x ∈ L, x ∈ D) → L.length ≤ D.length
  | [], _, _, _ => Nat.zero_le _
  | x :: L, D, hL, h => by
    rw [List.nodup_cons] at hL
    have hx := h x List.mem_cons_self
    have ih := len_le (L := L) (D := D.erase x) hL.2 fun y hy => (List.mem_erase_of_ne fun z => hL.1 (by rw [← z]; exact hy)).mpr (h y (List.mem_cons_of_mem _ hy))
    rw [List.length_erase_of_mem hx] at ih
    have := List.length_pos_of_mem hx
    show L.length + 1 ≤ _
    omega
theorem same_len {α : Type} [DecidableEq α] : ∀ {D L : List α}, L.Nodup → (∀ x, x ∈ L ↔ x ∈ D) → (L.length = D.length ↔ D.Nodup)
  | [], L, _, h => by
    have : L = [] := by
      cases L with
      | nil => rfl
      | cons a b => exact absurd ((h a).mp List.mem_cons_self) (by simp)
    subst this
    simp
  | x :: D, L, hL, h => by
    have hx : x ∈ L := (h x).mpr List.mem_cons_self
    have hp := List.length_pos_of_mem hx
    by_cases hm : x ∈ D
    · have := len_le hL fun y hy => (show y ∈ D from by
        rcases List.mem_cons.mp ((h y).mp hy) with z | z
        · rw [z]; exact hm
        · exact z)
      constructor
      · intro e; simp at e; omega
      · intro e; exact absurd hm (List.nodup_cons.mp e).1
    · have ih := same_len (D := D) (L := L.erase x) (hL.erase x) fun y => by
        rw [hL.mem_erase_iff]
        constructor
        · rintro ⟨h1, h2⟩
          rcases List.mem_cons.mp ((h y).mp h2) with z | z
          · exact absurd z h1
          · exact z
        · intro hy
          exact ⟨fun z => hm (by rw [← z]; exact hy), (h y).mpr (List.mem_cons_of_mem _ hy)⟩
      rw [List.length_erase_of_mem hx] at ih
      rw [List.nodup_cons, ← ih]
      simp only [List.length_cons]
      constructor
      · intro e; exact ⟨hm, by omega⟩
      · rintro ⟨_, e⟩; omega
theorem dedup_nodup : ∀ (l ks : List Int), ks.Nodup → (l.foldl step_dedup ks).Nodup
  | [], _, h => h
  | a :: l, ks, h => by
    rw [List.foldl_cons]
    refine dedup_nodup l _ ?_
    rw [oss_step]
    split
    · exact h
    · rename_i hn
      rw [List.nodup_append]
      refine ⟨h, by simp, fun x hx y hy z => hn ?_⟩
      rw [List.mem_singleton.mp hy] at z
      rw [← z]; exact hx
theorem met_len (ns : List Int) : (firstMet (fun i => ns.getD i 0) ns.length).length = ns.length ↔ ns.Nodup := by
  rw [oss_met]
  exact same_len (dedup_nodup ns [] List.nodup_nil) fun x => oss_has
section
variable {X : Cx} {a : Expr} {ta : TE} {p p2 q pos : Pos}
/-- len(set(xs)), xs a list of ints -/
def tLenSI (K : PySem.W.Frag) (ta : TE) : TE := fun σ H Q => ta σ H fun x H1 => ∃ (l : Addr) (ns : List Int), x = V.ref l ∧ SqL K H1 l (ns.map V.int) ∧ ns.length < 64 ∧ ∀ m : Nat, (m = ns.length ↔ ns.Nodup) → Q (.int m) H1
theorem pe_lenSI (hc : X.calm = true) (hg : Gl X "len") (hm : X.mg "len" = none) (hg2 : Gl X "set") (hm2 : X.mg "set" = none) (ha : PE X a ta) (na : starEach [a] X.env = (false, eval a X.env) :: starEach [] X.env := by rfl) :
    PE X (.Call (.Name "len" p) [.Call (.Name "set" p2) [a] [] q] [] pos) (tLenSI X.K ta) := by
  refine ⟨fun pins s σ H Q I h => Call_ (ld_blt I hg hm PySem.boot_len (callWith_builtin1 (args_cons (Call_ (ld_blt I hg2 hm2 boot_set (callWith_type1 (args_cons (thn (ha.run pins s σ H _ I h) fun v s1 ⟨x, H1, I1, r1, q1⟩ => args_nil ?_) na) na rfl))) rfl) rfl rfl))⟩
  obtain ⟨l, ns, rfl, hq, h1, k⟩ := q1
  cases r1
  obtain ⟨its, r, pl, hz⟩ := I1.list hq
  have hl : its.toArray.size = ns.length := by rw [List.size_toArray, ← r.length, List.length_map]
  refine call_set_list (I1.ok.hd hc) pl.isList (ns := ns) (by simpa using r.ints) (by unfold scanBound; omega) fun h' tk hS hk => args_nil ?_
  rw [hl] at hS
  obtain ⟨o, es, ep, t, ho, hex, hd, _, _, _, hf, hn⟩ := hS
  have le := firstMet_length_le (fun i => ns.getD i 0) ns.length
  have I2 : Inv X pins σ H1 { s1 with heap := h', toks := tk } := I1.kept fun b o e => hk b o (Heap.lt_size e) e
  exact call_len_set ho hex hd hf (by rw [hn] <;> omega) ⟨.int es.size, H1, I2.tok _, ⟨_, rfl⟩, k es.size (by rw [hn]; exact met_len ns)⟩
/-- len(set(xs)), xs a list of tuples of ints -/
def tLenST (K : PySem.W.Frag) (ta : TE) : TE := fun σ H Q => ta σ H fun x H1 => ∃ (l : Addr) (ks : List (Addr × List Int)), x = V.ref l ∧ SqL K H1 l (ks.map fun p => V.ref p.1) ∧ (∀ p ∈ ks, SqT K H1 p.1 (p.2.map V.int)) ∧ ks.length < 64 ∧ ∀ m : Nat, (m = ks.length ↔ (ks.map (·.2)).Nodup) → Q (.int m) H1
theorem pe_lenST (hu : X.A.units + 64 < cLine) (hc : X.calm = true) (hg : Gl X "len") (hm : X.mg "len" = none) (hg2 : Gl X "set") (hm2 : X.mg "set" = none) (ha : PE X a ta) (na : starEach [a] X.env = (false, eval a X.env) :: starEach [] X.env := by rfl) :
    PE X (.Call (.Name "len" p) [.Call (.Name "set" p2) [a] [] q] [] pos) (tLenST X.K ta) := by
  refine ⟨fun pins s σ H Q I h => Call_ (ld_blt I hg hm PySem.boot_len (callWith_builtin1 (args_cons (Call_ (ld_blt I hg2 hm2 boot_set (callWith_type1 (args_cons (thn (ha.run pins s σ H _ I h) fun v s1 ⟨x, H1, I1, r1, q1⟩ => args_nil ?_) na) na rfl))) rfl) rfl rfl))⟩
  obtain ⟨l, ks, rfl, hq, hk, h1, k⟩ := q1
  cases r1
  obtain ⟨its, r, pl, hz⟩ := I1.list hq
  refine call_set_tups (P := X.prog) (w := X.w) ks (I1.ok.hd hc) pl.isList (by simpa using refs_of_vals r) (fun z hz => I1.isT (hk z hz)) h1 (by omega) fun h' tk L es ep t R g kp => args_nil ?_
  obtain ⟨o, ho, hex, hd⟩ := R.ob
  have I2 : Inv X pins σ H1 { s1 with heap := h', toks := tk } := I1.kept kp
  have hs : es.size = L.length := SetTR.size (s := { s1 with heap := h', toks := tk }) R
  have few := R.few
  have e : (L.length = ks.length ↔ (ks.map (·.2)).Nodup) := by
    have z := same_len (L := L.map (·.2)) (D := ks.map (·.2)) R.nd fun x => by
      constructor
      · intro hx
        obtain ⟨y, hy, rfl⟩ := List.mem_map.mp hx
        exact List.mem_map.mpr ⟨y, List.mem_of_mem_take (g.sub y hy), rfl⟩
      · intro hx
        obtain ⟨y, hy, rfl⟩ := List.mem_map.mp hx
        exact g.all y (by rw [List.take_length]; exact hy)
    rwa [List.length_map, List.length_map] at z
  exact call_len_set ho hex hd (SetTR.fits (s := { s1 with heap := h', toks := tk }) R) (by rw [hs]; omega) ⟨.int es.size, H1, I2.tok _, ⟨_, rfl⟩, k es.size (by rw [hs]; exact e)⟩
end
end Sh

set_option Elab.async false
set_option linter.all false
set_option maxRecDepth 100000
set_option maxHeartbeats 4000000
namespace Sh
open PySem PySem.W PySem.Calls PyProof.Rows L2 LamX
/-! ### the end of a row with a specification, where defs of the top make lambdas: their tables of code objects are tracked from the start -/
abbrev emptyT : Obj := { cls := .none, data := .fields #[] }
/-- the pairs of a code object and its table, the tables still empty -/
def Fresh (h : Heap) (cs : List (Addr × Addr)) : Prop := ∀ p ∈ cs, CodeHd h p.1 p.2 ∧ h.get? p.2 = some emptyT
/-- what is tracked, and the tables -/
def withT (cs : List (Addr × Addr)) (H0 : Hp) : Hp := fun b => if cs.any (fun p => p.2 == b) = true then some (.tbl #[]) else H0 b
section
variable {cs : List (Addr × Addr)} {H0 : Hp} {b : Addr}
theorem withT_in {p : Addr × Addr} (hp : p ∈ cs) : withT cs H0 p.2 = some (.tbl #[]) := if_pos (List.any_eq_true.mpr ⟨p, hp, beq_self_eq_true p.2⟩)
theorem withT_out (hb : ∀ p ∈ cs, p.2 ≠ b) : withT cs H0 b = H0 b := if_neg fun z => by
  obtain ⟨p, hp, e⟩ := List.any_eq_true.mp z
  exact hb p hp (eq_of_beq e)
theorem tab_or (cs : List (Addr × Addr)) (b : Addr) : (∃ p ∈ cs, p.2 = b) ∨ ∀ p ∈ cs, p.2 ≠ b := by
  by_cases h : ∃ p ∈ cs, p.2 = b
  · exact .inl h
  · exact .inr fun p hp e => h ⟨p, hp, e⟩
end
/-- neither a list, nor a tuple, nor an empty table -/
def solid : Data → Bool
  | .seq _ _ => false
  | .fields vs => vs.size != 0
  | _ => true
/-- the arguments alone are tracked by H0 -/
structure Args (P : Program) (w : World) (K : Frag) (h : Heap) (cs : List (Addr × Addr)) (H0 : Hp) : Prop where
  new : Fresh h cs
  out : ∀ p ∈ cs, K.lookup p.2 = none
  seq : ∀ b u, H0 b = some u → K.lookup b = none ∧ ∃ o vs n, h.get? b = some o ∧ o.data = .seq vs n
  ok : HOk P w H0 h
section
variable {P : Program} {w : World} {K : Frag} {h : Heap} {cs : List (Addr × Addr)} {H0 : Hp}
theorem Args.none (a : Args P w K h cs H0) {p : Addr × Addr} (hp : p ∈ cs) : H0 p.2 = Option.none := by
  cases q : H0 p.2 with
  | none => rfl
  | some u =>
    obtain ⟨_, o, vs, n, e, d⟩ := a.seq _ u q
    rw [(a.new p hp).2] at e
    cases e
    cases d
theorem Args.same (a : Args P w K h cs H0) : Same H0 (withT cs H0) := fun b u q => by
  rcases tab_or cs b with ⟨p, hp, rfl⟩ | hb
  · rw [a.none hp] at q; cases q
  · rw [withT_out hb]; exact q
theorem Args.hok (a : Args P w K h cs H0) : HOk P w (withT cs H0) h := fun b u q => by
  rcases tab_or cs b with ⟨p, hp, rfl⟩ | hb
  · rw [withT_in hp] at q
    cases q
    exact (a.new p hp).2
  · rw [withT_out hb] at q
    exact (a.ok b u q).stay (fun _ _ _ z => z) (fun c z => a.same _ _ z) fun c xs z => a.same _ _ z
/-- what is solid is not tracked: it stands in the heap in which the tracked ones are hidden -/
theorem Args.stands (a : Args P w K h cs H0) {b : Addr} {o : Obj} (e : h.get? b = some o) (d : solid o.data = true) : (hidT h (withT cs H0)).get? b = some o := by
  refine hidT_get e ?_
  rcases tab_or cs b with ⟨p, hp, rfl⟩ | hb
  · rw [(a.new p hp).2] at e
    cases e
    cases d
  · rw [withT_out hb]
    cases q : H0 b with
    | none => rfl
    | some u =>
      obtain ⟨_, o', vs, n, e', d'⟩ := a.seq _ u q
      rw [e] at e'
      cases e'
      rw [d'] at d
      cases d
theorem Args.ns (a : Args P w K h cs H0) {b : Addr} {m : Str → Option Value} (x : h.Ns b m) : (hidT h (withT cs H0)).Ns b m := by
  obtain ⟨o, es, ep, e, d, r⟩ := x
  exact ⟨o, es, ep, a.stands e (by rw [d]; rfl), d, r⟩
theorem Args.kin (a : Args P w K h cs H0) (KX : K.In h) : K.In (hidT h (withT cs H0)) := fun b o e => by
  refine hidT_get (KX b o e) ?_
  rcases tab_or cs b with ⟨p, hp, rfl⟩ | hb
  · rw [a.out p hp] at e; cases e
  · rw [withT_out hb]
    cases q : H0 b with
    | none => rfl
    | some u => rw [(a.seq b u q).1] at e; cases e
theorem Args.tabB (a : Args P w K h cs H0) {mg : Str → Option Value} (g : h.Ns mainGlobals mg) (m : ∃ bm ob, mg "__builtins__" = some (.ref bm) ∧ bm ≠ builtinsNs ∧ h.get? bm = some ob ∧ ob.cls = .type "module" ∧ ob.dict = some builtinsNs ∧ ob.data = .plain) {p : Addr × Addr} (hp : p ∈ cs) :
    TabB (hidT h (withT cs H0)) mg p.1 p.2 := by
  obtain ⟨hc, ht⟩ := a.new p hp
  obtain ⟨og, es, ep, eg, dg, _⟩ := g
  obtain ⟨bm, ob, m1, m2, m3, m4, m5, m6⟩ := m
  constructor
  · obtain ⟨o, us, fi, tf, fl, tg, b0, tx, tt, e, c1, c2, c3, c4⟩ := hc
    refine ⟨o, us, fi, tf, fl, tg, b0, tx, tt, a.stands e ?_, c1, c2, c3, c4⟩
    rw [c2]
    show (us.size != 0) = true
    have : 11 < us.size := (Array.getElem?_eq_some_iff.mp c3).1
    rw [bne_iff_ne]
    omega
  · refine ⟨bm, ob, m1, m2, fun z => ?_, fun z => ?_, a.stands m3 (by rw [m6]; rfl), m4, m5, m6⟩
    · rw [z, eg] at m3; cases m3; rw [dg] at m6; cases m6
    · rw [z, ht] at m3; cases m3; cases m6
  · intro z
    rw [z, ht] at eg; cases eg; cases dg
end
/-- the arguments of a row, laid in the heap -/
theorem args_of {P : Program} {w : World} {K : Frag} {h : Heap} {cs : List (Addr × Addr)} {vals : List Value} {ds : List WData} (KX : K.In h) (new : Fresh h cs) (out : ∀ p ∈ cs, K.lookup p.2 = none) (hw : WellAll w.params h vals ds) (pl : plWs ds = true) (wt : ∀ d ∈ ds, d.weight ≤ 1048576) :
    ∃ (H0 : Hp) (xs : List V), OnlyF H0 ∧ Args P w K h cs H0 ∧ DwAll K H0 xs ds ∧ Vals xs vals := by
  obtain ⟨A, h1, h2⟩ := area_all ds vals hw pl wt
  refine ⟨argH K h A, vals.map toV, argH_only h2, ⟨new, out, fun b u q => ?_, argH_ok h2⟩, dw_all KX h2 ds vals hw pl h1, vals_toV h1⟩
  obtain ⟨n, vs, _, _, ⟨e, _⟩ | ⟨e, _⟩⟩ := argH_is h2 q
  · exact ⟨n, _, _, _, e, rfl⟩
  · exact ⟨n, _, _, _, e, rfl⟩
/-- the def and its tables, as they stand at the head -/
def SpecAtT (r : OpenSpec) (w : World) (K : Frag) (k : Nat) (ps : List Str) (mg : Str → Option Value) (fa : Addr) (h : Heap) : Prop :=
  ∃ (fd : FuncData) (cs : List (Addr × Addr)) (sp : Sp), Fresh h cs ∧ (∀ p ∈ cs, K.lookup p.2 = none) ∧
    (∀ (s : Shared) (us : List Value), us.length = ps.length → BindsTo s fd ⟨us, []⟩ (ps.zip us)) ∧
    (∀ base : Heap, K.In base → base.Ns mainGlobals mg → (∀ p ∈ cs, TabB base mg p.1 p.2) → FnOk r.prog w K mg base CX0 k fa fd ps sp) ∧
    ∀ (H0 H : Hp) (xs : List V) (a : Codec.denoteAll r.args), OnlyF H0 → Same H0 H → (∀ p ∈ cs, H p.2 = some (.tbl #[])) → Codec.withinAll r.args a = true → Codec.app r.args r.asked a = true → DwAll K H0 xs (Codec.encAll r.args a) →
      sp xs H (fun v H' => Dw K H' v (r.ret.enc (Codec.app r.args r.f a))) fun _ _ _ => False
/-- what the call leaves: all as it was, but that the tables may have grown -/
theorem old_of {h h' : Heap} {cs : List (Addr × Addr)} (new : Fresh h cs) (kept : ∀ b o, (∀ p ∈ cs, p.2 ≠ b) → h.get? b = some o → h'.get? b = some o) (grown : ∀ p ∈ cs, ∃ m : Array Value, h'.get? p.2 = some { cls := .none, data := .fields m }) : OldK h h' := by
  refine ⟨fun b o e => ?_, fun b o e => ?_⟩
  · rcases tab_or cs b with ⟨p, hp, rfl⟩ | hb
    · obtain ⟨m, hm⟩ := grown p hp
      have ht := (new p hp).2
      rw [ht] at e
      cases e
      exact .inr (.inl ⟨((new p hp).1.tab ht).isCodeTable, rfl, #[], m, rfl, by simpa using hm⟩)
    · exact .inl (kept b o hb e)
  · rcases tab_or cs b with ⟨p, hp, rfl⟩ | hb
    · obtain ⟨m, hm⟩ := grown p hp
      exact ⟨_, hm⟩
    · exact ⟨o, kept b o hb e⟩
theorem walk_specT {r : OpenSpec} {k : Nat} {q : Program} {loose : List Str} {XP : (Str → Option Value) → Heap → Prop} {YP : World → Heap → Prop} {d : DefRec} {K : Params → Frag} {ps : List Str} (well : r.wellSaid = true) (len : r.args.length = ps.length) (room : Room k callerA) (kin : ∀ w h, YP w h → (K w.params).In h)
    (F : ∀ (w : World) (mg mb : Str → Option Value) (mean : ExcName → Option Value) (fa : Addr) (h : Heap), YP w h → (K w.params).In h → Top q (looseW q loose) mean mg mb h → mg d.name = some (.ref fa) → SpecAtT r w (K w.params) k ps mg fa h) :
    WalkOS q loose XP YP r d [] (fun f vs => PySem.call f vs) := by
  intro w s0 s1 mg mb G Y fa o pm cd doc dV kV _ _ _ _ hmg hgens args vals as hpre hlay _ hwell _
  obtain ⟨a, dec, asked⟩ := os_pre_some hpre
  obtain ⟨rfl, within⟩ := Codec.encAll_of_decAll r.args args a dec
  have KX := kin w _ Y
  have Tp := G.T
  obtain ⟨fd, cs, sp, new, out, binds, fn, want⟩ := F w mg mb _ fa _ Y KX Tp hmg
  obtain ⟨H0, xs, only, A, dw, vx⟩ := args_of (P := r.prog) KX new out hwell (pl_encAll _ _) (layable_weight hlay)
  have sm := A.same
  have hl : vals.length = ps.length := (wellAll_len hwell).trans ((encAll_len _ _).trans len)
  have md : L2.Mod (K w.params) mg (hidT s1.heap (withT cs H0)) := ⟨A.kin KX, A.ns Tp.g, ⟨mb, A.ns Tp.b, Tp.builtins⟩, Tp.nolimit.imp fun _ z => ⟨A.ns z.1, z.2⟩⟩
  have env : Env0 r.prog w (K w.params) mg (hidT s1.heap (withT cs H0)) callerA [] s1 (withT cs H0) := ⟨rfl, md, fun _ _ z => of_hidT z, Nat.le_of_eq (hidT_size _ _), trivial, fun _ z => absurd z List.not_mem_nil, A.hok, .of_eq hgens⟩
  have run := (fn _ (A.kin KX) (A.ns Tp.g) fun p hp => A.tabB Tp.g Tp.bmain hp).run callerA [] s1 (withT cs H0) ⟨vals, []⟩ vals xs _ _ room env (binds s1 vals hl) vx (want H0 _ xs a only sm (fun p hp => withT_in hp) within asked dw)
  refine enter_call (codeAny_mono run fun res s2 x => ?_)
  match res, x with
  | .ok (.ret u), x =>
    obtain ⟨v, H2, os, bare, un, ok2, rel, dv⟩ := x
    have kept : ∀ b o, (∀ p ∈ cs, p.2 ≠ b) → s1.heap.get? b = some o → s2.heap.get? b = some o := fun b o hb e => by
      rcases only b with z | ⟨ob, u', z⟩
      · exact un.keep b o e ((withT_out hb).trans z) (fun y => absurd y List.not_mem_nil) List.not_mem_nil
      · have z1 := sm _ _ z
        have e1 : s1.heap.get? b = some ob := (A.hok b _ z1).1
        have e2 : s2.heap.get? b = some ob := (ok2 b _ (un.frzs b ob _ z1)).1
        rw [e] at e1
        cases e1
        exact e2
    have grown : ∀ p ∈ cs, ∃ m : Array Value, s2.heap.get? p.2 = some { cls := .none, data := .fields m } := fun p hp => by
      obtain ⟨m, z⟩ := un.tbls p.2 #[] (withT_in hp)
      exact ⟨_, ok2 _ _ z⟩
    have KX2 : (K w.params).In s2.heap := fun b o e => kept b o (fun p hp z => by rw [← z, out p hp] at e; cases e) (KX b o e)
    obtain ⟨bs, rd⟩ := Dw.reads (R := []) (cl := classAt s0.heap) ok2 KX2 _ v u dv rel
    exact ⟨.inl ⟨u, _, bs, rfl, fun _ => rfl, rd, (OpenSpec.post_iff well within _ _).mpr rfl, fun z => nomatch z⟩, old_of new kept grown, os, bare⟩
end Sh

set_option Elab.async false
set_option linter.all false
set_option maxRecDepth 100000
set_option maxHeartbeats 4000000
namespace Sh
open PySem PySem.Spec PyProof.Rows L2
def topS (i : Nat) : Stmt := PySem.Challenge.pw_seenhistory_s01_answers.main.body.getD i (.Pass ⟨0, 0, 0, 0⟩)
abbrev s_is_kind : Stmt := topS 15
theorem sc_is_kind : FnScope ["kind"] ["kind"] (defScope s_is_kind) := ⟨rfl, rfl, rfl, by decide +kernel, rfl, by decide +kernel, by decide +kernel⟩
abbrev s_is_action : Stmt := topS 16
theorem sc_is_action : FnScope ["kind", "action"] ["kind", "action"] (defScope s_is_action) := ⟨rfl, rfl, rfl, by decide +kernel, rfl, by decide +kernel, by decide +kernel⟩
abbrev s_held_at_first : Stmt := topS 17
theorem sc_held_at_first : FnScope ["kind"] ["kind"] (defScope s_held_at_first) := ⟨rfl, rfl, rfl, by decide +kernel, rfl, by decide +kernel, by decide +kernel⟩
abbrev s_all_held_at_first : Stmt := topS 18
theorem sc_all_held_at_first : FnScope ["kinds", "kind"] ["kinds"] (defScope s_all_held_at_first) := ⟨rfl, rfl, rfl, by decide +kernel, rfl, by decide +kernel, by decide +kernel⟩
abbrev s_do_operation : Stmt := topS 19
theorem sc_do_operation : FnScope ["kinds", "held", "operation", "thing", "step"] ["kinds", "held", "operation"] (defScope s_do_operation) := ⟨rfl, rfl, rfl, by decide +kernel, rfl, by decide +kernel, by decide +kernel⟩
abbrev s_done : Stmt := topS 20
theorem sc_done : FnScope ["kind", "held", "action", "a", "b"] ["kind", "held", "action", "a", "b"] (defScope s_done) := ⟨rfl, rfl, rfl, by decide +kernel, rfl, by decide +kernel, by decide +kernel⟩
abbrev s_done_to_cell : Stmt := topS 21
theorem sc_done_to_cell : FnScope ["held", "action", "a", "b"] ["held", "action", "a", "b"] (defScope s_done_to_cell) := ⟨rfl, rfl, rfl, by decide +kernel, rfl, by decide +kernel, by decide +kernel⟩
abbrev s_done_to_count : Stmt := topS 22
theorem sc_done_to_count : FnScope ["held", "action", "a"] ["held", "action", "a"] (defScope s_done_to_count) := ⟨rfl, rfl, rfl, by decide +kernel, rfl, by decide +kernel, by decide +kernel⟩
abbrev s_done_to_row : Stmt := topS 23
theorem sc_done_to_row : FnScope ["held", "action", "a"] ["held", "action", "a"] (defScope s_done_to_row) := ⟨rfl, rfl, rfl, by decide +kernel, rfl, by decide +kernel, by decide +kernel⟩
abbrev s_done_to_pile : Stmt := topS 24
theorem sc_done_to_pile : FnScope ["held", "action", "a"] ["held", "action", "a"] (defScope s_done_to_pile) := ⟨rfl, rfl, rfl, by decide +kernel, rfl, by decide +kernel, by decide +kernel⟩
abbrev s_done_to_set : Stmt := topS 25
theorem sc_done_to_set : FnScope ["held", "action", "a", "was_in", "others", "member"] ["held", "action", "a"] (defScope s_done_to_set) := ⟨rfl, rfl, rfl, by decide +kernel, rfl, by decide +kernel, by decide +kernel⟩
abbrev s_done_to_lock : Stmt := topS 26
theorem sc_done_to_lock : FnScope ["held", "action"] ["held", "action"] (defScope s_done_to_lock) := ⟨rfl, rfl, rfl, by decide +kernel, rfl, by decide +kernel, by decide +kernel⟩
abbrev s_is_client : Stmt := topS 30
theorem sc_is_client : FnScope ["client"] ["client"] (defScope s_is_client) := ⟨rfl, rfl, rfl, by decide +kernel, rfl, by decide +kernel, by decide +kernel⟩
abbrev s_Operation_init : Stmt := inClass (topS 31) 0
theorem sc_Operation_init : FnScope ["self", "number", "client", "thing", "action", "a", "b", "began"] ["self", "number", "client", "thing", "action", "a", "b", "began"] (defScope s_Operation_init) := ⟨rfl, rfl, rfl, by decide +kernel, rfl, by decide +kernel, by decide +kernel⟩
abbrev s_History_init : Stmt := inClass (topS 32) 0
theorem sc_History_init : FnScope ["self", "kinds"] ["self", "kinds"] (defScope s_History_init) := ⟨rfl, rfl, rfl, by decide +kernel, rfl, by decide +kernel, by decide +kernel⟩
abbrev s_History_has_thing : Stmt := inClass (topS 32) 1
theorem sc_History_has_thing : FnScope ["self", "thing"] ["self", "thing"] (defScope s_History_has_thing) := ⟨rfl, rfl, rfl, by decide +kernel, rfl, by decide +kernel, by decide +kernel⟩
abbrev s_History_has_operation : Stmt := inClass (topS 32) 2
theorem sc_History_has_operation : FnScope ["self", "number"] ["self", "number"] (defScope s_History_has_operation) := ⟨rfl, rfl, rfl, by decide +kernel, rfl, by decide +kernel, by decide +kernel⟩
abbrev s_History_pending : Stmt := inClass (topS 32) 3
theorem sc_History_pending : FnScope ["self", "client", "operation"] ["self", "client"] (defScope s_History_pending) := ⟨rfl, rfl, rfl, by decide +kernel, rfl, by decide +kernel, by decide +kernel⟩
abbrev s_History_call : Stmt := inClass (topS 32) 4
theorem sc_History_call : FnScope ["self", "client", "thing", "action", "a", "b", "number"] ["self", "client", "thing", "action", "a", "b"] (defScope s_History_call) := ⟨rfl, rfl, rfl, by decide +kernel, rfl, by decide +kernel, by decide +kernel⟩
abbrev s_History_end : Stmt := inClass (topS 32) 5
theorem sc_History_end : FnScope ["self", "client", "answer", "operation"] ["self", "client", "answer"] (defScope s_History_end) := ⟨rfl, rfl, rfl, by decide +kernel, rfl, by decide +kernel, by decide +kernel⟩
abbrev s_History_on_thing : Stmt := inClass (topS 32) 6
theorem sc_History_on_thing : FnScope ["self", "thing", "operation"] ["self", "thing"] (defScope s_History_on_thing) := ⟨rfl, rfl, rfl, by decide +kernel, rfl, by decide +kernel, by decide +kernel⟩
abbrev s_History_without : Stmt := inClass (topS 32) 7
theorem sc_History_without : FnScope ["self", "number", "smaller", "operation"] ["self", "number"] (defScope s_History_without) := ⟨rfl, rfl, rfl, by decide +kernel, rfl, by decide +kernel, by decide +kernel⟩
abbrev s_History_first_events : Stmt := inClass (topS 32) 8
theorem sc_History_first_events : FnScope ["self", "many", "shorter", "operation"] ["self", "many"] (defScope s_History_first_events) := ⟨rfl, rfl, rfl, by decide +kernel, rfl, by decide +kernel, by decide +kernel⟩
abbrev s_known_by : Stmt := topS 33
theorem sc_known_by : FnScope ["operation", "many", "known"] ["operation", "many"] (defScope s_known_by) := ⟨rfl, rfl, rfl, by decide +kernel, rfl, by decide +kernel, by decide +kernel⟩
abbrev s_first_in_clients_order : Stmt := topS 35
theorem sc_first_in_clients_order : FnScope ["one", "other"] ["one", "other"] (defScope s_first_in_clients_order) := ⟨rfl, rfl, rfl, by decide +kernel, rfl, by decide +kernel, by decide +kernel⟩
abbrev s_first_but_for : Stmt := topS 36
theorem sc_first_but_for : FnScope ["one", "other", "events"] ["one", "other", "events"] (defScope s_first_but_for) := ⟨rfl, rfl, rfl, by decide +kernel, rfl, by decide +kernel, by decide +kernel⟩
abbrev s_first_in_times_order : Stmt := topS 37
theorem sc_first_in_times_order : FnScope ["one", "other"] ["one", "other"] (defScope s_first_in_times_order) := ⟨rfl, rfl, rfl, by decide +kernel, rfl, by decide +kernel, by decide +kernel⟩
abbrev s_first_row : Stmt := topS 38
theorem sc_first_row : FnScope ["kinds", "given", "rule", "counted", "search"] ["kinds", "given", "rule", "counted"] (defScope s_first_row) := ⟨rfl, rfl, rfl, by decide +kernel, rfl, by decide +kernel, by decide +kernel⟩
abbrev s_mark : Stmt := topS 39
theorem sc_mark : FnScope ["operations", "marked", "operation"] ["operations"] (defScope s_mark) := ⟨rfl, rfl, rfl, by decide +kernel, rfl, by decide +kernel, by decide +kernel⟩
abbrev s_Search_init : Stmt := inClass (topS 40) 0
theorem sc_Search_init : FnScope ["self", "kinds", "given", "rule", "counted", "operation", "other"] ["self", "kinds", "given", "rule", "counted"] (defScope s_Search_init) := ⟨rfl, rfl, rfl, by decide +kernel, rfl, by decide +kernel, by decide +kernel⟩
abbrev s_Search_first_from : Stmt := inClass (topS 40) 1
theorem sc_Search_first_from : FnScope ["self", "row", "placed", "held", "operation", "found"] ["self", "row", "placed", "held"] (defScope s_Search_first_from) := ⟨rfl, rfl, rfl, by decide +kernel, rfl, by decide +kernel, by decide +kernel⟩
abbrev s_Search_may_follow : Stmt := inClass (topS 40) 2
theorem sc_Search_may_follow : FnScope ["self", "operation", "placed", "needed"] ["self", "operation", "placed"] (defScope s_Search_may_follow) := ⟨rfl, rfl, rfl, by decide +kernel, rfl, by decide +kernel, by decide +kernel⟩
abbrev s_Search_first_with : Stmt := inClass (topS 40) 3
theorem sc_Search_first_with : FnScope ["self", "operation", "row", "placed", "held", "step"] ["self", "operation", "row", "placed", "held"] (defScope s_Search_first_with) := ⟨rfl, rfl, rfl, by decide +kernel, rfl, by decide +kernel, by decide +kernel⟩
abbrev s_Search_must_answer : Stmt := inClass (topS 40) 4
theorem sc_Search_must_answer : FnScope ["self", "operation"] ["self", "operation"] (defScope s_Search_must_answer) := ⟨rfl, rfl, rfl, by decide +kernel, rfl, by decide +kernel, by decide +kernel⟩
abbrev s_is_write : Stmt := topS 44
theorem sc_is_write : FnScope ["operation"] ["operation"] (defScope s_is_write) := ⟨rfl, rfl, rfl, by decide +kernel, rfl, by decide +kernel, by decide +kernel⟩
abbrev s_is_asked : Stmt := topS 45
theorem sc_is_asked : FnScope ["history", "written", "operation", "kind", "pair"] ["history"] (defScope s_is_asked) := ⟨rfl, rfl, rfl, by decide +kernel, rfl, by decide +kernel, by decide +kernel⟩
abbrev s_has_seen : Stmt := topS 46
theorem sc_has_seen : FnScope ["read", "write"] ["read", "write"] (defScope s_has_seen) := ⟨rfl, rfl, rfl, by decide +kernel, rfl, by decide +kernel, by decide +kernel⟩
abbrev s_followed_at_once : Stmt := topS 47
theorem sc_followed_at_once : FnScope ["one", "other"] ["one", "other"] (defScope s_followed_at_once) := ⟨rfl, rfl, rfl, by decide +kernel, rfl, by decide +kernel, by decide +kernel⟩
abbrev s_followed : Stmt := topS 48
theorem sc_followed : FnScope ["operations", "reached", "one", "other", "numbers", "between", "operation"] ["operations"] (defScope s_followed) := ⟨rfl, rfl, rfl, by decide +kernel, rfl, by decide +kernel, by decide +kernel⟩
abbrev s_explains_thing : Stmt := topS 51
theorem sc_explains_thing : FnScope ["history", "thing", "late_events", "row"] ["history", "thing", "late_events"] (defScope s_explains_thing) := ⟨rfl, rfl, rfl, by decide +kernel, rfl, by decide +kernel, by decide +kernel⟩
abbrev s_linear : Stmt := topS 52
theorem sc_linear : FnScope ["history", "thing"] ["history"] (defScope s_linear) := ⟨rfl, rfl, rfl, by decide +kernel, rfl, by decide +kernel, by decide +kernel⟩
abbrev s_linear_for_thing : Stmt := topS 53
theorem sc_linear_for_thing : FnScope ["history", "thing"] ["history", "thing"] (defScope s_linear_for_thing) := ⟨rfl, rfl, rfl, by decide +kernel, rfl, by decide +kernel, by decide +kernel⟩
abbrev s_order : Stmt := topS 54
theorem sc_order : FnScope ["history", "row"] ["history"] (defScope s_order) := ⟨rfl, rfl, rfl, by decide +kernel, rfl, by decide +kernel, by decide +kernel⟩
abbrev s_shortest : Stmt := topS 55
theorem sc_shortest : FnScope ["history", "many"] ["history"] (defScope s_shortest) := ⟨rfl, rfl, rfl, by decide +kernel, rfl, by decide +kernel, by decide +kernel⟩
abbrev s_serial : Stmt := topS 56
theorem sc_serial : FnScope ["history", "row"] ["history"] (defScope s_serial) := ⟨rfl, rfl, rfl, by decide +kernel, rfl, by decide +kernel, by decide +kernel⟩
abbrev s_own : Stmt := topS 57
theorem sc_own : FnScope ["history", "client", "row"] ["history", "client"] (defScope s_own) := ⟨rfl, rfl, rfl, by decide +kernel, rfl, by decide +kernel, by decide +kernel⟩
abbrev s_causal : Stmt := topS 58
theorem sc_causal : FnScope ["history", "reached", "client"] ["history"] (defScope s_causal) := ⟨rfl, rfl, rfl, by decide +kernel, rfl, by decide +kernel, by decide +kernel⟩
abbrev s_came_about_for : Stmt := topS 59
theorem sc_came_about_for : FnScope ["history", "client", "reached", "given", "row", "operation"] ["history", "client", "reached"] (defScope s_came_about_for) := ⟨rfl, rfl, rfl, by decide +kernel, rfl, by decide +kernel, by decide +kernel⟩
abbrev s_late : Stmt := topS 60
theorem sc_late : FnScope ["history", "thing", "events"] ["history", "thing"] (defScope s_late) := ⟨rfl, rfl, rfl, by decide +kernel, rfl, by decide +kernel, by decide +kernel⟩
abbrev s_blame : Stmt := topS 61
theorem sc_blame : FnScope ["history", "blamed", "operation"] ["history"] (defScope s_blame) := ⟨rfl, rfl, rfl, by decide +kernel, rfl, by decide +kernel, by decide +kernel⟩
abbrev s_show : Stmt := topS 62
theorem sc_show : FnScope ["history", "number", "operation", "asked"] ["history", "number"] (defScope s_show) := ⟨rfl, rfl, rfl, by decide +kernel, rfl, by decide +kernel, by decide +kernel⟩
abbrev s_play : Stmt := topS 64
theorem sc_play : FnScope ["history", "row"] ["history", "row"] (defScope s_play) := ⟨rfl, rfl, rfl, by decide +kernel, rfl, by decide +kernel, by decide +kernel⟩
abbrev s_held : Stmt := topS 65
theorem sc_held : FnScope ["history", "row", "told", "place", "number", "operation"] ["history", "row"] (defScope s_held) := ⟨rfl, rfl, rfl, by decide +kernel, rfl, by decide +kernel, by decide +kernel⟩
abbrev s_is_of : Stmt := topS 66
theorem sc_is_of : FnScope ["history", "row", "number"] ["history", "row"] (defScope s_is_of) := ⟨rfl, rfl, rfl, by decide +kernel, rfl, by decide +kernel, by decide +kernel⟩
abbrev s_has_all_ended : Stmt := topS 67
theorem sc_has_all_ended : FnScope ["history", "row", "operation"] ["history", "row"] (defScope s_has_all_ended) := ⟨rfl, rfl, rfl, by decide +kernel, rfl, by decide +kernel, by decide +kernel⟩
abbrev s_stands_behind_all : Stmt := topS 68
theorem sc_stands_behind_all : FnScope ["history", "operation", "before", "must", "other"] ["history", "operation", "before"] (defScope s_stands_behind_all) := ⟨rfl, rfl, rfl, by decide +kernel, rfl, by decide +kernel, by decide +kernel⟩
abbrev s_told_by : Stmt := topS 69
theorem sc_told_by : FnScope ["history", "row", "told", "state", "number", "step"] ["history", "row"] (defScope s_told_by) := ⟨rfl, rfl, rfl, by decide +kernel, rfl, by decide +kernel, by decide +kernel⟩
abbrev s_answers : Stmt := topS 86
theorem sc_answers : FnScope ["calls", "history", "given_back", "at", "past", "call", "said"] ["calls"] (defScope s_answers) := ⟨rfl, rfl, rfl, by decide +kernel, rfl, by decide +kernel, by decide +kernel⟩
abbrev s_end_of_call : Stmt := topS 87
theorem sc_end_of_call : FnScope ["calls", "at", "past"] ["calls", "at"] (defScope s_end_of_call) := ⟨rfl, rfl, rfl, by decide +kernel, rfl, by decide +kernel, by decide +kernel⟩
abbrev s_are_kinds : Stmt := topS 88
theorem sc_are_kinds : FnScope ["kinds", "kind"] ["kinds"] (defScope s_are_kinds) := ⟨rfl, rfl, rfl, by decide +kernel, rfl, by decide +kernel, by decide +kernel⟩
abbrev s_answer_of : Stmt := topS 89
theorem sc_answer_of : FnScope ["history", "call", "name"] ["history", "call"] (defScope s_answer_of) := ⟨rfl, rfl, rfl, by decide +kernel, rfl, by decide +kernel, by decide +kernel⟩
abbrev s_answer_about_row : Stmt := topS 90
theorem sc_answer_about_row : FnScope ["history", "name", "row"] ["history", "name", "row"] (defScope s_answer_about_row) := ⟨rfl, rfl, rfl, by decide +kernel, rfl, by decide +kernel, by decide +kernel⟩
abbrev s_answer_about_one : Stmt := topS 91
theorem sc_answer_about_one : FnScope ["history", "name", "number"] ["history", "name", "number"] (defScope s_answer_about_one) := ⟨rfl, rfl, rfl, by decide +kernel, rfl, by decide +kernel, by decide +kernel⟩
abbrev s_answer_about_all : Stmt := topS 92
theorem sc_answer_about_all : FnScope ["history", "name"] ["history", "name"] (defScope s_answer_about_all) := ⟨rfl, rfl, rfl, by decide +kernel, rfl, by decide +kernel, by decide +kernel⟩
/-- where things of the top stand -/
structure Ad where
  (aO aC aN aW cO cH cS : Addr)
structure Tx (K : PySem.W.Frag) (mg : Str → Option Value) (d : Ad) : Prop where
  g_NO_SUCH : GI mg "NO_SUCH" (-1)
  g_NOT_NOW : GI mg "NOT_NOW" (-2)
  g_NONE_FOUND : GI mg "NONE_FOUND" (-3)
  g_FULL : GI mg "FULL" (-5)
  g_NOT_ASKED : GI mg "NOT_ASKED" (-6)
  g_NO_HISTORY : GI mg "NO_HISTORY" (-9)
  g_TOO_EARLY : GI mg "TOO_EARLY" (-2)
  g_OTHER_ANSWER : GI mg "OTHER_ANSWER" (-3)
  g_READ : GI mg "READ" 0
  g_WRITE : GI mg "WRITE" 1
  g_NOT_ENDED : GI mg "NOT_ENDED" (-1)
  g_CELL : GI mg "CELL" 0
  g_COUNT : GI mg "COUNT" 1
  g_ROW : GI mg "ROW" 2
  g_PILE : GI mg "PILE" 3
  g_SET : GI mg "SET" 4
  g_OPERATIONS : GT K mg "OPERATIONS" d.aO [3, 2, 2, 2, 3, 2]
  g_CLIENTS : GT K mg "CLIENTS" d.aC [0, 1, 2, 3]
  g_MOST_OPERATIONS : GI mg "MOST_OPERATIONS" 9
  g_MOST_THINGS : GI mg "MOST_THINGS" 3
  g_NUMBERS : GT K mg "NUMBERS" d.aN [0, 5, 2, 0, 1, 0, 0, 0, 1, 0, 1, 0, 0, 0, 1]
  g_WITH_LIST : GT K mg "WITH_LIST" d.aW [0, 12, 13]
  g_BEGIN : GI mg "BEGIN" 0
  g_CALL : GI mg "CALL" 1
  g_END : GI mg "END" 2
  g_LINEAR : GI mg "LINEAR" 3
  g_THING : GI mg "THING" 4
  g_ORDER : GI mg "ORDER" 5
  g_SHORTEST : GI mg "SHORTEST" 6
  g_SERIAL : GI mg "SERIAL" 7
  g_OWN : GI mg "OWN" 8
  g_CAUSAL : GI mg "CAUSAL" 9
  g_LATE : GI mg "LATE" 10
  g_HELD : GI mg "HELD" 12
  len : mg "len" = none
  tuple : mg "tuple" = none
  sorted : mg "sorted" = none
  range : mg "range" = none
  all : mg "all" = none
  any : mg "any" = none
  set : mg "set" = none
  enumerate : mg "enumerate" = none
/-- the names of the attributes, in the order in which they are stored first -/
def opN : List Str := ["number", "client", "thing", "action", "a", "b", "began", "ended", "answer"]
def histN : List Str := ["kinds", "operations", "events"]
def searchN : List Str := ["kinds", "given", "counted", "ended", "needed", "hopeless"]
structure Tc (K : PySem.W.Frag) (d : Ad) : Prop where
  cO : Cls K d.cO
  cH : Cls K d.cH
  cS : Cls K d.cS
  nO : ∀ f ∈ opN, NoAttr K d.cO f
  nH : ∀ f ∈ histN, NoAttr K d.cH f
  nS : ∀ f ∈ searchN, NoAttr K d.cS f
theorem hu4 {A : Around} {k : Nat} (hr : Room k A) : A.units + 4 < cLine := Nat.lt_of_le_of_lt (Nat.add_le_add_left (by decide : 4 ≤ 64) _) hr.units
end Sh

set_option Elab.async false
set_option linter.all false
set_option maxRecDepth 100000
set_option maxHeartbeats 4000000
namespace Sh
open PySem PySem.Spec PyProof.Rows L2
/-! ### numbers and rows of numbers -/
abbrev nv (n : Nat) : V := .int (n : Int)
theorem nv_inj {a b : Nat} (h : nv a = nv b) : a = b := by injection h with h; omega
theorem inV_nv (a : Nat) : ∀ l : List Nat, inV (nv a) (l.map nv) = l.contains a
  | [] => rfl
  | x :: l => by
    show (((x : Int) == (a : Int)) || inV (nv a) (l.map nv)) = _
    rw [inV_nv a l, List.contains_cons]
    congr 1
    rw [Bool.eq_iff_iff]
    simp only [beq_iff_eq]
    omega
theorem flat_nv (l : List Nat) : (l.map nv).all flatV = true := by
  rw [List.all_eq_true]
  intro x hx
  obtain ⟨n, _, rfl⟩ := List.mem_map.mp hx
  rfl
theorem map_nv (l : List Nat) : l.map nv = (l.map fun (n : Nat) => (n : Int)).map V.int := by rw [List.map_map]; rfl
theorem sz {n : Nat} (h : n ≤ 100000) : n ≤ sizeLine := Nat.le_trans h (by decide)
theorem szl {n : Nat} (h : n < 100000) : n < sizeLine := Nat.lt_of_lt_of_le h (by decide)
theorem eq_nv (a b : Nat) : decide (nv a = nv b) = decide (a = b) := by
  apply decide_eq_decide.mpr
  exact ⟨nv_inj, fun h => by rw [h]⟩
/-- what the program holds, in the heap -/
def HvAt (H : Hp) (v : V) : HV → Prop
  | .num n => v = nv n
  | .seq l => ∃ a, v = .ref a ∧ H a = some (.tup (l.map nv))
theorem HvAt.same {H H' : Hp} {v : V} {h : HV} (e : Same H H') (x : HvAt H v h) : HvAt H' v h := by
  cases h with
  | num n => exact x
  | seq l => obtain ⟨a, rfl, q⟩ := x; exact ⟨a, rfl, e _ _ q⟩
/-- a value of that kind, of at most so many items -/
def Wf (n kind : Nat) (h : HV) : Prop := match kind with
  | 2 => ∃ l, h = .seq l ∧ l.length ≤ n
  | 3 => ∃ l, h = .seq l ∧ l.length ≤ n
  | 4 => ∃ l, h = .seq l ∧ l.length ≤ n ∧ l.Pairwise (· < ·)
  | _ => ∃ m, h = .num m
/-- the pair of what is answered and what is held then -/
def Res (H : Hp) (Q : VK) (r : HV × Int) : Prop := ∀ (H' : Hp) (p : Addr) (v : V), Same H H' → H' p = some (.tup [.int r.2, v]) → HvAt H' v r.1 → Q (.ref p) H'
section
variable {P : Program} {w : World} {K : PySem.W.Frag} {mg : Str → Option Value} {base : Heap} {d : Ad}
/-! ### is_kind, is_action -/
def spIsKind : Sp := fun vs H Q _ => ∃ k : Nat, vs = [nv k] ∧ Q (.bl (decide (k < 6))) H
theorem ok_is_kind {f : Addr} {fd : FuncData} (F : Fun K "is_kind" "is_kind" s_is_kind f fd) (T : Tx K mg d) : FnOk P w K mg base CX0 1 f fd ["kind"] spIsKind := by
  refine F.ok sc_is_kind (fun vs H Q E h => ?_) (fun cdv A outer s H vs Q E hr h => ?_)
  · obtain ⟨k, rfl, _⟩ := h; rfl
  obtain ⟨k, rfl, h⟩ := h
  refine ⟨_, (pss_one (ps_ret (pe_chain op_le op_lt pe_int (pv 0) (pe_callB call_len_seq (by rfl) T.len PySem.boot_len (pa_cons (pe_gt T.g_OPERATIONS) pa_nil))))), ?_⟩
  refine ⟨_, rfl, _, _, rfl, rfl, _, rfl, ?_⟩
  refine if_true_of (decide_eq_true (Int.natCast_nonneg k)) ?_
  refine ⟨_, _, rfl, .inr (T.g_OPERATIONS.sq _), _, _, rfl, rfl, ?_⟩
  have e : decide (k < 6) = decide ((k : Int) < ((([3, 2, 2, 2, 3, 2] : List Int).map V.int).length : Int)) := by
    apply decide_eq_decide.mpr
    show k < 6 ↔ (k : Int) < 6
    omega
  rw [e] at h
  exact h
def spIsAction : Sp := fun vs H Q _ => ∃ k o : Nat, vs = [nv k, nv o] ∧ k < 6 ∧ Q (.bl (decide (o < Ag13.opsOf k))) H
theorem ops_at {k : Nat} (h : k < 6) : atI (([3, 2, 2, 2, 3, 2] : List Int).map V.int) (k : Int) = some (nv (Ag13.opsOf k)) := by
  refine atI_nat ?_
  match k, h with
  | 0, _ => rfl
  | 1, _ => rfl
  | 2, _ => rfl
  | 3, _ => rfl
  | 4, _ => rfl
  | 5, _ => rfl
theorem ok_is_action {f : Addr} {fd : FuncData} (F : Fun K "is_action" "is_action" s_is_action f fd) (T : Tx K mg d) : FnOk P w K mg base CX0 1 f fd ["kind", "action"] spIsAction := by
  refine F.ok sc_is_action (fun vs H Q E h => ?_) (fun cdv A outer s H vs Q E hr h => ?_)
  · obtain ⟨k, o, rfl, _⟩ := h; rfl
  obtain ⟨k, o, rfl, hk, h⟩ := h
  refine ⟨_, (pss_one (ps_ret (pe_chain op_le op_lt pe_int (pv 1) (pe_ix ix_tup (pe_gt T.g_OPERATIONS) (pv 0) (fun _ _ => rfl))))), ?_⟩
  refine ⟨_, rfl, _, _, rfl, rfl, _, rfl, ?_⟩
  refine if_true_of (decide_eq_true (Int.natCast_nonneg o)) ?_
  refine ⟨_, rfl, _, _, _, _, rfl, rfl, T.g_OPERATIONS.sq _, ops_at hk, _, _, rfl, rfl, ?_⟩
  have e : decide (o < Ag13.opsOf k) = decide ((o : Int) < (Ag13.opsOf k : Int)) := by
    apply decide_eq_decide.mpr
    omega
  rw [e] at h
  exact h
/-! ### held_at_first -/
def spHeldFirst : Sp := fun vs H Q _ => ∃ k : Nat, vs = [nv k] ∧ ∀ (H' : Hp) (v : V), Same H H' → HvAt H' v (hvFirst k) → Q v H'
theorem ok_held_at_first {f : Addr} {fd : FuncData} (F : Fun K "held_at_first" "held_at_first" s_held_at_first f fd) (T : Tx K mg d) : FnOk P w K mg base CX0 1 f fd ["kind"] spHeldFirst := by
  refine F.ok sc_held_at_first (fun vs H Q E h => ?_) (fun cdv A outer s H vs Q E hr h => ?_)
  · obtain ⟨k, rfl, _⟩ := h; rfl
  obtain ⟨k, rfl, h⟩ := h
  refine ⟨_, (pss_cons (ps_if (pt_cmpR op_in_seq (pv 0) (pe_tup (pa_cons (pe_gi T.g_ROW) (pa_cons (pe_gi T.g_PILE) (pa_cons (pe_gi T.g_SET) pa_nil)))) (by rfl)) (pss_one (ps_ret (pe_tup pa_nil))) pss_nil) (pss_one (ps_ret pe_int))), ?_⟩
  refine ⟨_, rfl, (by show 3 ≤ sizeLine; decide), fun p hp => ?_⟩
  refine ⟨p, _, rfl, .inr (SqT.of upd_same), rfl, rfl, _, rfl, ?_⟩
  have e : inV (nv k) (([2, 3, 4] : List Nat).map nv) = decide (k = 2 ∨ k = 3 ∨ k = 4) := by
    rw [inV_nv, Bool.eq_iff_iff]
    simp
  refine ite2 (fun c => ?_) (fun c => ?_)
  · have c' : k = 2 ∨ k = 3 ∨ k = 4 := of_decide_eq_true (e.symm.trans c)
    refine ⟨Nat.zero_le _, fun q hq => ?_⟩
    refine h _ _ ((same_new hp _).trans (same_new hq _)) ?_
    unfold hvFirst
    rw [if_pos c']
    exact ⟨q, rfl, upd_same⟩
  · have c' : ¬ (k = 2 ∨ k = 3 ∨ k = 4) := fun z => c (e.trans (decide_eq_true z))
    refine h _ _ (same_new hp _) ?_
    unfold hvFirst
    rw [if_neg c']
    rfl
/-! ### done_to_.. -/
def spDo4 (kind : Nat) (W : HV → Prop) : Sp := fun vs H Q _ => ∃ (v : V) (h : HV) (o a b : Nat), vs = [v, nv o, nv a, nv b] ∧ HvAt H v h ∧ W h ∧ o < Ag13.opsOf kind ∧ Res H Q (hvDo kind o a b h)
def spDo3 (kind : Nat) (W : HV → Prop) : Sp := fun vs H Q _ => ∃ (v : V) (h : HV) (o a : Nat), vs = [v, nv o, nv a] ∧ HvAt H v h ∧ W h ∧ o < Ag13.opsOf kind ∧ ∀ b, Res H Q (hvDo kind o a b h)
def spDo2 (kind : Nat) (W : HV → Prop) : Sp := fun vs H Q _ => ∃ (v : V) (h : HV) (o : Nat), vs = [v, nv o] ∧ HvAt H v h ∧ W h ∧ o < Ag13.opsOf kind ∧ ∀ a b, Res H Q (hvDo kind o a b h)
theorem one_sz {x : V} : ([x] : List V).length ≤ sizeLine := by show 1 ≤ sizeLine; decide
theorem two_sz {x y : V} : ([x, y] : List V).length ≤ sizeLine := by show 2 ≤ sizeLine; decide
theorem ok_done_to_cell {f : Addr} {fd : FuncData} (F : Fun K "done_to_cell" "done_to_cell" s_done_to_cell f fd) : FnOk P w K mg base CX0 1 f fd ["held", "action", "a", "b"] (spDo4 0 (Wf 1000 0)) := by
  refine F.ok sc_done_to_cell (fun vs H Q E h => ?_) (fun cdv A outer s H vs Q E hr h => ?_)
  · obtain ⟨v, h, o, a, b, rfl, _⟩ := h; rfl
  obtain ⟨v, hv, o, a, b, rfl, hh, ⟨m, rfl⟩, ho, h⟩ := h
  obtain rfl : v = nv m := hh
  refine ⟨_, (pss_cons (ps_if (pt_cmpR op_eq (pv 1) pe_int (nomark _)) (pss_one (ps_ret (pe_tup (pa_cons (pv 0) (pa_cons (pv 0) pa_nil))))) pss_nil) (pss_cons (ps_if (pt_cmpR op_eq (pv 1) pe_int (nomark _)) (pss_one (ps_ret (pe_tup (pa_cons pe_int (pa_cons (pv 2) pa_nil))))) pss_nil) (pss_cons (ps_if (pt_cmpR op_eq (pv 0) (pv 2) (nomark _)) (pss_one (ps_ret (pe_tup (pa_cons pe_int (pa_cons (pv 3) pa_nil))))) pss_nil) (pss_one (ps_ret (pe_tup (pa_cons pe_int (pa_cons (pv 0) pa_nil)))))))), ?_⟩
  refine ⟨_, rfl, rfl, _, rfl, ite2 (fun c => ?_) (fun c => ?_)⟩
  · have c' : o = 0 := nv_inj (of_decide_eq_true c)
    subst c'
    refine ⟨_, rfl, _, rfl, two_sz, fun p hp => ?_⟩
    exact h _ p _ (same_new hp _) upd_same rfl
  have n0 : o ≠ 0 := fun z => c (by subst z; exact decide_eq_true rfl)
  refine ⟨_, rfl, rfl, _, rfl, ite2 (fun c => ?_) (fun c => ?_)⟩
  · have c' : o = 1 := nv_inj (of_decide_eq_true c)
    subst c'
    refine ⟨_, rfl, two_sz, fun p hp => ?_⟩
    exact h _ p _ (same_new hp _) upd_same rfl
  have n1 : o ≠ 1 := fun z => c (by subst z; exact decide_eq_true rfl)
  obtain ⟨j, rfl⟩ : ∃ j, o = j + 2 := ⟨o - 2, by omega⟩
  refine ⟨_, rfl, _, rfl, rfl, _, rfl, ite2 (fun c => ?_) (fun c => ?_)⟩
  · have c' : m = a := nv_inj (of_decide_eq_true c)
    subst c'
    have e : hvDo 0 (j + 2) m b (.num m) = (.num b, 1) := by simp only [hvDo, HV.toNum, if_true]
    rw [e] at h
    refine ⟨_, rfl, two_sz, fun p hp => ?_⟩
    exact h _ p _ (same_new hp _) upd_same rfl
  · have c' : m ≠ a := fun z => c (by subst z; exact decide_eq_true rfl)
    have e : hvDo 0 (j + 2) a b (.num m) = (.num m, 0) := by simp only [hvDo, HV.toNum, c', if_false]
    rw [e] at h
    refine ⟨_, rfl, two_sz, fun p hp => ?_⟩
    exact h _ p _ (same_new hp _) upd_same rfl
theorem ok_done_to_count {f : Addr} {fd : FuncData} (F : Fun K "done_to_count" "done_to_count" s_done_to_count f fd) : FnOk P w K mg base CX0 1 f fd ["held", "action", "a"] (spDo3 1 (Wf 1000 1)) := by
  refine F.ok sc_done_to_count (fun vs H Q E h => ?_) (fun cdv A outer s H vs Q E hr h => ?_)
  · obtain ⟨v, h, o, a, rfl, _⟩ := h; rfl
  obtain ⟨v, hv, o, a, rfl, hh, ⟨m, rfl⟩, ho, h⟩ := h
  obtain rfl : v = nv m := hh
  refine ⟨_, (pss_cons (ps_if (pt_cmpR op_eq (pv 1) pe_int (nomark _)) (pss_one (ps_ret (pe_tup (pa_cons (pv 0) (pa_cons (pv 0) pa_nil))))) pss_nil) (pss_one (ps_ret (pe_tup (pa_cons (pv 0) (pa_cons (pe_op op_add (pv 0) (pv 2)) pa_nil)))))), ?_⟩
  refine ⟨_, rfl, rfl, _, rfl, ite2 (fun c => ?_) (fun c => ?_)⟩
  · have c' : o = 0 := nv_inj (of_decide_eq_true c)
    subst c'
    refine ⟨_, rfl, _, rfl, two_sz, fun p hp => ?_⟩
    exact h 0 _ p _ (same_new hp _) upd_same rfl
  have n0 : o ≠ 0 := fun z => c (by subst z; exact decide_eq_true rfl)
  obtain ⟨j, rfl⟩ : ∃ j, o = j + 1 := ⟨o - 1, by omega⟩
  refine ⟨_, rfl, _, rfl, _, rfl, _, _, rfl, rfl, two_sz, fun p hp => ?_⟩
  exact h 0 _ p _ (same_new hp _) upd_same rfl
theorem cut_tail (x : Nat) (l : List Nat) : cutV ((x :: l).map nv) (some 1) none = l.map nv := by
  unfold cutV
  have e : HT.sIx ((x :: l).map nv).length 0 (some 1) = 1 := by
    have := HT.sIx_nat ((x :: l).map nv).length 0 1
    rw [show ((1 : Nat) : Int) = 1 from rfl] at this
    rw [this]; simp
  rw [e, HT.sIx_none]
  rw [List.map_cons, List.drop_succ_cons, List.drop_zero, List.take_of_length_le (by simp)]
theorem cut_last (l : List Nat) (h : l ≠ []) : cutV (l.map nv) none (some (-1)) = l.dropLast.map nv := by
  unfold cutV
  have hl : 0 < l.length := List.length_pos_iff.mpr h
  have e : HT.sIx (l.map nv).length (l.map nv).length (some (-1)) = l.length - 1 := by
    show (if (-1 : Int) < 0 then (-1 + ((l.map nv).length : Int)).toNat else min (-1 : Int).toNat (l.map nv).length) = _
    rw [if_pos (by decide), List.length_map]
    omega
  rw [e, HT.sIx_none]
  simp [List.dropLast_eq_take]
theorem ok_done_to_row {f : Addr} {fd : FuncData} (F : Fun K "done_to_row" "done_to_row" s_done_to_row f fd) (T : Tx K mg d) : FnOk P w K mg base CX0 1 f fd ["held", "action", "a"] (spDo3 2 (Wf 1000 2)) := by
  refine F.ok sc_done_to_row (fun vs H Q E h => ?_) (fun cdv A outer s H vs Q E hr h => ?_)
  · obtain ⟨v, h, o, a, rfl, _⟩ := h; rfl
  obtain ⟨v, hv, o, a, rfl, hh, ⟨l, rfl, hl⟩, ho, h⟩ := h
  obtain ⟨t, rfl, ht⟩ := hh
  refine ⟨_, (pss_cons (ps_if (pt_cmpR op_eq (pv 1) pe_int (nomark _)) (pss_one (ps_ret (pe_tup (pa_cons pe_int (pa_cons (pe_op op_catA (pv 0) (pe_tup (pa_cons (pv 2) pa_nil))) pa_nil))))) pss_nil) (pss_cons (ps_if (pt_cmpR op_eq (pe_callB call_len_seq (by rfl) T.len PySem.boot_len (pa_cons (pv 0) pa_nil)) pe_int (nomark _)) (pss_one (ps_ret (pe_tup (pa_cons (pe_un un_neg pe_int) (pa_cons (pv 0) pa_nil))))) pss_nil) (pss_one (ps_ret (pe_tup (pa_cons (pe_ix ix_tup (pv 0) pe_int (fun _ _ => rfl)) (pa_cons (pe_slice sl_tupA (pv 0) (po_some pe_int) po_none) pa_nil))))))), ?_⟩
  refine ⟨_, rfl, rfl, _, rfl, ite2 (fun c => ?_) (fun c => ?_)⟩
  · have c' : o = 0 := nv_inj (of_decide_eq_true c)
    subst c'
    refine ⟨_, rfl, _, rfl, one_sz, fun q hq => ?_⟩
    have e1 : Same H (upd H q (.tup [nv a])) := same_new hq _
    refine ⟨t, q, _, _, rfl, rfl, SqT.of (e1 _ _ ht), SqT.of upd_same, sz (by simp; omega), ?_, ?_, ?_⟩
    · intro z
      have z' : l = [] := List.map_eq_nil_iff.mp z
      subst z'
      refine ⟨two_sz, fun p hp => ?_⟩
      exact h 0 _ p _ (e1.trans (same_new hp _)) upd_same ⟨q, rfl, by rw [upd_ne (ne_of_none upd_same hp)]; exact upd_same⟩
    · intro _ z
      cases z
    · intro _ _ p2 hp2
      refine ⟨two_sz, fun p hp => ?_⟩
      refine h 0 _ p _ ((e1.trans (same_new hp2 _)).trans (same_new hp _)) upd_same ⟨p2, rfl, ?_⟩
      rw [upd_ne (ne_of_none upd_same hp), upd_same]
      simp [HV.toSeq]
  have n0 : o ≠ 0 := fun z => c (by subst z; exact decide_eq_true rfl)
  obtain ⟨j, rfl⟩ : ∃ j, o = j + 1 := ⟨o - 1, by omega⟩
  refine ⟨_, rfl, t, _, rfl, .inr (SqT.of ht), rfl, _, rfl, ite2 (fun c => ?_) (fun c => ?_)⟩
  · have c' : l = [] := by
      have z := nv_inj (of_decide_eq_true c)
      rw [List.length_map] at z
      exact List.length_eq_zero_iff.mp z
    subst c'
    refine ⟨_, rfl, _, rfl, two_sz, fun p hp => ?_⟩
    exact h 0 _ p _ (same_new hp _) upd_same ⟨t, rfl, (same_new hp _) _ _ ht⟩
  · match l, hl, ht, h, c with
    | [], _, _, _, c => exact absurd (decide_eq_true rfl) c
    | x :: l, hl, ht, h, _ =>
      refine ⟨_, rfl, t, _, _, _, rfl, rfl, SqT.of ht, atI_nat (j := 0) rfl, ?_⟩
      refine ⟨_, rfl, _, rfl, t, _, rfl, SqT.of ht, fun z => ?_, fun _ q hq => ?_⟩
      · exfalso
        have z1 := z.1
        have := HT.sIx_nat ((x :: l).map nv).length 0 1
        rw [show ((1 : Nat) : Int) = 1 from rfl, z1] at this
        simp at this
      · refine ⟨two_sz, fun p hp => ?_⟩
        refine h 0 _ p _ ((same_new hq _).trans (same_new hp _)) upd_same ⟨q, rfl, ?_⟩
        rw [upd_ne (ne_of_none upd_same hp), upd_same, cut_tail]
theorem at_last (l : List Nat) (x : Nat) (h : l.getLast? = some x) : atI (l.map nv) (-1) = some (nv x) := by
  obtain ⟨r, rfl⟩ := List.getLast?_eq_some_iff.mp h
  rw [List.map_append]
  exact atI_last _ _
theorem ok_done_to_pile {f : Addr} {fd : FuncData} (F : Fun K "done_to_pile" "done_to_pile" s_done_to_pile f fd) (T : Tx K mg d) : FnOk P w K mg base CX0 1 f fd ["held", "action", "a"] (spDo3 3 (Wf 1000 3)) := by
  refine F.ok sc_done_to_pile (fun vs H Q E h => ?_) (fun cdv A outer s H vs Q E hr h => ?_)
  · obtain ⟨v, h, o, a, rfl, _⟩ := h; rfl
  obtain ⟨v, hv, o, a, rfl, hh, ⟨l, rfl, hl⟩, ho, h⟩ := h
  obtain ⟨t, rfl, ht⟩ := hh
  refine ⟨_, (pss_cons (ps_if (pt_cmpR op_eq (pv 1) pe_int (nomark _)) (pss_one (ps_ret (pe_tup (pa_cons pe_int (pa_cons (pe_op op_catA (pv 0) (pe_tup (pa_cons (pv 2) pa_nil))) pa_nil))))) pss_nil) (pss_cons (ps_if (pt_cmpR op_eq (pe_callB call_len_seq (by rfl) T.len PySem.boot_len (pa_cons (pv 0) pa_nil)) pe_int (nomark _)) (pss_one (ps_ret (pe_tup (pa_cons (pe_un un_neg pe_int) (pa_cons (pv 0) pa_nil))))) pss_nil) (pss_one (ps_ret (pe_tup (pa_cons (pe_ix ix_tup (pv 0) (pe_un un_neg pe_int) (fun _ _ => rfl)) (pa_cons (pe_slice sl_tupA (pv 0) po_none (po_some (pe_un un_neg pe_int))) pa_nil))))))), ?_⟩
  refine ⟨_, rfl, rfl, _, rfl, ite2 (fun c => ?_) (fun c => ?_)⟩
  · have c' : o = 0 := nv_inj (of_decide_eq_true c)
    subst c'
    refine ⟨_, rfl, _, rfl, one_sz, fun q hq => ?_⟩
    have e1 : Same H (upd H q (.tup [nv a])) := same_new hq _
    refine ⟨t, q, _, _, rfl, rfl, SqT.of (e1 _ _ ht), SqT.of upd_same, sz (by simp; omega), ?_, ?_, ?_⟩
    · intro z
      have z' : l = [] := List.map_eq_nil_iff.mp z
      subst z'
      refine ⟨two_sz, fun p hp => ?_⟩
      exact h 0 _ p _ (e1.trans (same_new hp _)) upd_same ⟨q, rfl, by rw [upd_ne (ne_of_none upd_same hp)]; exact upd_same⟩
    · intro _ z
      cases z
    · intro _ _ p2 hp2
      refine ⟨two_sz, fun p hp => ?_⟩
      refine h 0 _ p _ ((e1.trans (same_new hp2 _)).trans (same_new hp _)) upd_same ⟨p2, rfl, ?_⟩
      rw [upd_ne (ne_of_none upd_same hp), upd_same]
      simp [HV.toSeq]
  have n0 : o ≠ 0 := fun z => c (by subst z; exact decide_eq_true rfl)
  obtain ⟨j, rfl⟩ : ∃ j, o = j + 1 := ⟨o - 1, by omega⟩
  refine ⟨_, rfl, t, _, rfl, .inr (SqT.of ht), rfl, _, rfl, ite2 (fun c => ?_) (fun c => ?_)⟩
  · have c' : l = [] := by
      have z := nv_inj (of_decide_eq_true c)
      rw [List.length_map] at z
      exact List.length_eq_zero_iff.mp z
    subst c'
    refine ⟨_, rfl, _, rfl, two_sz, fun p hp => ?_⟩
    exact h 0 _ p _ (same_new hp _) upd_same ⟨t, rfl, (same_new hp _) _ _ ht⟩
  · have hne : l ≠ [] := fun z => c (by subst z; exact decide_eq_true rfl)
    obtain ⟨x, hx⟩ : ∃ x, l.getLast? = some x := ⟨l.getLast hne, List.getLast?_eq_some_getLast hne⟩
    have er : ∀ b, hvDo 3 (j + 1) a b (.seq l) = (.seq l.dropLast, (x : Int)) := fun b => by
      simp only [hvDo, HV.toSeq, hx]
    refine ⟨_, rfl, _, rfl, t, _, _, _, rfl, rfl, SqT.of ht, at_last l x hx, ?_⟩
    refine ⟨_, rfl, _, rfl, _, rfl, t, _, rfl, SqT.of ht, fun z => ?_, fun _ q hq => ?_⟩
    · exfalso
      have z2 := z.2
      have hl0 : 0 < l.length := List.length_pos_iff.mpr hne
      have e : HT.sIx (l.map nv).length (l.map nv).length (some (-1)) = l.length - 1 := by
        show (if (-1 : Int) < 0 then (-1 + ((l.map nv).length : Int)).toNat else min (-1 : Int).toNat (l.map nv).length) = _
        rw [if_pos (by decide), List.length_map]
        omega
      have z3 : HT.sIx (l.map nv).length (l.map nv).length (some (-1)) = (l.map nv).length := z2
      rw [e, List.length_map] at z3
      omega
    · refine ⟨two_sz, fun p hp => ?_⟩
      have h0 := h 0
      rw [er 0] at h0
      refine h0 _ p _ ((same_new hq _).trans (same_new hp _)) upd_same ⟨q, rfl, ?_⟩
      rw [upd_ne (ne_of_none upd_same hp), upd_same]
      exact congrArg (fun z => some (HO.tup z)) (cut_last l hne)
theorem ok_done_to_lock {f : Addr} {fd : FuncData} (F : Fun K "done_to_lock" "done_to_lock" s_done_to_lock f fd) : FnOk P w K mg base CX0 1 f fd ["held", "action"] (spDo2 5 (Wf 1000 5)) := by
  refine F.ok sc_done_to_lock (fun vs H Q E h => ?_) (fun cdv A outer s H vs Q E hr h => ?_)
  · obtain ⟨v, h, o, rfl, _⟩ := h; rfl
  obtain ⟨v, hv, o, rfl, hh, ⟨m, rfl⟩, ho, h⟩ := h
  obtain rfl : v = nv m := hh
  refine ⟨_, (pss_cons (ps_if (pt_cmpR op_eq (pv 1) pe_int (nomark _)) (pss_one (ps_ret (pe_tup (pa_cons (pe_op op_sub pe_int (pv 0)) (pa_cons pe_int pa_nil))))) pss_nil) (pss_one (ps_ret (pe_tup (pa_cons (pv 0) (pa_cons pe_int pa_nil)))))), ?_⟩
  refine ⟨_, rfl, rfl, _, rfl, ite2 (fun c => ?_) (fun c => ?_)⟩
  · have c' : o = 0 := nv_inj (of_decide_eq_true c)
    subst c'
    refine ⟨_, rfl, _, _, rfl, rfl, two_sz, fun p hp => ?_⟩
    exact h 0 0 _ p _ (same_new hp _) upd_same rfl
  have n0 : o ≠ 0 := fun z => c (by subst z; exact decide_eq_true rfl)
  obtain ⟨j, rfl⟩ : ∃ j, o = j + 1 := ⟨o - 1, by omega⟩
  refine ⟨_, rfl, two_sz, fun p hp => ?_⟩
  exact h 0 0 _ p _ (same_new hp _) upd_same rfl
/-! ### done_to_set, done -/
theorem take_more {α : Type} {l : List α} {i : Nat} {x : α} (h : l[i]? = some x) : l.take (i + 1) = l.take i ++ [x] := by
  rw [List.take_add_one, h]; rfl
theorem get_nv {l : List Nat} {i : Nat} {y : V} (h : (l.map nv)[i]? = some y) : ∃ z, l[i]? = some z ∧ y = nv z := by
  rw [List.getElem?_map] at h
  cases e : l[i]? with
  | none => rw [e] at h; cases h
  | some z => rw [e] at h; exact ⟨z, rfl, (Option.some.inj h).symm⟩
/-- two increasing lists of the same numbers -/
theorem sorted_unique : ∀ {l m : List Int}, l.Pairwise (· < ·) → m.Pairwise (· ≤ ·) → m.Perm l → m = l
  | [], m, _, _, p => List.Perm.eq_nil p
  | x :: l, m, hl, hm, p => by
    match m, hm, p with
    | [], _, p => exact absurd p.length_eq (by simp)
    | y :: m, hm, p =>
      rw [List.pairwise_cons] at hl hm
      have hy : y ∈ x :: l := p.mem_iff.mp List.mem_cons_self
      have hx : x ∈ y :: m := p.mem_iff.mpr List.mem_cons_self
      have e : y = x := by
        rcases List.mem_cons.mp hy with e | h1
        · exact e
        · rcases List.mem_cons.mp hx with e | h2
          · exact e.symm
          · have a1 := hl.1 y h1
            have a2 := hm.1 x h2
            omega
      subst e
      rw [sorted_unique hl.2 hm.2 (List.Perm.cons_inv p)]
theorem ins_perm (a : Nat) : ∀ {l : List Nat}, a ∉ l → (insS a l).Perm (l ++ [a])
  | [], _ => List.Perm.refl _
  | x :: l, h => by
    unfold insS
    have h1 : a ≠ x := fun z => h (by rw [z]; exact List.mem_cons_self)
    have h2 : a ∉ l := fun z => h (List.mem_cons_of_mem _ z)
    split
    · exact (List.perm_append_comm (l₁ := [a]) (l₂ := x :: l))
    · exact List.Perm.cons x (ins_perm a h2)
theorem ok_done_to_set {f : Addr} {fd : FuncData} (F : Fun K "done_to_set" "done_to_set" s_done_to_set f fd) (T : Tx K mg d) : FnOk P w K mg base CX0 1 f fd ["held", "action", "a"] (spDo3 4 (Wf 1000 4)) := by
  refine F.ok sc_done_to_set (fun vs H Q E h => ?_) (fun cdv A outer s H vs Q E hr h => ?_)
  · obtain ⟨v, h, o, a, rfl, _⟩ := h; rfl
  obtain ⟨v, hv, o, a, rfl, hh, ⟨l, rfl, hl, hs⟩, ho, h⟩ := h
  obtain ⟨t, rfl, ht⟩ := hh
  refine ⟨_, (pss_cons (ps_set (i := 3) sc_done_to_set.nd rfl (by first | exact Or.inl rfl | exact Or.inr rfl) (pe_ifExp (pt_cmpR op_in_seq (pv 2) (pv 0) (by rfl)) pe_int pe_int)) (pss_cons (ps_if (pt_cmpR op_eq (pv 1) pe_int (nomark _)) (pss_one (ps_ret (pe_tup (pa_cons (pv 3) (pa_cons (pv 0) pa_nil))))) pss_nil) (pss_cons (ps_setLc (i := 4) (own := [("member", 5)]) (g := gName 5) (by rfl) sc_done_to_set.nd rfl rfl (sw_true rfl rfl rfl (by decide +kernel)) (pi_tup (pv 0)) (blkOk_by (own := [("member", 5)]) (N := ["held", "action", "a", "was_in", "others", "member"]) (sc := defScope s_done_to_set) (by decide +kernel)) (fun _ _ _ _ _ => pg_name (i := 5) sc_done_to_set.nd rfl (Or.inl rfl)) (fun _ _ _ _ _ => by exact (pts_one (pt_cmpR op_ne (pv 5) (pv 2) (nomark _)))) (fun _ _ _ _ _ => by exact (pv 5))) (pss_cons (ps_if (pt_cmpR op_eq (pv 1) pe_int (nomark _)) (pss_one (ps_ret (pe_tup (pa_cons (pe_op op_sub pe_int (pv 3)) (pa_cons (pe_callTy call_tuple_of (by rfl) T.tuple (by decide +kernel) (pa_cons (pe_callB cr_sortedI (by rfl) T.sorted (by decide +kernel) (pa_cons (pe_op op_cat (pv 4) (pe_lst (pa_cons (pv 2) pa_nil))) pa_nil)) pa_nil)) pa_nil))))) pss_nil) (pss_one (ps_ret (pe_tup (pa_cons (pv 3) (pa_cons (pe_callTy call_tuple_of (by rfl) T.tuple (by decide +kernel) (pa_cons (pv 4) pa_nil)) pa_nil))))))))), ?_⟩
  refine ⟨_, rfl, _, rfl, t, _, rfl, .inr (SqT.of ht), rfl, flat_nv l, _, rfl, ?_⟩
  have nf : a ∉ l.filter (· != a) := fun z => by simpa using (List.mem_filter.mp z).2
  have srt : ((insS a (l.filter (· != a))).map fun (n : Nat) => (n : Int)).Pairwise (· < ·) := by
    rw [List.pairwise_map]
    exact (insS_sorted (hs.filter _)).imp fun z => by omega
  have oth : ∀ (was : Int) (Qd : VK),
      (∀ D H2, Same H H2 → H2 D = some (.lst ((l.filter (· != a)).map nv)) → Qd (.ref D) H2) →
      tLc (iTup K (tVar 0)) (gName 5) (tTest (tOp rNe (tVar 5) (tVar 2))) (tVar 5) [5] [some (.ref t), some (nv o), some (nv a), some (.int was), none, none] H Qd := by
    intro was Qd k
    refine comp_tup (l := l) (g := nv) (p := fun x => x != a) (R := fun x y _ => y = nv x) (SqT.of ht) ⟨_, rfl, rfl, rfl⟩ mono_var ⟨Firm.eq nv, by omega, fun x hx H' e k => ?_, fun x hx hp H' e k q => ⟨_, rfl, q _ _ (Same.refl _) rfl⟩⟩ fun D ys H' e hD hy pr => ?_
    · intro q
      have e1 : (!decide (nv x = nv a)) = (x != a) := by rw [eq_nv]; rfl
      refine ⟨_, rfl, _, rfl, rfl, _, rfl, ?_⟩
      rw [e1]
      exact q _ (Same.refl _)
    · rw [paired_map pr] at hy
      exact k D H' e hy
  have hz : (l.filter (· != a)).length ≤ 1000 := Nat.le_trans (List.length_filter_le _ _) hl
  refine ite2 (fun c => ?_) (fun c => ?_)
  all_goals
    first
      | have hc : l.contains a = true := (inV_nv a l).symm.trans c
      | have hc : l.contains a = false := (inV_nv a l).symm.trans (Bool.eq_false_iff.mpr c)
    refine ⟨_, rfl, rfl, _, rfl, ite2 (fun c0 => ?_) (fun c0 => ?_)⟩
    · have c' : o = 0 := nv_inj (of_decide_eq_true c0)
      subst c'
      have e : hvDo 4 0 a 0 (.seq l) = (.seq l, if l.contains a = true then 1 else 0) := rfl
      have h0 := h 0
      rw [e, hc] at h0
      refine ⟨_, rfl, _, rfl, two_sz, fun p hp => ?_⟩
      exact h0 _ p _ (same_new hp _) upd_same ⟨t, rfl, same_new hp _ _ _ ht⟩
    have n0 : o ≠ 0 := fun z => c0 (by subst z; exact decide_eq_true rfl)
    dsimp only [tNext]
    refine go_seq (go_asg ?_)
    refine oth _ _ fun D H2 e2 hD => ?_
    refine ⟨_, rfl, rfl, _, rfl, ite2 (fun c1 => ?_) (fun c1 => ?_)⟩
    · have c' : o = 1 := nv_inj (of_decide_eq_true c1)
      subst c'
      have e : hvDo 4 1 a 0 (.seq l) = (.seq (insS a (l.filter (· != a))), if l.contains a = true then 0 else 1) := rfl
      have h0 := h 0
      rw [e, hc] at h0
      refine ⟨_, rfl, _, _, rfl, rfl, _, rfl, _, rfl, one_sz, fun u hu => ?_⟩
      have e3 := e2.trans (same_new hu (.lst [nv a]))
      refine ⟨D, u, _, _, rfl, rfl, (same_new hu _) _ _ hD, upd_same, sz (by simp; omega), fun x hx => ?_⟩
      have e4 := e3.trans (same_new hx (.lst ((l.filter (· != a)).map nv ++ [nv a])))
      refine ⟨x, ((l.filter (· != a)) ++ [a]).map (fun (n : Nat) => (n : Int)), rfl, SqL.of (by rw [upd_same, List.map_append, List.map_append, map_nv]; rfl), fun ns' y pm so hy => ?_⟩
      have e5 := e4.trans (same_new hy (.lst (ns'.map V.int)))
      refine ⟨y, _, rfl, .inl ⟨SqL.of upd_same, fun z hz => ?_⟩⟩
      have e6 := e5.trans (same_new hz (.tup (ns'.map V.int)))
      refine ⟨two_sz, fun p hp => ?_⟩
      refine h0 _ p _ (e6.trans (same_new hp _)) upd_same ⟨z, rfl, ?_⟩
      rw [upd_ne (ne_of_none upd_same hp), upd_same]
      have en : ns' = (insS a (l.filter (· != a))).map fun (n : Nat) => (n : Int) := sorted_unique srt so (pm.trans ((ins_perm a nf).symm.map _))
      rw [en, ← map_nv]
    · have n1 : o ≠ 1 := fun z => c1 (by subst z; exact decide_eq_true rfl)
      obtain ⟨j, rfl⟩ : ∃ j, o = j + 2 := ⟨o - 2, by omega⟩
      have e : hvDo 4 (j + 2) a 0 (.seq l) = (.seq (l.filter (· != a)), if l.contains a = true then 1 else 0) := rfl
      have h0 := h 0
      rw [e, hc] at h0
      refine ⟨_, rfl, _, rfl, D, _, rfl, .inl ⟨SqL.of hD, fun z hz => ?_⟩⟩
      refine ⟨two_sz, fun p hp => ?_⟩
      refine h0 _ p _ ((e2.trans (same_new hz _)).trans (same_new hp _)) upd_same ⟨z, rfl, ?_⟩
      rw [upd_ne (ne_of_none upd_same hp), upd_same]
/-! ### done -/
theorem Wf.mono {n m kind : Nat} {h : HV} (w : Wf n kind h) (e : n ≤ m) : Wf m kind h := by
  unfold Wf at w ⊢
  split at w
  · obtain ⟨l, rfl, q⟩ := w; exact ⟨l, rfl, by omega⟩
  · obtain ⟨l, rfl, q⟩ := w; exact ⟨l, rfl, by omega⟩
  · obtain ⟨l, rfl, q, r⟩ := w; exact ⟨l, rfl, by omega, r⟩
  · exact w
def spDone : Sp := fun vs H Q _ => ∃ (kind : Nat) (v : V) (h : HV) (o a b : Nat), vs = [nv kind, v, nv o, nv a, nv b] ∧ kind < 6 ∧ HvAt H v h ∧ Wf 1000 kind h ∧ o < Ag13.opsOf kind ∧ Res H Q (hvDo kind o a b h)
theorem ok_done {f f0 f1 f2 f3 f4 f5 : Addr} {fd d0 d1 d2 d3 d4 d5 : FuncData} (F : Fun K "done" "done" s_done f fd) (T : Tx K mg d)
    (o_done_to_cell : OkD P w K mg base 1 "done_to_cell" ["held", "action", "a", "b"] (spDo4 0 (Wf 1000 0)) f0 d0)
    (o_done_to_count : OkD P w K mg base 1 "done_to_count" ["held", "action", "a"] (spDo3 1 (Wf 1000 1)) f1 d1)
    (o_done_to_row : OkD P w K mg base 1 "done_to_row" ["held", "action", "a"] (spDo3 2 (Wf 1000 2)) f2 d2)
    (o_done_to_pile : OkD P w K mg base 1 "done_to_pile" ["held", "action", "a"] (spDo3 3 (Wf 1000 3)) f3 d3)
    (o_done_to_set : OkD P w K mg base 1 "done_to_set" ["held", "action", "a"] (spDo3 4 (Wf 1000 4)) f4 d4)
    (o_done_to_lock : OkD P w K mg base 1 "done_to_lock" ["held", "action"] (spDo2 5 (Wf 1000 5)) f5 d5) :
    FnOk P w K mg base CX0 2 f fd ["kind", "held", "action", "a", "b"] spDone := by
  refine F.ok sc_done (fun vs H Q E h => ?_) (fun cdv A outer s H vs Q E hr h => ?_)
  · obtain ⟨k, v, h, o, a, b, rfl, _⟩ := h; rfl
  obtain ⟨kind, v, hv, o, a, b, rfl, hk, hh, hw, ho, h⟩ := h
  refine ⟨_, (pss_cons (ps_if (pt_cmpR op_eq (pv 0) (pe_gi T.g_CELL) (nomark _)) (pss_one (ps_ret (pe_cd o_done_to_cell (hr.mono (by omega)) (pa_cons (pv 1) (pa_cons (pv 2) (pa_cons (pv 3) (pa_cons (pv 4) pa_nil))))))) pss_nil) (pss_cons (ps_if (pt_cmpR op_eq (pv 0) (pe_gi T.g_COUNT) (nomark _)) (pss_one (ps_ret (pe_cd o_done_to_count (hr.mono (by omega)) (pa_cons (pv 1) (pa_cons (pv 2) (pa_cons (pv 3) pa_nil)))))) pss_nil) (pss_cons (ps_if (pt_cmpR op_eq (pv 0) (pe_gi T.g_ROW) (nomark _)) (pss_one (ps_ret (pe_cd o_done_to_row (hr.mono (by omega)) (pa_cons (pv 1) (pa_cons (pv 2) (pa_cons (pv 3) pa_nil)))))) pss_nil) (pss_cons (ps_if (pt_cmpR op_eq (pv 0) (pe_gi T.g_PILE) (nomark _)) (pss_one (ps_ret (pe_cd o_done_to_pile (hr.mono (by omega)) (pa_cons (pv 1) (pa_cons (pv 2) (pa_cons (pv 3) pa_nil)))))) pss_nil) (pss_cons (ps_if (pt_cmpR op_eq (pv 0) (pe_gi T.g_SET) (nomark _)) (pss_one (ps_ret (pe_cd o_done_to_set (hr.mono (by omega)) (pa_cons (pv 1) (pa_cons (pv 2) (pa_cons (pv 3) pa_nil)))))) pss_nil) (pss_one (ps_ret (pe_cd o_done_to_lock (hr.mono (by omega)) (pa_cons (pv 1) (pa_cons (pv 2) pa_nil)))))))))), ?_⟩
  refine ⟨_, rfl, rfl, _, rfl, ite2 (fun c => ?_) (fun c => ?_)⟩
  · obtain rfl : kind = 0 := nv_inj (of_decide_eq_true c)
    exact ⟨_, rfl, _, rfl, _, rfl, _, rfl, v, hv, o, a, b, rfl, hh, hw, ho, h⟩
  have n0 : kind ≠ 0 := fun z => c (by subst z; exact decide_eq_true rfl)
  refine ⟨_, rfl, rfl, _, rfl, ite2 (fun c => ?_) (fun c => ?_)⟩
  · obtain rfl : kind = 1 := nv_inj (of_decide_eq_true c)
    refine ⟨_, rfl, _, rfl, _, rfl, v, hv, o, a, rfl, hh, hw, ho, fun b' => ?_⟩
    have e : hvDo 1 o a b' hv = hvDo 1 o a b hv := by cases o <;> rfl
    rw [e]; exact h
  have n1 : kind ≠ 1 := fun z => c (by subst z; exact decide_eq_true rfl)
  refine ⟨_, rfl, rfl, _, rfl, ite2 (fun c => ?_) (fun c => ?_)⟩
  · obtain rfl : kind = 2 := nv_inj (of_decide_eq_true c)
    refine ⟨_, rfl, _, rfl, _, rfl, v, hv, o, a, rfl, hh, hw, ho, fun b' => ?_⟩
    have e : hvDo 2 o a b' hv = hvDo 2 o a b hv := by cases o <;> rfl
    rw [e]; exact h
  have n2 : kind ≠ 2 := fun z => c (by subst z; exact decide_eq_true rfl)
  refine ⟨_, rfl, rfl, _, rfl, ite2 (fun c => ?_) (fun c => ?_)⟩
  · obtain rfl : kind = 3 := nv_inj (of_decide_eq_true c)
    refine ⟨_, rfl, _, rfl, _, rfl, v, hv, o, a, rfl, hh, hw, ho, fun b' => ?_⟩
    have e : hvDo 3 o a b' hv = hvDo 3 o a b hv := by cases o <;> rfl
    rw [e]; exact h
  have n3 : kind ≠ 3 := fun z => c (by subst z; exact decide_eq_true rfl)
  refine ⟨_, rfl, rfl, _, rfl, ite2 (fun c => ?_) (fun c => ?_)⟩
  · obtain rfl : kind = 4 := nv_inj (of_decide_eq_true c)
    refine ⟨_, rfl, _, rfl, _, rfl, v, hv, o, a, rfl, hh, hw, ho, fun b' => ?_⟩
    have e : hvDo 4 o a b' hv = hvDo 4 o a b hv := by
      match o with
      | 0 => rfl
      | 1 => rfl
      | n + 2 => rfl
    rw [e]; exact h
  have n4 : kind ≠ 4 := fun z => c (by subst z; exact decide_eq_true rfl)
  obtain rfl : kind = 5 := by omega
  refine ⟨_, rfl, _, rfl, v, hv, o, rfl, hh, hw, ho, fun a' b' => ?_⟩
  have e : hvDo 5 o a' b' hv = hvDo 5 o a b hv := by cases o <;> rfl
  rw [e]; exact h
end
end Sh

set_option Elab.async false
set_option linter.all false
set_option maxRecDepth 100000
set_option maxHeartbeats 4000000
namespace Sh
open PySem PySem.Spec PyProof.Rows L2
theorem short_put {f : Str} {v : V} : ∀ {fs : List (Str × V)} {n : Nat}, fs.length ≤ n → (putF f v fs).length ≤ n + 1
  | [], n, _ => by show 1 ≤ n + 1; omega
  | (g, x) :: r, n, h => by
    unfold putF
    by_cases e : g = f
    · rw [if_pos e]; simp at h ⊢; omega
    · rw [if_neg e]
      have : r.length ≤ n - 1 := by simp at h; omega
      have q := short_put (f := f) (v := v) this
      simp at h ⊢
      omega
theorem put_all_gen : ∀ (names : List Str) (vals : List V) (done : List Str) (dv : List V), (done ++ names).Nodup → done.length = dv.length → names.length = vals.length →
    (names.zip vals).foldl (fun fs p => putF p.1 p.2 fs) (done.zip dv) = (done ++ names).zip (dv ++ vals)
  | [], [], done, dv, _, _, _ => by simp
  | f :: names, v :: vals, done, dv, nd, h1, h2 => by
    rw [List.zip_cons_cons, List.foldl_cons]
    have hf : fIx f done = none := by
      have : f ∉ done := fun z => by
        rw [List.nodup_append] at nd
        exact nd.2.2 f z f List.mem_cons_self rfl
      clear nd h1
      induction done with
      | nil => rfl
      | cons g r ih =>
        unfold fIx
        rw [if_neg (fun z => this (by rw [z]; exact List.mem_cons_self)), ih fun z => this (List.mem_cons_of_mem _ z)]
        rfl
    show (names.zip vals).foldl (fun fs p => putF p.1 p.2 fs) (putF f v (done.zip dv)) = _
    rw [put_new hf h1]
    have q := put_all_gen names vals (done ++ [f]) (dv ++ [v]) (by simpa using nd) (by simp [h1]) (by simpa using h2)
    rw [q]
    simp
theorem put_all {names : List Str} {vals : List V} (nd : names.Nodup) (h : names.length = vals.length) : (names.zip vals).foldl (fun fs p => putF p.1 p.2 fs) [] = names.zip vals := by
  have q := put_all_gen names vals [] [] (by simpa using nd) rfl h
  simpa using q
/-! ### operations and histories in the heap -/
def endV (o : Ag13.Op) : V := match o.ended with
  | none => .non
  | some e => nv e.1
def ansV (o : Ag13.Op) : V := match o.ended with
  | none => .non
  | some e => .int e.2
def opV (n : Nat) (o : Ag13.Op) : List V := [nv n, nv o.client, nv o.thing, nv o.op, nv o.a, nv o.b, nv o.begun, endV o, ansV o]
def OpAt (d : Ad) (H : Hp) (p : Addr) (n : Nat) (o : Ag13.Op) : Prop := InsAt d.cO opN H p (opV n o)
section
variable {K : PySem.W.Frag} {d : Ad} {H H' : Hp} {p : Addr} {n : Nat} {o : Ag13.Op}
theorem OpAt.same (e : Same H H') (h : OpAt d H p n o) : OpAt d H' p n o := InsAt.same e h
theorem OpAt.number (h : OpAt d H p n o) (C : Tc K d) : FldOk K H p "number" (nv n) := h.fld (i := 0) C.cO (C.nO _ (by decide +kernel)) (by decide +kernel) rfl
theorem OpAt.client (h : OpAt d H p n o) (C : Tc K d) : FldOk K H p "client" (nv o.client) := h.fld (i := 1) C.cO (C.nO _ (by decide +kernel)) (by decide +kernel) rfl
theorem OpAt.thing (h : OpAt d H p n o) (C : Tc K d) : FldOk K H p "thing" (nv o.thing) := h.fld (i := 2) C.cO (C.nO _ (by decide +kernel)) (by decide +kernel) rfl
theorem OpAt.action (h : OpAt d H p n o) (C : Tc K d) : FldOk K H p "action" (nv o.op) := h.fld (i := 3) C.cO (C.nO _ (by decide +kernel)) (by decide +kernel) rfl
theorem OpAt.fa (h : OpAt d H p n o) (C : Tc K d) : FldOk K H p "a" (nv o.a) := h.fld (i := 4) C.cO (C.nO _ (by decide +kernel)) (by decide +kernel) rfl
theorem OpAt.fb (h : OpAt d H p n o) (C : Tc K d) : FldOk K H p "b" (nv o.b) := h.fld (i := 5) C.cO (C.nO _ (by decide +kernel)) (by decide +kernel) rfl
theorem OpAt.began (h : OpAt d H p n o) (C : Tc K d) : FldOk K H p "began" (nv o.begun) := h.fld (i := 6) C.cO (C.nO _ (by decide +kernel)) (by decide +kernel) rfl
theorem OpAt.ended (h : OpAt d H p n o) (C : Tc K d) : FldOk K H p "ended" (endV o) := h.fld (i := 7) C.cO (C.nO _ (by decide +kernel)) (by decide +kernel) rfl
theorem OpAt.answer (h : OpAt d H p n o) (C : Tc K d) : FldOk K H p "answer" (ansV o) := h.fld (i := 8) C.cO (C.nO _ (by decide +kernel)) (by decide +kernel) rfl
end
section
variable {P : Program} {w : World} {K : PySem.W.Frag} {mg : Str → Option Value} {base : Heap} {d : Ad}
def spOpInit (d : Ad) : Sp := fun vs H Q _ => ∃ (p dx : Addr) (n c t o a b g : Nat), vs = [.ref p, nv n, nv c, nv t, nv o, nv a, nv b, nv g] ∧ H p = some (.ins d.cO dx []) ∧
  ∀ H' : Hp, OpAt d H' p n ⟨c, t, o, a, b, g, none⟩ → (∀ b o, H b = some o → b ≠ p → H' b = some o) → Q .non H'
theorem ok_op_init {f : Addr} {fd : FuncData} (F : Fun K "__init__" "Operation.__init__" s_Operation_init f fd) (C : Tc K d) : FnOk P w K mg base CX0 1 f fd ["self", "number", "client", "thing", "action", "a", "b", "began"] (spOpInit d) := by
  refine F.ok sc_Operation_init (fun vs H Q E h => ?_) (fun cdv A outer s H vs Q E hr h => ?_)
  · obtain ⟨p, dx, n, c, t, o, a, b, g, rfl, _⟩ := h; rfl
  obtain ⟨p, dx, n, c, t, o, a, b, g, rfl, hp, k⟩ := h
  refine ⟨_, (pss_cons (ps_fld (pv 0) (pv 1) rfl) (pss_cons (ps_fld (pv 0) (pv 2) rfl) (pss_cons (ps_fld (pv 0) (pv 3) rfl) (pss_cons (ps_fld (pv 0) (pv 4) rfl) (pss_cons (ps_fld (pv 0) (pv 5) rfl) (pss_cons (ps_fld (pv 0) (pv 6) rfl) (pss_cons (ps_fld (pv 0) (pv 7) rfl) (pss_cons (ps_fld (pv 0) pe_non rfl) (pss_one (ps_fld (pv 0) pe_non rfl)))))))))), ?_⟩
  refine ⟨_, rfl, _, rfl, p, d.cO, dx, _, rfl, hp, C.cO, C.nO _ (by decide +kernel), Nat.lt_of_le_of_lt (Nat.le_refl 0) (by decide), ?_⟩
  refine ⟨_, rfl, _, rfl, p, d.cO, dx, _, rfl, upd_same, C.cO, C.nO _ (by decide +kernel), Nat.lt_of_le_of_lt (short_put (Nat.le_refl 0)) (by decide), ?_⟩
  refine ⟨_, rfl, _, rfl, p, d.cO, dx, _, rfl, upd_same, C.cO, C.nO _ (by decide +kernel), Nat.lt_of_le_of_lt (short_put (short_put (Nat.le_refl 0))) (by decide), ?_⟩
  refine ⟨_, rfl, _, rfl, p, d.cO, dx, _, rfl, upd_same, C.cO, C.nO _ (by decide +kernel), Nat.lt_of_le_of_lt (short_put (short_put (short_put (Nat.le_refl 0)))) (by decide), ?_⟩
  refine ⟨_, rfl, _, rfl, p, d.cO, dx, _, rfl, upd_same, C.cO, C.nO _ (by decide +kernel), Nat.lt_of_le_of_lt (short_put (short_put (short_put (short_put (Nat.le_refl 0))))) (by decide), ?_⟩
  refine ⟨_, rfl, _, rfl, p, d.cO, dx, _, rfl, upd_same, C.cO, C.nO _ (by decide +kernel), Nat.lt_of_le_of_lt (short_put (short_put (short_put (short_put (short_put (Nat.le_refl 0)))))) (by decide), ?_⟩
  refine ⟨_, rfl, _, rfl, p, d.cO, dx, _, rfl, upd_same, C.cO, C.nO _ (by decide +kernel), Nat.lt_of_le_of_lt (short_put (short_put (short_put (short_put (short_put (short_put (Nat.le_refl 0))))))) (by decide), ?_⟩
  refine ⟨_, rfl, p, d.cO, dx, _, rfl, upd_same, C.cO, C.nO _ (by decide +kernel), Nat.lt_of_le_of_lt (short_put (short_put (short_put (short_put (short_put (short_put (short_put (Nat.le_refl 0)))))))) (by decide), ?_⟩
  refine ⟨_, rfl, p, d.cO, dx, _, rfl, upd_same, C.cO, C.nO _ (by decide +kernel), Nat.lt_of_le_of_lt (short_put (short_put (short_put (short_put (short_put (short_put (short_put (short_put (Nat.le_refl 0))))))))) (by decide), ?_⟩
  refine k _ ⟨dx, upd_same.trans (congrArg (fun z => some (HO.ins d.cO dx z)) (put_all (names := opN) (vals := opV n ⟨c, t, o, a, b, g, none⟩) (by decide +kernel) rfl))⟩ fun y u e hy => ?_
  simp only [upd_upd]
  rw [upd_ne hy]
  exact e
/-! ### a history -/
structure HistX (d : Ad) (H : Hp) (a : Addr) (ks : List Nat) (ops : List (Nat × Ag13.Op)) (tm : Nat) (kt ol : Addr) (ad : List Addr) : Prop where
  ins : InsAt d.cH histN H a [.ref kt, .ref ol, nv tm]
  kt : H kt = some (.tup (ks.map nv))
  ol : H ol = some (.lst (ad.map V.ref))
  ops : Paired (fun (q : Nat × Ag13.Op) (p : Addr) => OpAt d H p q.1 q.2) ops ad
theorem HistX.same {H H' : Hp} {a : Addr} {ks : List Nat} {ops : List (Nat × Ag13.Op)} {tm : Nat} {kt ol : Addr} {ad : List Addr} (e : Same H H') (h : HistX d H a ks ops tm kt ol ad) : HistX d H' a ks ops tm kt ol ad :=
  ⟨h.ins.same e, e _ _ h.kt, e _ _ h.ol, Paired.mapP h.ops fun _ _ q => q.same e⟩
theorem HistX.fKinds {H : Hp} {a : Addr} {ks : List Nat} {ops : List (Nat × Ag13.Op)} {tm : Nat} {kt ol : Addr} {ad : List Addr} (h : HistX d H a ks ops tm kt ol ad) (C : Tc K d) : FldOk K H a "kinds" (.ref kt) := h.ins.fld (i := 0) C.cH (C.nH _ (by decide +kernel)) (by decide +kernel) rfl
theorem HistX.fOps {H : Hp} {a : Addr} {ks : List Nat} {ops : List (Nat × Ag13.Op)} {tm : Nat} {kt ol : Addr} {ad : List Addr} (h : HistX d H a ks ops tm kt ol ad) (C : Tc K d) : FldOk K H a "operations" (.ref ol) := h.ins.fld (i := 1) C.cH (C.nH _ (by decide +kernel)) (by decide +kernel) rfl
theorem HistX.fEvents {H : Hp} {a : Addr} {ks : List Nat} {ops : List (Nat × Ag13.Op)} {tm : Nat} {kt ol : Addr} {ad : List Addr} (h : HistX d H a ks ops tm kt ol ad) (C : Tc K d) : FldOk K H a "events" (nv tm) := h.ins.fld (i := 2) C.cH (C.nH _ (by decide +kernel)) (by decide +kernel) rfl
theorem Paired.getL {α β : Type} {R : α → β → Prop} : ∀ {xs : List α} {ys : List β} {i : Nat} {y : β}, Paired R xs ys → ys[i]? = some y → ∃ x, xs[i]? = some x ∧ R x y
  | _, _, _, _, .nil, e => by simp at e
  | _, _, 0, _, .cons r _, e => by simp at e; subst e; exact ⟨_, rfl, r⟩
  | _, _, i + 1, y, .cons _ t, e => by
    obtain ⟨x, h1, h2⟩ := Paired.getL (i := i) (y := y) t (by simpa using e)
    exact ⟨x, by simpa using h1, h2⟩
/-! ### is_client, has_thing, __init__ -/
def spIsClient : Sp := fun vs H Q _ => ∃ k : Nat, vs = [nv k] ∧ Q (.bl (decide (k < 4))) H
theorem ok_is_client {f : Addr} {fd : FuncData} (F : Fun K "is_client" "is_client" s_is_client f fd) (T : Tx K mg d) : FnOk P w K mg base CX0 1 f fd ["client"] spIsClient := by
  refine F.ok sc_is_client (fun vs H Q E h => ?_) (fun cdv A outer s H vs Q E hr h => ?_)
  · obtain ⟨k, rfl, _⟩ := h; rfl
  obtain ⟨k, rfl, h⟩ := h
  refine ⟨_, (pss_one (ps_ret (pe_cmpR op_in_seq (pv 0) (pe_gt T.g_CLIENTS) (by rfl)))), ?_⟩
  refine ⟨_, rfl, d.aC, _, rfl, .inr (T.g_CLIENTS.sq H), rfl, rfl, ?_⟩
  have e : inV (nv k) (([0, 1, 2, 3] : List Nat).map nv) = decide (k < 4) := by
    rw [inV_nv, Bool.eq_iff_iff]
    simp
    omega
  rw [← e] at h
  exact h
def spHasThing (d : Ad) : Sp := fun vs H Q _ => ∃ (a : Addr) (t : Nat) (ks : List Nat) (ops : List (Nat × Ag13.Op)) (tm : Nat) (kt ol : Addr) (ad : List Addr), vs = [.ref a, nv t] ∧ HistX d H a ks ops tm kt ol ad ∧ Q (.bl (decide (t < ks.length))) H
theorem ok_has_thing {f : Addr} {fd : FuncData} (F : Fun K "has_thing" "History.has_thing" s_History_has_thing f fd) (T : Tx K mg d) (C : Tc K d) : FnOk P w K mg base CX0 1 f fd ["self", "thing"] (spHasThing d) := by
  refine F.ok sc_History_has_thing (fun vs H Q E h => ?_) (fun cdv A outer s H vs Q E hr h => ?_)
  · obtain ⟨a, t, ks, ops, tm, kt, ol, ad, rfl, _⟩ := h; rfl
  obtain ⟨a, t, ks, ops, tm, kt, ol, ad, rfl, X, h⟩ := h
  refine ⟨_, (pss_one (ps_ret (pe_chain op_le op_lt pe_int (pv 1) (pe_callB call_len_seq (by rfl) T.len PySem.boot_len (pa_cons (pe_fld (pv 0) rfl) pa_nil))))), ?_⟩
  refine ⟨_, rfl, _, _, rfl, rfl, _, rfl, ?_⟩
  refine if_true_of (decide_eq_true (Int.natCast_nonneg t)) ?_
  refine ⟨_, rfl, (X.fKinds C).to ⟨kt, _, rfl, .inr (SqT.of X.kt), _, _, rfl, rfl, ?_⟩⟩
  have e : decide (t < ks.length) = decide ((t : Int) < (((ks.map nv).length : Nat) : Int)) := by
    apply decide_eq_decide.mpr
    rw [List.length_map]
    omega
  rw [e] at h
  exact h
def spHasOp (d : Ad) : Sp := fun vs H Q _ => ∃ (a : Addr) (n : Nat) (ks : List Nat) (ops : List (Nat × Ag13.Op)) (tm : Nat) (kt ol : Addr) (ad : List Addr), vs = [.ref a, nv n] ∧ HistX d H a ks ops tm kt ol ad ∧ Q (.bl (decide (n < ops.length))) H
theorem ok_has_op {f : Addr} {fd : FuncData} (F : Fun K "has_operation" "History.has_operation" s_History_has_operation f fd) (T : Tx K mg d) (C : Tc K d) : FnOk P w K mg base CX0 1 f fd ["self", "number"] (spHasOp d) := by
  refine F.ok sc_History_has_operation (fun vs H Q E h => ?_) (fun cdv A outer s H vs Q E hr h => ?_)
  · obtain ⟨a, n, ks, ops, tm, kt, ol, ad, rfl, _⟩ := h; rfl
  obtain ⟨a, n, ks, ops, tm, kt, ol, ad, rfl, X, h⟩ := h
  refine ⟨_, (pss_one (ps_ret (pe_chain op_le op_lt pe_int (pv 1) (pe_callB call_len_seq (by rfl) T.len PySem.boot_len (pa_cons (pe_fld (pv 0) rfl) pa_nil))))), ?_⟩
  refine ⟨_, rfl, _, _, rfl, rfl, _, rfl, ?_⟩
  refine if_true_of (decide_eq_true (Int.natCast_nonneg n)) ?_
  refine ⟨_, rfl, (X.fOps C).to ⟨ol, _, rfl, .inl (SqL.of X.ol), _, _, rfl, rfl, ?_⟩⟩
  have e : decide (n < ops.length) = decide ((n : Int) < (((ad.map V.ref).length : Nat) : Int)) := by
    apply decide_eq_decide.mpr
    rw [List.length_map, ← Paired.length X.ops]
    omega
  rw [e] at h
  exact h
def spHistInit (K : PySem.W.Frag) (d : Ad) : Sp := fun vs H Q _ => ∃ (p dx k : Addr) (ks : List Nat), vs = [.ref p, .ref k] ∧ H p = some (.ins d.cH dx []) ∧ (SqL K H k (ks.map nv) ∨ H k = some (.tup (ks.map nv))) ∧
  ∀ (H' : Hp) (kt ol : Addr), HistX d H' p ks [] 0 kt ol [] → (∀ b o, H b = some o → b ≠ p → H' b = some o) → H ol = none → Q .non H'
theorem ok_hist_init {f : Addr} {fd : FuncData} (F : Fun K "__init__" "History.__init__" s_History_init f fd) (T : Tx K mg d) (C : Tc K d) : FnOk P w K mg base CX0 1 f fd ["self", "kinds"] (spHistInit K d) := by
  refine F.ok sc_History_init (fun vs H Q E h => ?_) (fun cdv A outer s H vs Q E hr h => ?_)
  · obtain ⟨p, dx, k, ks, rfl, _⟩ := h; rfl
  obtain ⟨p, dx, k, ks, rfl, hp, hk, q⟩ := h
  refine ⟨_, (pss_cons (ps_fld (pv 0) (pe_callTy call_tuple_of (by rfl) T.tuple (by decide +kernel) (pa_cons (pv 1) pa_nil)) rfl) (pss_cons (ps_fld (pv 0) (pe_lst pa_nil) rfl) (pss_one (ps_fld (pv 0) pe_int rfl)))), ?_⟩
  -- behind self.kinds = tuple(kinds)
  have rest : ∀ (kt : Addr) (H1 : Hp), Same H H1 → H1 kt = some (.tup (ks.map nv)) → sFld K (tVar 0) (tC (.ref kt)) "kinds" { nx := tSeq (sFld K (tVar 0) (tLst tNil) "operations") (sFld K (tVar 0) (tC (.int 0)) "events") { nx := fun _ H' => Q .non H', rt := Q }, rt := Q } [some (.ref p), some (.ref k)] H1 := by
    intro kt H1 e1 hkt
    refine ⟨_, rfl, p, d.cH, dx, _, rfl, e1 _ _ hp, C.cH, C.nH _ (by decide +kernel), Nat.lt_of_le_of_lt (Nat.le_refl 0) (by decide), ?_⟩
    have pk : kt ≠ p := ne_of hkt (e1 _ _ hp) (by intro z; cases z)
    refine ⟨Nat.zero_le _, fun l hl => ?_⟩
    have lp : p ≠ l := ne_of_none upd_same hl
    have hl1 : H1 l = none := by rw [upd_ne lp.symm] at hl; exact hl
    have lk : kt ≠ l := ne_of_none hkt hl1
    refine ⟨_, rfl, p, d.cH, dx, _, rfl, (upd_ne lp).trans upd_same, C.cH, C.nH _ (by decide +kernel), Nat.lt_of_le_of_lt (short_put (Nat.le_refl 0)) (by decide), ?_⟩
    refine ⟨_, rfl, p, d.cH, dx, _, rfl, upd_same, C.cH, C.nH _ (by decide +kernel), Nat.lt_of_le_of_lt (short_put (short_put (Nat.le_refl 0))) (by decide), ?_⟩
    refine q _ kt l ⟨⟨dx, upd_same.trans (congrArg (fun z => some (HO.ins d.cH dx z)) (put_all (names := histN) (vals := [.ref kt, .ref l, nv 0]) (by decide +kernel) rfl))⟩, ?_, ?_, .nil⟩ (fun y u e hy => ?_) (e1.free hl1)
    · rw [upd_upd, upd_ne pk, upd_ne lk, upd_ne pk]; exact hkt
    · rw [upd_upd, upd_ne lp.symm, upd_same]; rfl
    · have e' := e1 _ _ e
      rw [upd_upd, upd_ne hy, upd_ne (ne_of_none e' hl1), upd_ne hy]
      exact e'
  rcases hk with hk | hk
  · exact ⟨_, rfl, k, _, rfl, .inl ⟨hk, fun l hl => rest l _ (same_new hl _) upd_same⟩⟩
  · exact ⟨_, rfl, k, _, rfl, .inr ⟨SqT.of hk, rest k _ (Same.refl _) hk⟩⟩
/-! ### pending -/
def isPend (c : Nat) (o : Ag13.Op) : Bool := o.client == c && o.ended.isNone
def spPending (d : Ad) : Sp := fun vs H Q _ => ∃ (a : Addr) (c : Nat) (ks : List Nat) (ops : List (Nat × Ag13.Op)) (tm : Nat) (kt ol : Addr) (ad : List Addr), vs = [.ref a, nv c] ∧ HistX d H a ks ops tm kt ol ad ∧
  (∀ (i : Nat) (q : Nat × Ag13.Op) (p : Addr), ops.findIdx? (fun q => isPend c q.2) = some i → ops[i]? = some q → ad[i]? = some p → Q (.ref p) H) ∧ (ops.findIdx? (fun q => isPend c q.2) = none → Q .non H)
theorem findIdx_none_take {α : Type} {f : α → Bool} {l : List α} (h : ∀ (i : Nat) (x : α), l[i]? = some x → f x = false) : l.findIdx? f = none := by
  rw [List.findIdx?_eq_none_iff]
  intro x hx
  obtain ⟨i, hi⟩ := List.mem_iff_getElem?.mp hx
  exact h i x hi
theorem findIdx_at {α : Type} {f : α → Bool} {l : List α} {i : Nat} {x : α} (hx : l[i]? = some x) (hf : f x = true) (h : ∀ (j : Nat) (y : α), j < i → l[j]? = some y → f y = false) : l.findIdx? f = some i := by
  rw [List.findIdx?_eq_some_iff_getElem]
  obtain ⟨hi, e⟩ := List.getElem?_eq_some_iff.mp hx
  refine ⟨hi, by rw [e]; exact hf, fun j hj => ?_⟩
  have := h j l[j] hj (List.getElem?_eq_getElem (by omega))
  simp [this]
theorem ok_pending {f : Addr} {fd : FuncData} (F : Fun K "pending" "History.pending" s_History_pending f fd) (C : Tc K d) : FnOk P w K mg base CX0 1 f fd ["self", "client"] (spPending d) := by
  refine F.ok sc_History_pending (fun vs H Q E h => ?_) (fun cdv A outer s H vs Q E hr h => ?_)
  · obtain ⟨a, c, ks, ops, tm, kt, ol, ad, rfl, _⟩ := h; rfl
  obtain ⟨a, c, ks, ops, tm, kt, ol, ad, rfl, X, h1, h2⟩ := h
  refine ⟨_, (pss_cons (ps_for PassesOwn.never rfl (pi_list (pe_fld (pv 0) rfl)) (pg_name (i := 2) sc_History_pending.nd rfl (by first | exact Or.inl rfl | exact Or.inr rfl)) (pss_one (ps_if (PW.pt (pw_and (pt_cmpR op_eq (pe_fld (pv 2) rfl) (pv 1) (nomark _)) (pw_and1 (pt_cmpR op_isN (pe_fld (pv 2) rfl) pe_non (nomark _))))) (pss_one (ps_ret (pv 2))) pss_nil))) (pss_one (ps_ret pe_non))), ?_⟩
  obtain ⟨_, _, _, g1, g2, g3, g4⟩ := X.fOps C
  refine ⟨_, rfl, a, _, _, _, _, rfl, g1, g2, g3, g4, ol, rfl, ⟨_, SqL.of X.ol⟩, for_list (K := K) (a := ol) (xs := ad.map V.ref) (fun i σ H' => ∃ v : Option V, σ = [some (.ref a), some (nv c), v] ∧ H' = H ∧ ∀ (j : Nat) (q : Nat × Ag13.Op), j < i → ops[j]? = some q → isPend c q.2 = false)
    ⟨none, rfl, rfl, fun j q hj => absurd hj (by omega)⟩ (fun i σ H' _ ⟨_, _, e, _⟩ => by rw [e]; exact SqL.of X.ol) ?_ ?_⟩
  · rintro i y σ H' hi ⟨v, rfl, rfl, hno⟩
    rw [List.getElem?_map] at hi
    obtain ⟨p, hp, rfl⟩ := Option.map_eq_some_iff.mp hi
    obtain ⟨⟨n, o⟩, hq, ho⟩ := Paired.getL X.ops hp
    have ho : OpAt d H' p n o := ho
    refine ⟨_, rfl, (ho.client C).to ⟨_, rfl, rfl, _, rfl, ite2 (fun c0 => ?_) (fun c0 => ?_)⟩⟩
    · have ec : o.client = c := nv_inj (of_decide_eq_true c0)
      refine ⟨_, rfl, (ho.ended C).to ⟨rfl, _, rfl, ite2 (fun c1 => ?_) (fun c1 => ?_)⟩⟩
      · have e1 : o.ended = none := by
          have z : endV o = .non := of_decide_eq_true c1
          unfold endV at z
          split at z
          · assumption
          · cases z
        refine ⟨_, rfl, h1 i (n, o) p (findIdx_at hq (by simp [isPend, ec, e1]) hno) hq hp⟩
      · have e1 : o.ended ≠ none := fun z => c1 (decide_eq_true (by unfold endV; rw [z]))
        refine ⟨_, rfl, rfl, fun j q hj hq' => ?_⟩
        rcases Nat.lt_or_eq_of_le (Nat.le_of_lt_succ hj) with hj | rfl
        · exact hno j q hj hq'
        · rw [hq] at hq'
          cases hq'
          have : o.ended.isNone = false := by
            cases z : o.ended with
            | none => exact absurd z e1
            | some _ => rfl
          simp [isPend, this]
    · have ec : o.client ≠ c := fun z => c0 (decide_eq_true (by rw [z]))
      refine ⟨_, rfl, rfl, fun j q hj hq' => ?_⟩
      rcases Nat.lt_or_eq_of_le (Nat.le_of_lt_succ hj) with hj | rfl
      · exact hno j q hj hq'
      · rw [hq] at hq'
        cases hq'
        simp [isPend, ec]
  · rintro σ H' ⟨v, rfl, rfl, hno⟩
    refine h2 (findIdx_none_take fun i q hq => hno i q ?_ hq)
    have := (List.getElem?_eq_some_iff.mp hq).1
    rw [List.length_map, ← Paired.length X.ops]
    exact this
/-! ### call -/
def spCall (d : Ad) : Sp := fun vs H Q _ => ∃ (a : Addr) (c t o x y : Nat) (ks : List Nat) (ops : List (Nat × Ag13.Op)) (tm : Nat) (kt ol : Addr) (ad : List Addr), vs = [.ref a, nv c, nv t, nv o, nv x, nv y] ∧ HistX d H a ks ops tm kt ol ad ∧
  (∀ k ∈ ks, k < 6) ∧ ops.length ≤ 9 ∧
  (¬ (c < 4 ∧ t < ks.length ∧ o < Ag13.opsOf (ks.getD t 0)) → Q (.int (-1)) H) ∧
  ((c < 4 ∧ t < ks.length ∧ o < Ag13.opsOf (ks.getD t 0)) → (ops.findIdx? (fun q => isPend c q.2)).isSome = true → Q (.int (-2)) H) ∧
  ((c < 4 ∧ t < ks.length ∧ o < Ag13.opsOf (ks.getD t 0)) → ops.findIdx? (fun q => isPend c q.2) = none → ops.length = 9 → Q (.int (-5)) H) ∧
  ((c < 4 ∧ t < ks.length ∧ o < Ag13.opsOf (ks.getD t 0)) → ops.findIdx? (fun q => isPend c q.2) = none → ops.length < 9 →
    ∀ (H' : Hp) (p : Addr), HistX d H' a ks (ops ++ [(ops.length, ⟨c, t, o, x, y, tm, none⟩)]) (tm + 1) kt ol (ad ++ [p]) → H p = none → (∀ b u, H b = some u → b ≠ a → b ≠ ol → H' b = some u) → Q (nv ops.length) H')
theorem kind_at {ks : List Nat} {t : Nat} (h : t < ks.length) : atI (ks.map nv) (t : Int) = some (nv (ks.getD t 0)) := by
  refine atI_nat ?_
  rw [List.getElem?_map, List.getElem?_eq_getElem h, List.getD, List.getElem?_eq_getElem h]
  rfl
theorem getD_mem {ks : List Nat} {t : Nat} (h : t < ks.length) : ks.getD t 0 ∈ ks := by
  rw [List.getD, List.getElem?_eq_getElem h]
  exact List.getElem_mem h
theorem ok_call {f f1 f2 f3 f4 f5 : Addr} {fd d1 d2 d3 d4 d5 : FuncData} (F : Fun K "call" "History.call" s_History_call f fd) (T : Tx K mg d) (C : Tc K d)
    (o_is_client : OkD P w K mg base 1 "is_client" ["client"] spIsClient f1 d1) (o_History_has_thing : OkM P w K mg base 1 d.cH "has_thing" ["self", "thing"] (spHasThing d) f2 d2)
    (o_is_action : OkD P w K mg base 1 "is_action" ["kind", "action"] spIsAction f3 d3) (o_History_pending : OkM P w K mg base 1 d.cH "pending" ["self", "client"] (spPending d) f4 d4)
    (o_Operation : OkC P w K mg base 1 d.cO "Operation" ["self", "number", "client", "thing", "action", "a", "b", "began"] (spOpInit d) f5 d5) :
    FnOk P w K mg base CX0 3 f fd ["self", "client", "thing", "action", "a", "b"] (spCall d) := by
  refine F.ok sc_History_call (fun vs H Q E h => ?_) (fun cdv A outer s H vs Q E hr h => ?_)
  · obtain ⟨a, c, t, o, x, y, ks, ops, tm, kt, ol, ad, rfl, _⟩ := h; rfl
  obtain ⟨a, c, t, o, x, y, ks, ops, tm, kt, ol, ad, rfl, X, hks, hlen, h1, h2, h3, h4⟩ := h
  have la : ad.length = ops.length := (Paired.length X.ops).symm
  obtain ⟨dx, hins⟩ := id X.ins
  have noF : ∀ m : Str, fIx m histN = none → (histN.zip [V.ref kt, .ref ol, nv tm]).lookup m = none := fun m hm => look_no hm
  refine ⟨_, (pss_cons (ps_if (PW.pt (pw_or (pt_not (pt_val (pe_cd o_is_client (hr.mono (by omega)) (pa_cons (pv 1) pa_nil)))) (pw_or (pt_not (pt_val (pe_md (pv 0) o_History_has_thing (hr.mono (by omega)) (pa_cons (pv 2) pa_nil)))) (pw_or1 (pt_not (pt_val (pe_cd o_is_action (hr.mono (by omega)) (pa_cons (pe_ix ix_tup (pe_fld (pv 0) rfl) (pv 2) (fun _ _ => rfl)) (pa_cons (pv 3) pa_nil))))))))) (pss_one (ps_ret (pe_gi T.g_NO_SUCH))) pss_nil) (pss_cons (ps_if (pt_cmpR op_notN (pe_md (pv 0) o_History_pending (hr.mono (by omega)) (pa_cons (pv 1) pa_nil)) pe_non (nomark _)) (pss_one (ps_ret (pe_gi T.g_NOT_NOW))) pss_nil) (pss_cons (ps_set (i := 6) sc_History_call.nd rfl (by first | exact Or.inl rfl | exact Or.inr rfl) (pe_callB call_len_seq (by rfl) T.len PySem.boot_len (pa_cons (pe_fld (pv 0) rfl) pa_nil))) (pss_cons (ps_if (pt_cmpR op_eq (pv 6) (pe_gi T.g_MOST_OPERATIONS) (nomark _)) (pss_one (ps_ret (pe_gi T.g_FULL))) pss_nil) (pss_cons (ps_expr (pe_bm PySem.F.plainAttrs_list PySem.F.slot_list_append PySem.F.type_list_append mt_append (pe_fld (pv 0) rfl) (pa_cons (pe_mk o_Operation (hr.mono (by omega)) (pa_cons (pv 6) (pa_cons (pv 1) (pa_cons (pv 2) (pa_cons (pv 3) (pa_cons (pv 4) (pa_cons (pv 5) (pa_cons (pe_fld (pv 0) rfl) pa_nil)))))))) pa_nil))) (pss_cons (ps_fldaug (pv 0) pe_int in_add) (pss_one (ps_ret (pv 6))))))))), ?_⟩
  refine ⟨_, rfl, c, rfl, _, rfl, ?_⟩
  by_cases hc : c < 4
  case neg =>
    rw [decide_eq_false hc]
    exact iteT (iteT (h1 fun z => hc z.1))
  rw [decide_eq_true hc]
  refine iteF ?_
  refine ⟨_, rfl, a, dx, _, rfl, hins, noF _ (by decide +kernel), _, rfl, a, t, ks, ops, tm, kt, ol, ad, rfl, X, _, rfl, ?_⟩
  by_cases ht : t < ks.length
  case neg =>
    rw [decide_eq_false ht]
    exact iteT (iteT (h1 fun z => ht z.2.1))
  rw [decide_eq_true ht]
  refine iteF ?_
  refine ⟨_, rfl, (X.fKinds C).to ⟨_, rfl, kt, _, _, _, rfl, rfl, SqT.of X.kt, kind_at ht, _, rfl, ks.getD t 0, o, rfl, hks _ (getD_mem ht), _, rfl, ?_⟩⟩
  by_cases ho : o < Ag13.opsOf (ks.getD t 0)
  case neg =>
    rw [decide_eq_false ho]
    exact iteT (h1 fun z => ho z.2.2)
  rw [decide_eq_true ho]
  refine iteF ?_
  -- pending
  refine ⟨_, rfl, a, dx, _, rfl, hins, noF _ (by decide +kernel), _, rfl, a, c, ks, ops, tm, kt, ol, ad, rfl, X, fun i q p hi hq hp => ?_, fun hn => ?_⟩
  · refine ⟨rfl, _, rfl, iteT (h2 ⟨hc, ht, ho⟩ (by rw [hi]; rfl))⟩
  refine ⟨rfl, _, rfl, iteF ?_⟩
  refine ⟨_, rfl, (X.fOps C).to ⟨ol, _, rfl, .inl (SqL.of X.ol), ?_⟩⟩
  have el : ((ad.map V.ref).length : Int) = (ops.length : Int) := by rw [List.length_map, la]
  rw [el]
  refine ⟨_, rfl, rfl, _, rfl, ite2 (fun c9 => ?_) (fun c9 => ?_)⟩
  · exact h3 ⟨hc, ht, ho⟩ hn (nv_inj (b := 9) (of_decide_eq_true c9))
  have l9 : ops.length < 9 := by
    have : ops.length ≠ 9 := fun z => c9 (by rw [z]; exact decide_eq_true rfl)
    omega
  refine ⟨_, rfl, (X.fOps C).to ⟨.inl ⟨rfl, _, SqL.of X.ol⟩, ?_⟩⟩
  refine ⟨_, rfl, _, rfl, _, rfl, _, rfl, _, rfl, _, rfl, _, rfl, (X.fEvents C).to ?_⟩
  intro p dp hp hdp ne
  have e1 : Same H (upd (upd H dp (.own p)) p (.ins d.cO dp [])) := fun b u q => by
    rw [upd_ne (ne_of_none q hp), upd_ne (ne_of_none q hdp)]; exact q
  refine ⟨p, dp, ops.length, c, t, o, x, y, tm, rfl, upd_same, fun H2 O2 k2 => ⟨rfl, ?_⟩⟩
  have e2 : Same H H2 := fun b u q => k2 b u (e1 b u q) (ne_of_none q hp)
  have X2 := X.same e2
  refine ⟨ol, _, _, rfl, rfl, X2.ol, szl (by rw [List.length_map]; omega), ?_⟩
  have nao : a ≠ ol := ne_of hins X.ol (by intro z; cases z)
  obtain ⟨dx2, hins2⟩ := id X2.ins
  have npo : p ≠ ol := fun z => by rw [z, X.ol] at hp; cases hp
  have npa : p ≠ a := fun z => by rw [z, hins] at hp; cases hp
  refine ⟨_, rfl, a, d.cH, dx2, _, _, rfl, (upd_ne nao).trans hins2, C.cH, C.nH _ (by decide +kernel), look_at (i := 2) (by decide +kernel) rfl, _, _, rfl, rfl, dx2, _, (upd_ne nao).trans hins2, (by rw [List.length_zip]; show min 3 3 < 1000; decide), ?_⟩
  refine ⟨_, rfl, ?_⟩
  refine h4 ⟨hc, ht, ho⟩ hn l9 _ p ?_ hp ?_
  · have ft : ∀ b u, H2 b = some u → b ≠ a → b ≠ ol → upd (upd H2 ol (.lst (ad.map V.ref ++ [.ref p]))) a (.ins d.cH dx2 (putF "events" (.int ((tm : Int) + 1)) (histN.zip [.ref kt, .ref ol, nv tm]))) b = some u := fun b u q h1 h2 => by
      rw [upd_ne h1, upd_ne h2]; exact q
    have nka : kt ≠ a := ne_of X.kt hins (by intro z; cases z)
    have nko : kt ≠ ol := ne_of X.kt X.ol (by intro z; cases z)
    refine ⟨⟨dx2, upd_same.trans (congrArg (fun z => some (HO.ins d.cH dx2 z)) ?_)⟩, ft _ _ X2.kt nka nko, ?_, ?_⟩
    · rw [put_at (i := 2) (by decide +kernel) (by show 2 < 3; decide)]
      rfl
    · rw [upd_ne nao.symm, upd_same, List.map_append]; rfl
    · have st : ∀ (q : Nat × Ag13.Op) (b : Addr), OpAt d H2 b q.1 q.2 → OpAt d (upd (upd H2 ol (.lst (ad.map V.ref ++ [.ref p]))) a (.ins d.cH dx2 (putF "events" (.int ((tm : Int) + 1)) (histN.zip [.ref kt, .ref ol, nv tm])))) b q.1 q.2 := fun q b ⟨db, hb⟩ => by
        have n1 : b ≠ ol := ne_of hb X2.ol (by intro z; cases z)
        have n2 : b ≠ a := fun z => by
          subst z
          rw [hins2] at hb
          injection hb with hb
          injection hb with _ _ hb
          have : (histN.zip [V.ref kt, .ref ol, nv tm]).length = (opN.zip (opV q.1 q.2)).length := by rw [hb]
          revert this
          simp [histN, opN, opV]
        exact ⟨db, ft b _ hb n2 n1⟩
      refine Paired.snoc (Paired.mapP X2.ops st) (st (ops.length, _) p O2)
  · intro b u q h1 h2
    rw [upd_ne h1, upd_ne h2]
    exact e2 b u q
/-! ### end -/
def spEnd (d : Ad) : Sp := fun vs H Q _ => ∃ (a : Addr) (c : Nat) (v : Int) (ks : List Nat) (ops : List (Nat × Ag13.Op)) (tm : Nat) (kt ol : Addr) (ad : List Addr), vs = [.ref a, nv c, .int v] ∧ HistX d H a ks ops tm kt ol ad ∧ (ops.map (·.1)).Nodup ∧
  (¬ c < 4 → Q (.int (-1)) H) ∧ (c < 4 → ops.findIdx? (fun q => isPend c q.2) = none → Q (.int (-2)) H) ∧
  (c < 4 → ∀ (i : Nat) (q : Nat × Ag13.Op), ops.findIdx? (fun q => isPend c q.2) = some i → ops[i]? = some q →
    ∀ (H' : Hp), HistX d H' a ks (ops.set i (q.1, { q.2 with ended := some (tm, v) })) (tm + 1) kt ol ad → (∀ b u, H b = some u → b ≠ a → b ∉ ad → H' b = some u) → Q (nv q.1) H')
theorem ins_ne {H : Hp} {a b : Addr} {C1 C2 : Addr} {n1 n2 : List Str} {v1 v2 : List V} (h1 : InsAt C1 n1 H a v1) (h2 : InsAt C2 n2 H b v2) (hl : (n1.zip v1).length ≠ (n2.zip v2).length) : a ≠ b := by
  rintro rfl
  obtain ⟨_, h1⟩ := h1
  obtain ⟨_, h2⟩ := h2
  rw [h1] at h2
  injection h2 with h2
  injection h2 with _ _ h2
  exact hl (by rw [h2])
theorem opV_len (n : Nat) (o : Ag13.Op) : (opN.zip (opV n o)).length = 9 := rfl
theorem histV_len (x y z : V) : (histN.zip [x, y, z]).length = 3 := rfl
theorem op_inj {H : Hp} {p : Addr} {n m : Nat} {o u : Ag13.Op} (h1 : OpAt d H p n o) (h2 : OpAt d H p m u) : n = m := by
  obtain ⟨_, h1⟩ := h1
  obtain ⟨_, h2⟩ := h2
  rw [h1] at h2
  injection h2 with h2
  injection h2 with _ _ h2
  have : nv n = nv m := by
    have z := congrArg (fun l : List (Str × V) => l.head?.map (·.2)) h2
    simpa [opN, opV] using z
  exact nv_inj this
theorem paired_set {α β : Type} {R R' : α → β → Prop} : ∀ {xs : List α} {ys : List β} {i : Nat} {x' : α} {y : β}, Paired R xs ys → ys[i]? = some y → R' x' y → (∀ (j : Nat) (x : α) (z : β), j ≠ i → xs[j]? = some x → ys[j]? = some z → R x z → R' x z) → Paired R' (xs.set i x') ys
  | _, _, _, _, _, .nil, e, _, _ => by simp at e
  | _, _, 0, _, _, .cons r t, e, r', k => by
    simp at e; subst e
    refine .cons r' ?_
    have rest : ∀ {xs : List _} {ys : List _}, Paired R xs ys → (∀ (j : Nat) x z, xs[j]? = some x → ys[j]? = some z → R x z → R' x z) → Paired R' xs ys := by
      intro xs ys q
      induction q with
      | nil => intro _; exact .nil
      | cons r t ih => intro k; exact .cons (k 0 _ _ rfl rfl r) (ih fun j x z h1 h2 => k (j + 1) x z (by simpa using h1) (by simpa using h2))
    exact rest t fun j x z h1 h2 => k (j + 1) x z (by omega) (by simpa using h1) (by simpa using h2)
  | _, _, i + 1, _, _, .cons r t, e, r', k => by
    refine .cons (k 0 _ _ (by omega) rfl rfl r) ?_
    exact paired_set t (by simpa using e) r' fun j x z hj h1 h2 => k (j + 1) x z (by omega) (by simpa using h1) (by simpa using h2)
theorem ok_end {f f1 f4 : Addr} {fd d1 d4 : FuncData} (F : Fun K "end" "History.end" s_History_end f fd) (T : Tx K mg d) (C : Tc K d)
    (o_is_client : OkD P w K mg base 1 "is_client" ["client"] spIsClient f1 d1) (o_History_pending : OkM P w K mg base 1 d.cH "pending" ["self", "client"] (spPending d) f4 d4) :
    FnOk P w K mg base CX0 2 f fd ["self", "client", "answer"] (spEnd d) := by
  refine F.ok sc_History_end (fun vs H Q E h => ?_) (fun cdv A outer s H vs Q E hr h => ?_)
  · obtain ⟨a, c, v, ks, ops, tm, kt, ol, ad, rfl, _⟩ := h; rfl
  obtain ⟨a, c, v, ks, ops, tm, kt, ol, ad, rfl, X, nd, h1, h2, h3⟩ := h
  obtain ⟨dx, hins⟩ := id X.ins
  have noF : ∀ m : Str, fIx m histN = none → (histN.zip [V.ref kt, .ref ol, nv tm]).lookup m = none := fun m hm => look_no hm
  refine ⟨_, (pss_cons (ps_if (pt_not (pt_val (pe_cd o_is_client (hr.mono (by omega)) (pa_cons (pv 1) pa_nil)))) (pss_one (ps_ret (pe_gi T.g_NO_SUCH))) pss_nil) (pss_cons (ps_set (i := 3) sc_History_end.nd rfl (by first | exact Or.inl rfl | exact Or.inr rfl) (pe_md (pv 0) o_History_pending (hr.mono (by omega)) (pa_cons (pv 1) pa_nil))) (pss_cons (ps_if (pt_cmpR op_isN (pv 3) pe_non (nomark _)) (pss_one (ps_ret (pe_gi T.g_NOT_NOW))) pss_nil) (pss_cons (ps_fld (pv 3) (pe_fld (pv 0) rfl) rfl) (pss_cons (ps_fld (pv 3) (pv 2) rfl) (pss_cons (ps_fldaug (pv 0) pe_int in_add) (pss_one (ps_ret (pe_fld (pv 3) rfl))))))))), ?_⟩
  refine ⟨_, rfl, c, rfl, _, rfl, ?_⟩
  by_cases hc : c < 4
  case neg =>
    rw [decide_eq_false hc]
    exact iteT (h1 hc)
  rw [decide_eq_true hc]
  refine iteF ?_
  refine ⟨_, rfl, a, dx, _, rfl, hins, noF _ (by decide +kernel), _, rfl, a, c, ks, ops, tm, kt, ol, ad, rfl, X, fun i q p hi hq hp => ?_, fun hn => ?_⟩
  case refine_2 => exact ⟨_, rfl, rfl, _, rfl, iteT (h2 hc hn)⟩
  obtain ⟨n, o⟩ := q
  obtain ⟨⟨n', o'⟩, hq', O⟩ := Paired.getL X.ops hp
  rw [hq] at hq'
  cases hq'
  have O : OpAt d H p n o := O
  obtain ⟨dp, hO⟩ := id O
  have npa : p ≠ a := ins_ne O X.ins (by rw [opV_len, histV_len]; decide)
  refine ⟨_, rfl, rfl, _, rfl, iteF ?_⟩
  refine ⟨_, rfl, (X.fEvents C).to ⟨_, rfl, p, d.cO, dp, _, rfl, hO, C.cO, C.nO _ (by decide +kernel), (by rw [opV_len]; decide), ?_⟩⟩
  rw [put_at (i := 7) (by decide +kernel) (by show 7 < 9; decide)]
  refine ⟨_, rfl, _, rfl, p, d.cO, dp, _, rfl, upd_same, C.cO, C.nO _ (by decide +kernel), (by rw [List.length_zip]; show min 9 9 < 1000; decide), ?_⟩
  rw [put_at (i := 8) (by decide +kernel) (by show 8 < 9; decide), upd_upd]
  refine ⟨_, rfl, a, d.cH, dx, _, _, rfl, (upd_ne npa.symm).trans hins, C.cH, C.nH _ (by decide +kernel), look_at (i := 2) (by decide +kernel) rfl, _, _, rfl, rfl, dx, _, (upd_ne npa.symm).trans hins, (by rw [histV_len]; decide), ?_⟩
  rw [put_at (i := 2) (by decide +kernel) (by show 2 < 3; decide)]
  have O' : OpAt d (upd (upd H p (.ins d.cO dp (opN.zip (((opV n o).set 7 (nv tm)).set 8 (.int v))))) a (.ins d.cH dx (histN.zip ([V.ref kt, .ref ol, nv tm].set 2 (.int ((tm : Int) + 1)))))) p n { o with ended := some (tm, v) } :=
    ⟨dp, (upd_ne npa).trans upd_same⟩
  refine ⟨_, rfl, (O'.number C).to ?_⟩
  have far : ∀ b u, H b = some u → b ≠ a → b ≠ p → upd (upd H p (.ins d.cO dp (opN.zip (((opV n o).set 7 (nv tm)).set 8 (.int v))))) a (.ins d.cH dx (histN.zip ([V.ref kt, .ref ol, nv tm].set 2 (.int ((tm : Int) + 1))))) b = some u := fun b u q h1 h2 => by
    rw [upd_ne h1, upd_ne h2]; exact q
  have nka : kt ≠ a := ne_of X.kt hins (by intro z; cases z)
  have nkp : kt ≠ p := ne_of X.kt hO (by intro z; cases z)
  have noa : ol ≠ a := ne_of X.ol hins (by intro z; cases z)
  have nop : ol ≠ p := ne_of X.ol hO (by intro z; cases z)
  refine h3 hc i (n, o) hi hq _ ⟨⟨dx, upd_same⟩, far _ _ X.kt nka nkp, far _ _ X.ol noa nop, ?_⟩ fun b u q h1 h2 => far b u q h1 fun z => h2 (by rw [z]; exact List.mem_of_getElem? hp)
  refine paired_set X.ops hp O' fun j x z hj hx hz q => ?_
  obtain ⟨m, u⟩ := x
  have q : OpAt d H z m u := q
  obtain ⟨dz, hz'⟩ := id q
  have nza : z ≠ a := ins_ne q X.ins (by rw [opV_len, histV_len]; decide)
  have nzp : z ≠ p := fun e => by
    subst e
    have em := op_inj q O
    subst em
    apply hj
    have x1 : (ops.map (·.1))[j]? = some m := by rw [List.getElem?_map, hx]; rfl
    have x2 : (ops.map (·.1))[i]? = some m := by rw [List.getElem?_map, hq]; rfl
    exact (List.getElem?_inj (List.getElem?_eq_some_iff.mp x1).1 nd).mp (x1.trans x2.symm)
  exact ⟨dz, far z _ hz' nza nzp⟩
/-! ### known_by, first_events -/
def spKnown (d : Ad) : Sp := fun vs H Q _ => ∃ (p : Addr) (m n : Nat) (o : Ag13.Op), vs = [.ref p, nv m] ∧ OpAt d H p n o ∧ ∀ (H' : Hp) (p' : Addr), Same H H' → H p' = none → OpAt d H' p' n (cutOp m o) → Q (.ref p') H'
theorem ok_known {f f5 : Addr} {fd d5 : FuncData} (F : Fun K "known_by" "known_by" s_known_by f fd) (C : Tc K d)
    (o_Operation : OkC P w K mg base 1 d.cO "Operation" ["self", "number", "client", "thing", "action", "a", "b", "began"] (spOpInit d) f5 d5) :
    FnOk P w K mg base CX0 3 f fd ["operation", "many"] (spKnown d) := by
  refine F.ok sc_known_by (fun vs H Q E h => ?_) (fun cdv A outer s H vs Q E hr h => ?_)
  · obtain ⟨p, m, n, o, rfl, _⟩ := h; rfl
  obtain ⟨p, m, n, o, rfl, O, k⟩ := h
  refine ⟨_, (pss_cons (ps_set (i := 2) sc_known_by.nd rfl (by first | exact Or.inl rfl | exact Or.inr rfl) (pe_mk o_Operation (hr.mono (by omega)) (pa_cons (pe_fld (pv 0) rfl) (pa_cons (pe_fld (pv 0) rfl) (pa_cons (pe_fld (pv 0) rfl) (pa_cons (pe_fld (pv 0) rfl) (pa_cons (pe_fld (pv 0) rfl) (pa_cons (pe_fld (pv 0) rfl) (pa_cons (pe_fld (pv 0) rfl) pa_nil))))))))) (pss_cons (ps_if (PW.pt (pw_and (pt_cmpR op_notN (pe_fld (pv 0) rfl) pe_non (nomark _)) (pw_and1 (pt_cmpR op_lt (pe_fld (pv 0) rfl) (pv 1) (nomark _))))) (pss_cons (ps_fld (pv 2) (pe_fld (pv 0) rfl) rfl) (pss_one (ps_fld (pv 2) (pe_fld (pv 0) rfl) rfl))) pss_nil) (pss_one (ps_ret (pv 2))))), ?_⟩
  refine ⟨_, rfl, (O.number C).to ⟨_, rfl, (O.client C).to ⟨_, rfl, (O.thing C).to ⟨_, rfl, (O.action C).to ⟨_, rfl, (O.fa C).to ⟨_, rfl, (O.fb C).to ⟨_, rfl, (O.began C).to ?_⟩⟩⟩⟩⟩⟩⟩
  intro x dx hx hdx ne
  have e1 : Same H (upd (upd H dx (.own x)) x (.ins d.cO dx [])) := fun b u q => by
    rw [upd_ne (ne_of_none q hx), upd_ne (ne_of_none q hdx)]; exact q
  refine ⟨x, dx, n, o.client, o.thing, o.op, o.a, o.b, o.begun, rfl, upd_same, fun H2 O2 k2 => ⟨rfl, ?_⟩⟩
  have e2 : Same H H2 := fun b u q => k2 b u (e1 b u q) (ne_of_none q hx)
  have P2 := O.same e2
  refine ⟨_, rfl, (P2.ended C).to ⟨rfl, _, rfl, ?_⟩⟩
  cases he : o.ended with
  | none =>
    have z : endV o = .non := by unfold endV; rw [he]
    rw [z]
    refine iteF (iteF ⟨_, rfl, k H2 x e2 hx ?_⟩)
    have ec : cutOp m o = ⟨o.client, o.thing, o.op, o.a, o.b, o.begun, none⟩ := by unfold cutOp; rw [he]
    rw [ec]; exact O2
  | some e =>
    have z : endV o = nv e.1 := by unfold endV; rw [he]
    have z2 : ansV o = .int e.2 := by unfold ansV; rw [he]
    rw [z]
    refine iteT ?_
    refine ⟨_, rfl, (P2.ended C).to ?_⟩
    rw [z]
    refine ⟨_, rfl, _, _, rfl, rfl, _, rfl, ite2 (fun c => ?_) (fun c => ?_)⟩
    · have c' : e.1 < m := by
        have := of_decide_eq_true c
        omega
      obtain ⟨dy, hy⟩ := id O2
      have npx : p ≠ x := fun q => by
        obtain ⟨_, hO⟩ := O
        rw [q, hx] at hO; cases hO
      refine ⟨_, rfl, (P2.ended C).to ?_⟩
      rw [z]
      refine ⟨_, rfl, x, d.cO, dy, _, rfl, hy, C.cO, C.nO _ (by decide +kernel), (by rw [opV_len]; decide), ?_⟩
      rw [put_at (i := 7) (by decide +kernel) (by show 7 < 9; decide)]
      have P3 : OpAt d (upd H2 x (.ins d.cO dy (opN.zip ((opV n ⟨o.client, o.thing, o.op, o.a, o.b, o.begun, none⟩).set 7 (nv e.1))))) p n o := by
        obtain ⟨dz, hz⟩ := P2
        exact ⟨dz, (upd_ne npx).trans hz⟩
      refine ⟨_, rfl, (P3.answer C).to ?_⟩
      rw [z2]
      refine ⟨_, rfl, x, d.cO, dy, _, rfl, upd_same, C.cO, C.nO _ (by decide +kernel), (by rw [List.length_zip]; show min 9 9 < 1000; decide), ?_⟩
      rw [put_at (i := 8) (by decide +kernel) (by show 8 < 9; decide), upd_upd]
      refine ⟨_, rfl, k _ x (fun b u q => ?_) hx ⟨dy, ?_⟩⟩
      · rw [upd_ne (ne_of_none q hx)]; exact e2 _ _ q
      · have ec : cutOp m o = ⟨o.client, o.thing, o.op, o.a, o.b, o.begun, some e⟩ := by
          unfold cutOp; rw [he]; simp only [c', if_true]
        rw [ec, upd_same]
        rfl
    · have c' : ¬ e.1 < m := fun q => c (decide_eq_true (by omega))
      refine ⟨_, rfl, k H2 x e2 hx ?_⟩
      have ec : cutOp m o = ⟨o.client, o.thing, o.op, o.a, o.b, o.begun, none⟩ := by
        unfold cutOp; rw [he]; simp only [c', if_false]
      rw [ec]; exact O2
theorem paired_zip {α β : Type} {R : α → β → Prop} : ∀ {xs : List α} {ys : List β}, Paired R xs ys → ∀ z ∈ xs.zip ys, R z.1 z.2
  | _, _, .nil, z, hz => by simp at hz
  | _, _, .cons r t, z, hz => by
    rw [List.zip_cons_cons] at hz
    rcases List.mem_cons.mp hz with rfl | hz
    · exact r
    · exact paired_zip t z hz
theorem zip_snd {α β : Type} : ∀ {xs : List α} {ys : List β}, xs.length = ys.length → (xs.zip ys).map (·.2) = ys
  | [], [], _ => rfl
  | x :: xs, y :: ys, h => by rw [List.zip_cons_cons, List.map_cons, zip_snd (by simpa using h)]
theorem zip_fst {α β : Type} : ∀ {xs : List α} {ys : List β}, xs.length = ys.length → (xs.zip ys).map (·.1) = xs
  | [], [], _ => rfl
  | x :: xs, y :: ys, h => by rw [List.zip_cons_cons, List.map_cons, zip_fst (by simpa using h)]
theorem paired_lmap {α β γ : Type} {R : γ → β → Prop} {f : α → γ} : ∀ {xs : List α} {ys : List β}, Paired (fun x y => R (f x) y) xs ys → Paired R (xs.map f) ys
  | _, _, .nil => .nil
  | _, _, .cons r t => .cons r (paired_lmap t)
/-- the addresses behind values that are references -/
theorem refs_of {α : Type} {R : α → V → Prop} {S : α → Addr → Prop} (h : ∀ x y, R x y → ∃ p, y = .ref p ∧ S x p) : ∀ {xs : List α} {ys : List V}, Paired R xs ys → ∃ ad : List Addr, ys = ad.map V.ref ∧ Paired S xs ad
  | _, _, .nil => ⟨[], rfl, .nil⟩
  | _, _, .cons r t => by
    obtain ⟨p, rfl, s⟩ := h _ _ r
    obtain ⟨ad, rfl, q⟩ := refs_of h t
    exact ⟨p :: ad, rfl, .cons s q⟩
theorem zip_refs {α : Type} {xs : List α} {ad : List Addr} (h : xs.length = ad.length) : (xs.zip ad).map (fun z => V.ref z.2) = ad.map V.ref := by
  have e := zip_snd h
  conv => rhs; rw [← e]
  rw [List.map_map]
  rfl
def cutOps (m : Nat) (ops : List (Nat × Ag13.Op)) : List (Nat × Ag13.Op) := (ops.filter fun q => decide (q.2.begun < m)).map fun q => (q.1, cutOp m q.2)
def spFirst (d : Ad) : Sp := fun vs H Q _ => ∃ (a : Addr) (m : Nat) (ks : List Nat) (ops : List (Nat × Ag13.Op)) (tm : Nat) (kt ol : Addr) (ad : List Addr), vs = [.ref a, nv m] ∧ HistX d H a ks ops tm kt ol ad ∧ ops.length ≤ 9 ∧
  ∀ (H' : Hp) (b kt' ol' : Addr) (ad' : List Addr), Same H H' → HistX d H' b ks (cutOps m ops) m kt' ol' ad' → Q (.ref b) H'
theorem filter_zip {α β : Type} (p : α → Bool) (f : α → α) : ∀ {xs : List α} {ys : List β}, xs.length = ys.length → ((xs.zip ys).filter fun z => p z.1).map (fun z => f z.1) = (xs.filter p).map f
  | [], [], _ => rfl
  | x :: xs, y :: ys, h => by
    rw [List.zip_cons_cons, List.filter_cons, List.filter_cons]
    have ih := filter_zip p f (xs := xs) (ys := ys) (by simpa using h)
    cases hp : p x with
    | true => simp only [if_true, List.map_cons, ih]
    | false => simpa using ih
theorem ok_first {f f1 f2 : Addr} {fd d1 d2 : FuncData} (F : Fun K "first_events" "History.first_events" s_History_first_events f fd) (T : Tx K mg d) (C : Tc K d)
    (o_History : OkC P w K mg base 1 d.cH "History" ["self", "kinds"] (spHistInit K d) f1 d1) (o_known_by : OkD P w K mg base 3 "known_by" ["operation", "many"] (spKnown d) f2 d2) :
    FnOk P w K mg base CX0 4 f fd ["self", "many"] (spFirst d) := by
  refine F.ok sc_History_first_events (fun vs H Q E h => ?_) (fun cdv A outer s H vs Q E hr h => ?_)
  · obtain ⟨a, m, ks, ops, tm, kt, ol, ad, rfl, _⟩ := h; rfl
  obtain ⟨a, m, ks, ops, tm, kt, ol, ad, rfl, X, hlen, k⟩ := h
  refine ⟨_, (pss_cons (ps_set (i := 2) sc_History_first_events.nd rfl (by first | exact Or.inl rfl | exact Or.inr rfl) (pe_mk o_History (hr.mono (by omega)) (pa_cons (pe_fld (pv 0) rfl) pa_nil))) (pss_cons (ps_fld (pv 2) (pv 1) rfl) (pss_cons (ps_fld (pv 2) (by exact (pe_lc (own := [("operation", 3)]) (g := gName 3) (tt := (tTest (tOp _ (tFld K (tVar 3) "began") (tVar 1)))) (by rfl) sc_History_first_events.nd (pi_list (pe_fld (pv 0) rfl)) (blkOk_by (own := [("operation", 3)]) (N := ["self", "many", "shorter", "operation"]) (sc := defScope s_History_first_events) (by decide +kernel)) (fun _ _ _ _ _ => pg_name (i := 3) sc_History_first_events.nd rfl (Or.inl rfl)) (fun _ _ _ _ _ => by exact (pts_one (pt_cmpR op_lt (pe_fld (pv 3) rfl) (pv 1) (nomark _)))) (fun _ _ _ _ _ => by exact (pe_cd o_known_by (hr.mono (by omega)) (pa_cons (pv 3) (pa_cons (pv 1) pa_nil)))))) rfl) (pss_one (ps_ret (pv 2)))))), ?_⟩
  refine ⟨_, rfl, (X.fKinds C).to ?_⟩
  intro x dx hx hdx ne
  have e1 : Same H (upd (upd H dx (.own x)) x (.ins d.cH dx [])) := fun b u q => by
    rw [upd_ne (ne_of_none q hx), upd_ne (ne_of_none q hdx)]; exact q
  refine ⟨x, dx, kt, ks, rfl, upd_same, .inr (e1 _ _ X.kt), fun H2 kt2 ol2 X2 k2 hol2 => ⟨rfl, ?_⟩⟩
  have e2 : Same H H2 := fun b u q => k2 b u (e1 b u q) (ne_of_none q hx)
  obtain ⟨dy, hy⟩ := id X2.ins
  refine ⟨_, rfl, _, rfl, x, d.cH, dy, _, rfl, hy, C.cH, C.nH _ (by decide +kernel), (by rw [histV_len]; decide), ?_⟩
  rw [put_at (i := 2) (by decide +kernel) (by show 2 < 3; decide)]
  have e3 : Same H (upd H2 x (.ins d.cH dy (histN.zip ([V.ref kt2, .ref ol2, nv 0].set 2 (nv m))))) := fun b u q => by
    rw [upd_ne (ne_of_none q hx)]; exact e2 b u q
  have nkx : kt2 ≠ x := ne_of X2.kt hy (by intro z; cases z)
  have h3k : (upd H2 x (.ins d.cH dy (histN.zip ([V.ref kt2, .ref ol2, nv 0].set 2 (nv m))))) kt2 = some (.tup (ks.map nv)) := (upd_ne nkx).trans X2.kt
  have h3x : (upd H2 x (.ins d.cH dy (histN.zip ([V.ref kt2, .ref ol2, nv 0].set 2 (nv m))))) x = some (.ins d.cH dy (histN.zip [V.ref kt2, .ref ol2, nv m])) := upd_same
  generalize upd H2 x (.ins d.cH dy (histN.zip ([V.ref kt2, .ref ol2, nv 0].set 2 (nv m)))) = H3 at e3 h3k h3x ⊢
  have X3 := X.same e3
  have la : ops.length = ad.length := Paired.length X.ops
  dsimp only
  refine go_seq (go_fld ?_)
  refine comp_list (K := K) (a := ol) (l := ops.zip ad) (g := fun z => V.ref z.2) (p := fun z => decide (z.1.2.begun < m)) (R := fun z y H' => ∃ p, y = .ref p ∧ OpAt d H' p z.1.1 (cutOp m z.1.2))
    (by rw [zip_refs la]; exact SqL.of X3.ol) ⟨_, rfl, (X3.fOps C).to ⟨rfl, rfl⟩⟩ (mono_fld mono_var) ⟨?_, ?_, ?_, ?_⟩ ?_
  · rintro z y D acc H1 H2 hD far ⟨p, rfl, dp, hp⟩
    exact ⟨p, rfl, dp, far p _ (ne_of hp hD (by intro z; cases z)) hp⟩
  · rw [List.length_zip]; omega
  · intro z hz H' e k q
    have O : OpAt d H' z.2 z.1.1 z.1.2 := (paired_zip X3.ops z hz).same e
    refine ⟨_, rfl, (O.began C).to ⟨_, rfl, _, _, rfl, rfl, _, rfl, ?_⟩⟩
    have ed : decide ((z.1.2.begun : Int) < (m : Int)) = decide (z.1.2.begun < m) := decide_eq_decide.mpr (by omega)
    rw [ed]
    exact q _ (Same.refl _)
  · intro z hz hp H' e k q
    have O : OpAt d H' z.2 z.1.1 z.1.2 := (paired_zip X3.ops z hz).same e
    exact ⟨_, rfl, _, rfl, z.2, m, z.1.1, z.1.2, rfl, O, fun H'' p' e2 _ O2 => q _ _ e2 ⟨p', rfl, O2⟩⟩
  · intro D ys H' e hD hy' pr
    obtain ⟨ad', rfl, pr'⟩ := refs_of (S := fun (z : (Nat × Ag13.Op) × Addr) p => OpAt d H' p z.1.1 (cutOp m z.1.2)) (fun z y h => h) pr
    have h4x := e _ _ h3x
    have nDx : D ≠ x := ne_of hy' h4x (by intro z; cases z)
    refine ⟨_, rfl, x, d.cH, dy, _, rfl, h4x, C.cH, C.nH _ (by decide +kernel), (by rw [histV_len]; decide), ?_⟩
    rw [put_at (i := 1) (by decide +kernel) (by show 1 < 3; decide)]
    refine ⟨_, rfl, k _ x kt2 D ad' (fun b u q => ?_) ⟨⟨dy, upd_same⟩, (upd_ne nkx).trans (e _ _ h3k), (upd_ne nDx).trans hy', ?_⟩⟩
    · rw [upd_ne (ne_of_none q hx)]; exact e _ _ (e3 _ _ q)
    · have pq : Paired (fun (q : Nat × Ag13.Op) p => OpAt d H' p q.1 q.2) (cutOps m ops) ad' := by
        have := paired_lmap (f := fun (z : (Nat × Ag13.Op) × Addr) => (z.1.1, cutOp m z.1.2)) (R := fun (q : Nat × Ag13.Op) p => OpAt d H' p q.1 q.2) pr'
        rwa [filter_zip (fun q : Nat × Ag13.Op => decide (q.2.begun < m)) (fun q => (q.1, cutOp m q.2)) la] at this
      exact Paired.mapP pq fun q p ⟨dp, hp⟩ => ⟨dp, (upd_ne (ins_ne (C1 := d.cO) (n1 := opN) (v1 := opV q.1 q.2) (C2 := d.cH) (n2 := histN) ⟨dp, hp⟩ ⟨dy, h4x⟩ (by rw [opV_len, histV_len]; decide))).trans hp⟩
/-! ### on_thing, without -/
theorem paired_filt {α β : Type} {R : α → β → Prop} (p : α → Bool) : ∀ {xs : List α} {ys : List β}, Paired R xs ys → Paired R (xs.filter p) (((xs.zip ys).filter fun z => p z.1).map (·.2))
  | _, _, .nil => .nil
  | x :: _, _, .cons r t => by
    rw [List.zip_cons_cons, List.filter_cons, List.filter_cons]
    cases hp : p x with
    | true => simp only [if_true, List.map_cons]; exact .cons r (paired_filt p t)
    | false => simpa using paired_filt p t
def spOnThing (d : Ad) : Sp := fun vs H Q _ => ∃ (a : Addr) (t : Nat) (ks : List Nat) (ops : List (Nat × Ag13.Op)) (tm : Nat) (kt ol : Addr) (ad : List Addr), vs = [.ref a, nv t] ∧ HistX d H a ks ops tm kt ol ad ∧ ops.length ≤ 9 ∧
  ∀ (H' : Hp) (l : Addr) (ad' : List Addr), Same H H' → H' l = some (.lst (ad'.map V.ref)) → Paired (fun (q : Nat × Ag13.Op) p => OpAt d H' p q.1 q.2) (ops.filter fun q => q.2.thing == t) ad' → Q (.ref l) H'
theorem ok_on_thing {f : Addr} {fd : FuncData} (F : Fun K "on_thing" "History.on_thing" s_History_on_thing f fd) (C : Tc K d) : FnOk P w K mg base CX0 1 f fd ["self", "thing"] (spOnThing d) := by
  refine F.ok sc_History_on_thing (fun vs H Q E h => ?_) (fun cdv A outer s H vs Q E hr h => ?_)
  · obtain ⟨a, t, ks, ops, tm, kt, ol, ad, rfl, _⟩ := h; rfl
  obtain ⟨a, t, ks, ops, tm, kt, ol, ad, rfl, X, hlen, k⟩ := h
  refine ⟨_, (pss_one (ps_ret (by exact (pe_lc (own := [("operation", 2)]) (g := gName 2) (tt := (tTest (tOp _ (tFld K (tVar 2) "thing") (tVar 1)))) (by rfl) sc_History_on_thing.nd (pi_list (pe_fld (pv 0) rfl)) (blkOk_by (own := [("operation", 2)]) (N := ["self", "thing", "operation"]) (sc := defScope s_History_on_thing) (by decide +kernel)) (fun _ _ _ _ _ => pg_name (i := 2) sc_History_on_thing.nd rfl (Or.inl rfl)) (fun _ _ _ _ _ => by exact (pts_one (pt_cmpR op_eq (pe_fld (pv 2) rfl) (pv 1) (nomark _)))) (fun _ _ _ _ _ => by exact (pv 2)))))), ?_⟩
  have la : ops.length = ad.length := Paired.length X.ops
  refine comp_list (K := K) (a := ol) (l := ops.zip ad) (g := fun z => V.ref z.2) (p := fun z => z.1.2.thing == t) (R := fun z y _ => y = V.ref z.2)
    (by rw [zip_refs la]; exact SqL.of X.ol) ⟨_, rfl, (X.fOps C).to ⟨rfl, rfl⟩⟩ (mono_fld mono_var) ⟨Firm.eq _, by rw [List.length_zip]; omega, fun z hz H' e kk q => ?_, fun z hz hp H' e kk q => ⟨_, rfl, q _ _ (Same.refl _) rfl⟩⟩ ?_
  · have O : OpAt d H' z.2 z.1.1 z.1.2 := (paired_zip X.ops z hz).same e
    refine ⟨_, rfl, (O.thing C).to ⟨_, rfl, rfl, _, rfl, ?_⟩⟩
    have ed : decide (nv z.1.2.thing = nv t) = (z.1.2.thing == t) := by rw [eq_nv]; rfl
    rw [ed]
    exact q _ (Same.refl _)
  · intro D ys H' e hD hy pr
    have ey := paired_map pr
    subst ey
    refine k H' D _ e (by rw [hy, List.map_map]; rfl) (Paired.mapP (paired_filt (fun q : Nat × Ag13.Op => q.2.thing == t) X.ops) fun q p z => OpAt.same e z)
def spWithout (d : Ad) : Sp := fun vs H Q _ => ∃ (a : Addr) (n : Nat) (ks : List Nat) (ops : List (Nat × Ag13.Op)) (tm : Nat) (kt ol : Addr) (ad : List Addr), vs = [.ref a, nv n] ∧ HistX d H a ks ops tm kt ol ad ∧ ops.length ≤ 9 ∧
  ∀ (H' : Hp) (b kt' ol' : Addr) (ad' : List Addr), Same H H' → HistX d H' b ks (ops.filter fun q => q.1 != n) tm kt' ol' ad' → Q (.ref b) H'
theorem ok_without {f f1 : Addr} {fd d1 : FuncData} (F : Fun K "without" "History.without" s_History_without f fd) (T : Tx K mg d) (C : Tc K d)
    (o_History : OkC P w K mg base 1 d.cH "History" ["self", "kinds"] (spHistInit K d) f1 d1) :
    FnOk P w K mg base CX0 3 f fd ["self", "number"] (spWithout d) := by
  refine F.ok sc_History_without (fun vs H Q E h => ?_) (fun cdv A outer s H vs Q E hr h => ?_)
  · obtain ⟨a, n, ks, ops, tm, kt, ol, ad, rfl, _⟩ := h; rfl
  obtain ⟨a, n, ks, ops, tm, kt, ol, ad, rfl, X, hlen, k⟩ := h
  refine ⟨_, (pss_cons (ps_set (i := 2) sc_History_without.nd rfl (by first | exact Or.inl rfl | exact Or.inr rfl) (pe_mk o_History (hr.mono (by omega)) (pa_cons (pe_fld (pv 0) rfl) pa_nil))) (pss_cons (ps_fld (pv 2) (pe_fld (pv 0) rfl) rfl) (pss_cons (ps_fld (pv 2) (by exact (pe_lc (own := [("operation", 3)]) (g := gName 3) (tt := (tTest (tOp _ (tFld K (tVar 3) "number") (tVar 1)))) (by rfl) sc_History_without.nd (pi_list (pe_fld (pv 0) rfl)) (blkOk_by (own := [("operation", 3)]) (N := ["self", "number", "smaller", "operation"]) (sc := defScope s_History_without) (by decide +kernel)) (fun _ _ _ _ _ => pg_name (i := 3) sc_History_without.nd rfl (Or.inl rfl)) (fun _ _ _ _ _ => by exact (pts_one (pt_cmpR op_ne (pe_fld (pv 3) rfl) (pv 1) (nomark _)))) (fun _ _ _ _ _ => by exact (pv 3)))) rfl) (pss_one (ps_ret (pv 2)))))), ?_⟩
  refine ⟨_, rfl, (X.fKinds C).to ?_⟩
  intro x dx hx hdx ne
  have e1 : Same H (upd (upd H dx (.own x)) x (.ins d.cH dx [])) := fun b u q => by
    rw [upd_ne (ne_of_none q hx), upd_ne (ne_of_none q hdx)]; exact q
  refine ⟨x, dx, kt, ks, rfl, upd_same, .inr (e1 _ _ X.kt), fun H2 kt2 ol2 X2 k2 hol2 => ⟨rfl, ?_⟩⟩
  have e2 : Same H H2 := fun b u q => k2 b u (e1 b u q) (ne_of_none q hx)
  obtain ⟨dy, hy⟩ := id X2.ins
  refine ⟨_, rfl, ((X.same e2).fEvents C).to ⟨_, rfl, x, d.cH, dy, _, rfl, hy, C.cH, C.nH _ (by decide +kernel), (by rw [histV_len]; decide), ?_⟩⟩
  rw [put_at (i := 2) (by decide +kernel) (by show 2 < 3; decide)]
  have e3 : Same H (upd H2 x (.ins d.cH dy (histN.zip ([V.ref kt2, .ref ol2, nv 0].set 2 (nv tm))))) := fun b u q => by
    rw [upd_ne (ne_of_none q hx)]; exact e2 b u q
  have nkx : kt2 ≠ x := ne_of X2.kt hy (by intro z; cases z)
  have h3k : (upd H2 x (.ins d.cH dy (histN.zip ([V.ref kt2, .ref ol2, nv 0].set 2 (nv tm))))) kt2 = some (.tup (ks.map nv)) := (upd_ne nkx).trans X2.kt
  have h3x : (upd H2 x (.ins d.cH dy (histN.zip ([V.ref kt2, .ref ol2, nv 0].set 2 (nv tm))))) x = some (.ins d.cH dy (histN.zip [V.ref kt2, .ref ol2, nv tm])) := upd_same
  generalize upd H2 x (.ins d.cH dy (histN.zip ([V.ref kt2, .ref ol2, nv 0].set 2 (nv tm)))) = H3 at e3 h3k h3x ⊢
  have X3 := X.same e3
  have la : ops.length = ad.length := Paired.length X.ops
  dsimp only
  refine go_seq (go_fld ?_)
  refine comp_list (K := K) (a := ol) (l := ops.zip ad) (g := fun z => V.ref z.2) (p := fun z => z.1.1 != n) (R := fun z y _ => y = V.ref z.2)
    (by rw [zip_refs la]; exact SqL.of X3.ol) ⟨_, rfl, (X3.fOps C).to ⟨rfl, rfl⟩⟩ (mono_fld mono_var) ⟨Firm.eq _, by rw [List.length_zip]; omega, fun z hz H' e kk q => ?_, fun z hz hp H' e kk q => ⟨_, rfl, q _ _ (Same.refl _) rfl⟩⟩ ?_
  · have O : OpAt d H' z.2 z.1.1 z.1.2 := (paired_zip X3.ops z hz).same e
    refine ⟨_, rfl, (O.number C).to ⟨_, rfl, rfl, _, rfl, ?_⟩⟩
    have ed : (!decide (nv z.1.1 = nv n)) = (z.1.1 != n) := by rw [eq_nv]; rfl
    rw [ed]
    exact q _ (Same.refl _)
  · intro D ys H' e hD hy' pr
    have ey := paired_map pr
    subst ey
    have h4x := e _ _ h3x
    have nDx : D ≠ x := ne_of hy' h4x (by intro z; cases z)
    refine ⟨_, rfl, x, d.cH, dy, _, rfl, h4x, C.cH, C.nH _ (by decide +kernel), (by rw [histV_len]; decide), ?_⟩
    rw [put_at (i := 1) (by decide +kernel) (by show 1 < 3; decide)]
    refine ⟨_, rfl, k _ x kt2 D (((ops.zip ad).filter fun z => z.1.1 != n).map (·.2)) (fun b u q => ?_) ⟨⟨dy, upd_same⟩, (upd_ne nkx).trans (e _ _ h3k), (upd_ne nDx).trans (by rw [hy', List.map_map]; rfl), ?_⟩⟩
    · rw [upd_ne (ne_of_none q hx)]; exact e _ _ (e3 _ _ q)
    · have pq : Paired (fun (q : Nat × Ag13.Op) p => OpAt d H' p q.1 q.2) _ _ := Paired.mapP (paired_filt (fun q : Nat × Ag13.Op => q.1 != n) X3.ops) fun q p z => OpAt.same e z
      exact Paired.mapP pq fun q p ⟨dp, hp⟩ => ⟨dp, (upd_ne (ins_ne (C1 := d.cO) (n1 := opN) (v1 := opV q.1 q.2) (C2 := d.cH) (n2 := histN) ⟨dp, hp⟩ ⟨dy, h4x⟩ (by rw [opV_len, histV_len]; decide))).trans hp⟩
end
end Sh

set_option Elab.async false
set_option linter.all false
set_option maxRecDepth 100000
set_option maxHeartbeats 4000000
namespace Sh
open PySem PySem.Spec PyProof.Rows L2
theorem bit_or (a b : Nat) : Builtin.bitOr (a : Int) (b : Int) = ((a ||| b : Nat) : Int) := by
  rw [bitOr_nn (Int.natCast_nonneg a) (Int.natCast_nonneg b), Int.toNat_natCast, Int.toNat_natCast]
theorem bit_and (a b : Nat) : Builtin.bitAnd (a : Int) (b : Int) = ((a &&& b : Nat) : Int) := by
  rw [bitAnd_pp (Int.natCast_nonneg a) (Int.natCast_nonneg b), Int.toNat_natCast, Int.toNat_natCast]
theorem shl_one (n : Nat) : (1 : Int) * (2 : Int) ^ ((n : Int).toNat) = ((1 <<< n : Nat) : Int) := by
  rw [Int.toNat_natCast, Nat.one_shiftLeft, Int.one_mul]
  exact (PySem.W.kbt_cast n).symm
section
variable {P : Program} {w : World} {K : PySem.W.Frag} {mg : Str → Option Value} {base : Heap} {d : Ad}
/-! ### mark -/
def spMark (d : Ad) : Sp := fun vs H Q _ => ∃ (l : Addr) (ops : List (Nat × Ag13.Op)) (ad : List Addr), vs = [.ref l] ∧ H l = some (.lst (ad.map V.ref)) ∧ Paired (fun (q : Nat × Ag13.Op) p => OpAt d H p q.1 q.2) ops ad ∧ (∀ q ∈ ops, q.1 ≤ 1000) ∧ Q (nv (markOf (ops.map (·.1)))) H
theorem ok_mark {f : Addr} {fd : FuncData} (F : Fun K "mark" "mark" s_mark f fd) (C : Tc K d) : FnOk P w K mg base CX0 1 f fd ["operations"] (spMark d) := by
  refine F.ok sc_mark (fun vs H Q E h => ?_) (fun cdv A outer s H vs Q E hr h => ?_)
  · obtain ⟨l, ops, ad, rfl, _⟩ := h; rfl
  obtain ⟨l, ops, ad, rfl, hl, hp, hs, k⟩ := h
  refine ⟨_, (pss_cons (ps_set (i := 1) sc_mark.nd rfl (by first | exact Or.inl rfl | exact Or.inr rfl) pe_int) (pss_cons (ps_for PassesOwn.never rfl (pi_list (pv 0)) (pg_name (i := 2) sc_mark.nd rfl (by first | exact Or.inl rfl | exact Or.inr rfl)) (pss_one (ps_aug (i := 1) sc_mark.nd rfl (by first | exact Or.inl rfl | exact Or.inr rfl) (pe_op op_shl pe_int (pe_fld (pv 2) rfl)) (ip_of iop_or)))) (pss_one (ps_ret (pv 1))))), ?_⟩
  refine ⟨_, rfl, l, rfl, ⟨_, SqL.of hl⟩, for_list (K := K) (a := l) (xs := ad.map V.ref) (fun i σ H' => ∃ v : Option V, σ = [some (.ref l), some (nv (markOf ((ops.take i).map (·.1)))), v] ∧ H' = H)
    ⟨none, rfl, rfl⟩ (fun i σ H' _ ⟨_, _, e⟩ => by rw [e]; exact SqL.of hl) ?_ ?_⟩
  · rintro i y σ H' hi ⟨v, rfl, rfl⟩
    rw [List.getElem?_map] at hi
    obtain ⟨p, hpi, rfl⟩ := Option.map_eq_some_iff.mp hi
    obtain ⟨⟨n, o⟩, hq, O⟩ := Paired.getL hp hpi
    have O : OpAt d H' p n o := O
    have hn : n ≤ 1000 := hs (n, o) (List.mem_of_getElem? hq)
    refine ⟨_, rfl, _, rfl, (O.number C).to ⟨_, _, rfl, rfl, ⟨by omega, by omega, by decide⟩, _, _, rfl, rfl, ?_⟩⟩
    refine ⟨some (.ref p), ?_, rfl⟩
    rw [shl_one]
    dsimp only
    rw [bit_or, take_one hq, List.map_append, List.map_cons, List.map_nil, mark_append]
    rfl
  · rintro σ H' ⟨v, rfl, rfl⟩
    have e : (ad.map V.ref).length = ops.length := by rw [List.length_map, Paired.length hp]
    rw [e, List.take_length]
    exact ⟨_, rfl, k⟩
/-! ### what all things hold -/
def HeldAt (H : Hp) (a : Addr) (hs : List HV) : Prop := ∃ vs, H a = some (.tup vs) ∧ Paired (fun h v => HvAt H v h) hs vs
theorem HeldAt.same {H H' : Hp} {a : Addr} {hs : List HV} (e : Same H H') (h : HeldAt H a hs) : HeldAt H' a hs := by
  obtain ⟨vs, h1, h2⟩ := h
  exact ⟨vs, e _ _ h1, Paired.mapP h2 fun _ _ q => q.same e⟩
theorem cut_to {xs : List V} {t : Nat} (h : t < xs.length) : cutV xs none (some (t : Int)) = xs.take t := by
  unfold cutV
  rw [HT.sIx_none, HT.sIx_nat, Nat.min_eq_left (by omega)]
  simp
theorem cut_from {xs : List V} {t : Nat} (h : t < xs.length) : cutV xs (some ((t : Int) + 1)) none = xs.drop (t + 1) := by
  unfold cutV
  have e : ((t : Int) + 1) = ((t + 1 : Nat) : Int) := by omega
  rw [e, HT.sIx_none, HT.sIx_nat, Nat.min_eq_left (by omega), List.take_of_length_le (by simp)]
theorem set_parts {α : Type} {xs : List α} {t : Nat} {v : α} (h : t < xs.length) : xs.take t ++ [v] ++ xs.drop (t + 1) = xs.set t v := by
  rw [List.set_eq_take_append_cons_drop, if_pos h]
  simp
/-! ### rules -/
def clientR (q r : Nat × Ag13.Op) : Bool := q.2.client == r.2.client && decide (q.2.begun < r.2.begun)
def butR (x : Nat) (q r : Nat × Ag13.Op) : Bool := clientR q r || match q.2.ended with
  | some e => decide (e.1 + x < r.2.begun)
  | none => false
/-- of two operations: a promise of a def, and of whatever is called as a rule -/
def spRule0 (d : Ad) (R : Nat × Ag13.Op → Nat × Ag13.Op → Bool) : Sp := fun vs H Q _ => ∃ (p p' : Addr) (n n' : Nat) (o o' : Ag13.Op), vs = [.ref p, .ref p'] ∧ OpAt d H p n o ∧ OpAt d H p' n' o' ∧ Q (.bl (R (n, o) (n', o'))) H
def spRule (nums : List Nat) (d : Ad) (R : Nat × Ag13.Op → Nat × Ag13.Op → Bool) : Sp := fun vs H Q _ => ∃ (p p' : Addr) (n n' : Nat) (o o' : Ag13.Op), vs = [.ref p, .ref p'] ∧ n ∈ nums ∧ n' ∈ nums ∧ OpAt d H p n o ∧ OpAt d H p' n' o' ∧ ∀ H', Same H H' → Q (.bl (R (n, o) (n', o'))) H'
theorem rule0 {nums : List Nat} {R : Nat × Ag13.Op → Nat × Ag13.Op → Bool} {vs : List V} {H : Hp} {Q : VK} {E : XK} (h : spRule nums d R vs H Q E) : spRule0 d R vs H Q E := by
  obtain ⟨p, p', n, n', o, o', e, _, _, O, O', k⟩ := h
  exact ⟨p, p', n, n', o, o', e, O, O', k H (Same.refl _)⟩
theorem OkD.rule {nums : List Nat} {k : Nat} {x : Str} {ps : List Str} {R : Nat × Ag13.Op → Nat × Ag13.Op → Bool} {f : Addr} {fd : FuncData} (o : OkD P w K mg base k x ps (spRule0 d R) f fd) : OkD P w K mg base k x ps (spRule nums d R) f fd := ⟨o.G.imp fun _ _ _ _ h => rule0 h, o.m, o.kp, o.b⟩
theorem ok_clients {f : Addr} {fd : FuncData} (F : Fun K "first_in_clients_order" "first_in_clients_order" s_first_in_clients_order f fd) (C : Tc K d) : FnOk P w K mg base CX0 1 f fd ["one", "other"] (spRule0 d clientR) := by
  refine F.ok sc_first_in_clients_order (fun vs H Q E h => ?_) (fun cdv A outer s H vs Q E hr h => ?_)
  · obtain ⟨p, p', n, n', o, o', rfl, _⟩ := h; rfl
  obtain ⟨p, p', n, n', o, o', rfl, O, O', k⟩ := h
  refine ⟨_, (pss_one (ps_ret (pe_and (pe_cmpR op_eq (pe_fld (pv 0) rfl) (pe_fld (pv 1) rfl) (nomark _)) (pe_one (pe_cmpR op_lt (pe_fld (pv 0) rfl) (pe_fld (pv 1) rfl) (nomark _)))))), ?_⟩
  refine ⟨_, rfl, (O.client C).to ⟨_, rfl, (O'.client C).to ⟨rfl, _, rfl, ?_⟩⟩⟩
  have e : decide (nv o.client = nv o'.client) = (o.client == o'.client) := by rw [eq_nv]; rfl
  rw [e]
  cases hc : (o.client == o'.client) with
  | false =>
    have z : clientR (n, o) (n', o') = false := by simp only [clientR, hc, Bool.false_and]
    rw [z] at k
    exact iteF k
  | true =>
    refine iteT ⟨_, rfl, (O.began C).to ⟨_, rfl, (O'.began C).to ⟨_, _, rfl, rfl, ?_⟩⟩⟩
    have z : clientR (n, o) (n', o') = decide ((o.begun : Int) < (o'.begun : Int)) := by
      simp only [clientR, hc, Bool.true_and]
      exact decide_eq_decide.mpr (by omega)
    rw [z] at k
    exact k
def spBut (d : Ad) : Sp := fun vs H Q _ => ∃ (p p' : Addr) (n n' x : Nat) (o o' : Ag13.Op), vs = [.ref p, .ref p', nv x] ∧ OpAt d H p n o ∧ OpAt d H p' n' o' ∧ Q (.bl (butR x (n, o) (n', o'))) H
theorem ok_but {f f1 : Addr} {fd d1 : FuncData} (F : Fun K "first_but_for" "first_but_for" s_first_but_for f fd) (C : Tc K d)
    (o_first_in_clients_order : OkD P w K mg base 1 "first_in_clients_order" ["one", "other"] (spRule0 d clientR) f1 d1) : FnOk P w K mg base CX0 2 f fd ["one", "other", "events"] (spBut d) := by
  refine F.ok sc_first_but_for (fun vs H Q E h => ?_) (fun cdv A outer s H vs Q E hr h => ?_)
  · obtain ⟨p, p', n, n', x, o, o', rfl, _⟩ := h; rfl
  obtain ⟨p, p', n, n', x, o, o', rfl, O, O', k⟩ := h
  refine ⟨_, (pss_cons (ps_if (pt_val (pe_cd o_first_in_clients_order (hr.mono (by omega)) (pa_cons (pv 0) (pa_cons (pv 1) pa_nil)))) (pss_one (ps_ret pe_bl)) pss_nil) (pss_one (ps_ret (pe_and (pe_cmpR op_notN (pe_fld (pv 0) rfl) pe_non (nomark _)) (pe_one (pe_cmpR op_lt (pe_op op_add (pe_fld (pv 0) rfl) (pv 2)) (pe_fld (pv 1) rfl) (nomark _))))))), ?_⟩
  refine ⟨_, rfl, _, rfl, p, p', n, n', o, o', rfl, O, O', _, rfl, ?_⟩
  cases hc : clientR (n, o) (n', o') with
  | true =>
    have z : butR x (n, o) (n', o') = true := by simp only [butR, hc, Bool.true_or]
    rw [z] at k
    exact iteT k
  | false =>
    refine iteF ⟨_, rfl, (O.ended C).to ⟨rfl, _, rfl, ?_⟩⟩
    cases he : o.ended with
    | none =>
      have z1 : endV o = .non := by unfold endV; rw [he]
      have z : butR x (n, o) (n', o') = false := by simp only [butR, hc, he, Bool.false_or]
      rw [z] at k
      rw [z1]
      exact iteF k
    | some e =>
      have z1 : endV o = nv e.1 := by unfold endV; rw [he]
      rw [z1]
      refine iteT ⟨_, rfl, (O.ended C).to ?_⟩
      rw [z1]
      refine ⟨_, rfl, _, _, rfl, rfl, _, rfl, (O'.began C).to ⟨_, _, rfl, rfl, ?_⟩⟩
      have z : butR x (n, o) (n', o') = decide ((e.1 : Int) + (x : Int) < (o'.begun : Int)) := by
        simp only [butR, hc, he, Bool.false_or]
        exact decide_eq_decide.mpr (by omega)
      rw [z] at k
      exact k
theorem ok_times {f f1 : Addr} {fd d1 : FuncData} (F : Fun K "first_in_times_order" "first_in_times_order" s_first_in_times_order f fd)
    (o_first_but_for : OkD P w K mg base 2 "first_but_for" ["one", "other", "events"] (spBut d) f1 d1) : FnOk P w K mg base CX0 3 f fd ["one", "other"] (spRule0 d (butR 0)) := by
  refine F.ok sc_first_in_times_order (fun vs H Q E h => ?_) (fun cdv A outer s H vs Q E hr h => ?_)
  · obtain ⟨p, p', n, n', o, o', rfl, _⟩ := h; rfl
  obtain ⟨p, p', n, n', o, o', rfl, O, O', k⟩ := h
  refine ⟨_, (pss_one (ps_ret (pe_cd o_first_but_for (hr.mono (by omega)) (pa_cons (pv 0) (pa_cons (pv 1) (pa_cons pe_int pa_nil)))))), ?_⟩
  exact ⟨_, rfl, _, rfl, p, p', n, n', 0, o, o', rfl, O, O', k⟩
end
end Sh

set_option Elab.async false
set_option linter.all false
set_option maxRecDepth 100000
set_option maxHeartbeats 4000000
namespace Sh
open PySem PySem.Spec PyProof.Rows L2
/-- the pair of a number and its operation -/
abbrev at_ (s : Ag13.State) (n : Nat) : Nat × Ag13.Op := (n, Ag13.op s n)
/-- the rule, and the clients whose answers count -/
structure Rl where
  r : Nat × Ag13.Op → Nat × Ag13.Op → Bool
  cs : List Nat
/-- the rule by numbers -/
def byR (s : Ag13.State) (R : Rl) (i j : Nat) : Bool := R.r (at_ s i) (at_ s j)
def cntR (s : Ag13.State) (R : Rl) (i : Nat) : Bool := R.cs.contains (Ag13.op s i).client
/-- a history whose given operations may be searched -/
structure Good (s : Ag13.State) (nums : List Nat) : Prop where
  kinds : ∀ k ∈ s.kinds, k < 6
  few : s.kinds.length ≤ 100
  nd : nums.Nodup
  small : ∀ n ∈ nums, n ≤ 1000
  len : nums.length ≤ 9
  fine : ∀ n ∈ nums, (Ag13.op s n).thing < s.kinds.length
  ops : ∀ n ∈ nums, (Ag13.op s n).op < Ag13.opsOf (s.kinds.getD (Ag13.op s n).thing 0)
  cl : ∀ n ∈ nums, (Ag13.op s n).client < 4
def WfH (s : Ag13.State) (b : Nat) (hs : List HV) : Prop := hs.length = s.kinds.length ∧ ∀ i, i < s.kinds.length → Wf b (s.kinds.getD i 0) (hs.getD i (.num 0))
/-- the search's key -/
def k1 : HV → K1
  | .num n => .inl (n : Int)
  | .seq l => .inr (l.map fun (n : Nat) => (n : Int))
theorem cast_inj : ∀ {l m : List Nat}, (l.map fun (n : Nat) => (n : Int)) = m.map (fun (n : Nat) => (n : Int)) → l = m
  | [], [], _ => rfl
  | [], _ :: _, h => by simp at h
  | _ :: _, [], h => by simp at h
  | x :: l, y :: m, h => by
    rw [List.map_cons, List.map_cons] at h
    injection h with h1 h2
    rw [cast_inj h2]
    congr 1
    omega
theorem k1_inj {a b : HV} (h : k1 a = k1 b) : a = b := by
  cases a with
  | num n =>
    cases b with
    | num m => unfold k1 at h; injection h with h; congr 1; omega
    | seq l => unfold k1 at h; cases h
  | seq l =>
    cases b with
    | num m => unfold k1 at h; cases h
    | seq m => unfold k1 at h; injection h with h; rw [cast_inj h]
theorem k1s_inj : ∀ {a b : List HV}, a.map k1 = b.map k1 → a = b
  | [], [], _ => rfl
  | [], _ :: _, h => by simp at h
  | _ :: _, [], h => by simp at h
  | x :: l, y :: m, h => by
    rw [List.map_cons, List.map_cons] at h
    injection h with h1 h2
    rw [k1_inj h1, k1s_inj h2]
def keyOf (pl : Nat) (hs : List HV) : DKey := [Sum.inl (pl : Int), Sum.inr (hs.map k1)]
theorem keyOf_inj {p q : Nat} {a b : List HV} (h : keyOf p a = keyOf q b) : p = q ∧ a = b := by
  unfold keyOf at h
  injection h with h1 h2
  injection h2 with h2 _
  injection h1 with h1
  injection h2 with h2
  exact ⟨by omega, k1s_inj h2⟩
theorem hv_in1 {H : Hp} {h : HV} {v : V} (x : HvAt H v h) : In1 H (k1 h) v := by
  cases h with
  | num n => exact x
  | seq l =>
    obtain ⟨a, rfl, e⟩ := x
    exact ⟨a, rfl, by rw [e, map_nv]⟩
theorem held_in1 {H : Hp} : ∀ {hs : List HV} {vs : List V}, Paired (fun h v => HvAt H v h) hs vs → Paired (In1 H) (hs.map k1) vs
  | _, _, .nil => .nil
  | _, _, .cons r t => .cons (hv_in1 r) (held_in1 t)
theorem key_at {H : Hp} {b ht : Addr} {pl : Nat} {hs : List HV} (hb : H b = some (.tup [nv pl, .ref ht])) (hh : HeldAt H ht hs) : KeyAt H (keyOf pl hs) b := by
  obtain ⟨vs, h1, h2⟩ := hh
  exact ⟨_, hb, .cons rfl (.cons ⟨ht, vs, rfl, h1, held_in1 h2⟩ .nil)⟩
section
variable {P : Program} {w : World} {K : PySem.W.Frag} {mg : Str → Option Value} {base : Heap} {d : Ad}
def OpsIn (d : Ad) (H : Hp) (s : Ag13.State) (nums : List Nat) (ad : List Addr) : Prop := Paired (fun (n : Nat) (p : Addr) => OpAt d H p n (Ag13.op s n)) nums ad
def endedOf (s : Ag13.State) (nums : List Nat) : List Nat := nums.filter (Ag13.must s)
structure SrchX (K : PySem.W.Frag) (d : Ad) (H : Hp) (p : Addr) (s : Ag13.State) (nums : List Nat) (R : Rl) (kt gl nd hd : Addr) (ad : List Addr) : Prop where
  ins : ∃ ct, InsAt d.cS searchN H p [.ref kt, .ref gl, .ref ct, nv (markOf (endedOf s nums)), .ref nd, .ref hd] ∧ SqT K H ct (R.cs.map nv)
  kt : H kt = some (.tup (s.kinds.map nv))
  gl : H gl = some (.lst (ad.map V.ref))
  ops : OpsIn d H s nums ad
  nd : ∃ kvs : List (Key × V), H nd = some (.dK kvs) ∧ ∀ n ∈ nums, valV kvs (Sum.inl (n : Int)) = some (nv (markOf (nums.filter fun m => byR s R m n)))
/-- all but hd is as it was -/
def But (a : Addr) (H H' : Hp) : Prop := ∀ b o, H b = some o → b ≠ a → H' b = some o
theorem But.refl (a : Addr) (H : Hp) : But a H H := fun _ _ h _ => h
theorem But.trans {a : Addr} {H H1 H2 : Hp} (x : But a H H1) (y : But a H1 H2) : But a H H2 := fun b o h n => y b o (x b o h n) n
theorem But.of {a : Addr} {H H' : Hp} (h : Same H H') : But a H H' := fun b o q _ => h b o q
theorem But.upd {a : Addr} {H : Hp} {o : HO} : But a H (upd H a o) := fun b u h n => by rw [upd_ne n]; exact h
theorem dd_ne {H : Hp} {a b : Addr} {kvs : List DEnt} {o : HO} (g : DictAt P w H a kvs) (h : H b = some o) (n : ∀ φ, o ≠ .ext φ) : b ≠ a := ne_of h g.1 (n _)
section
variable {H H' : Hp} {p kt gl nd hd : Addr} {s : Ag13.State} {nums : List Nat} {R : Rl} {ad : List Addr} {kvs : List DEnt}
theorem OpsIn.but (g : DictAt P w H hd kvs) (e : But hd H H') (x : OpsIn d H s nums ad) : OpsIn d H' s nums ad :=
  Paired.mapP x fun n p ⟨dx, h⟩ => ⟨dx, e _ _ h (dd_ne g h fun φ z => by cases z)⟩
theorem SqT.but {a : Addr} {xs : List V} (g : DictAt P w H hd kvs) (e : But hd H H') (h : SqT K H a xs) : SqT K H' a xs := by
  rcases h with (h | ⟨o, h⟩) | h
  · exact .inl (.inl (e _ _ h (dd_ne g h fun φ z => by cases z)))
  · exact .inl (.inr ⟨o, e _ _ h (dd_ne g h fun φ z => by cases z)⟩)
  · exact .inr h
theorem SrchX.but (g : DictAt P w H hd kvs) (e : But hd H H') (x : SrchX K d H p s nums R kt gl nd hd ad) : SrchX K d H' p s nums R kt gl nd hd ad := by
  obtain ⟨⟨ct, ⟨dx, h1⟩, hc⟩, h2, h3, h4, kv, h5, h6⟩ := x
  exact ⟨⟨ct, ⟨dx, e _ _ h1 (dd_ne g h1 fun φ z => by cases z)⟩, SqT.but g e hc⟩, e _ _ h2 (dd_ne g h2 fun φ z => by cases z), e _ _ h3 (dd_ne g h3 fun φ z => by cases z), OpsIn.but g e h4, kv, e _ _ h5 (dd_ne g h5 fun φ z => by cases z), h6⟩
theorem HvAt.but {v : V} {h : HV} (g : DictAt P w H hd kvs) (e : But hd H H') (x : HvAt H v h) : HvAt H' v h := by
  cases h with
  | num n => exact x
  | seq l => obtain ⟨a, rfl, q⟩ := x; exact ⟨a, rfl, e _ _ q (dd_ne g q fun φ z => by cases z)⟩
theorem HeldAt.but {a : Addr} {hs : List HV} (g : DictAt P w H hd kvs) (e : But hd H H') (x : HeldAt H a hs) : HeldAt H' a hs := by
  obtain ⟨vs, h1, h2⟩ := x
  exact ⟨vs, e _ _ h1 (dd_ne g h1 fun φ z => by cases z), Paired.mapP h2 fun _ _ q => HvAt.but g e q⟩
theorem DictAt.same (e : Same H H') (g : DictAt P w H hd kvs) : DictAt P w H' hd kvs := g.keeps (by rw [e _ _ g.1, g.1]) fun b ys q => e _ _ q
theorem SrchX.fKinds (x : SrchX K d H p s nums R kt gl nd hd ad) (C : Tc K d) : FldOk K H p "kinds" (.ref kt) := x.ins.choose_spec.1.fld (i := 0) C.cS (C.nS _ (by decide +kernel)) (by decide +kernel) rfl
theorem SrchX.fGiven (x : SrchX K d H p s nums R kt gl nd hd ad) (C : Tc K d) : FldOk K H p "given" (.ref gl) := x.ins.choose_spec.1.fld (i := 1) C.cS (C.nS _ (by decide +kernel)) (by decide +kernel) rfl
theorem SrchX.fEnded (x : SrchX K d H p s nums R kt gl nd hd ad) (C : Tc K d) : FldOk K H p "ended" (nv (markOf (endedOf s nums))) := x.ins.choose_spec.1.fld (i := 3) C.cS (C.nS _ (by decide +kernel)) (by decide +kernel) rfl
theorem SrchX.fNeeded (x : SrchX K d H p s nums R kt gl nd hd ad) (C : Tc K d) : FldOk K H p "needed" (.ref nd) := x.ins.choose_spec.1.fld (i := 4) C.cS (C.nS _ (by decide +kernel)) (by decide +kernel) rfl
theorem SrchX.fHopeless (x : SrchX K d H p s nums R kt gl nd hd ad) (C : Tc K d) : FldOk K H p "hopeless" (.ref hd) := x.ins.choose_spec.1.fld (i := 5) C.cS (C.nS _ (by decide +kernel)) (by decide +kernel) rfl
theorem SrchX.fCounted (x : SrchX K d H p s nums R kt gl nd hd ad) (C : Tc K d) : ∃ ct, FldOk K H p "counted" (.ref ct) ∧ SqT K H ct (R.cs.map nv) := ⟨x.ins.choose, x.ins.choose_spec.1.fld (i := 2) C.cS (C.nS _ (by decide +kernel)) (by decide +kernel) rfl, x.ins.choose_spec.2⟩
end
/-! ### may_follow -/
def may (s : Ag13.State) (nums : List Nat) (R : Rl) (pl n : Nat) : Bool := !(pl.testBit n) && (nums.filter fun m => byR s R m n).all fun m => pl.testBit m
def spMay (K : PySem.W.Frag) (d : Ad) : Sp := fun vs H Q _ => ∃ (p q : Addr) (pl n : Nat) (s : Ag13.State) (nums : List Nat) (R : Rl) (kt gl nd hd : Addr) (ad : List Addr), vs = [.ref p, .ref q, nv pl] ∧ SrchX K d H p s nums R kt gl nd hd ad ∧ OpAt d H q n (Ag13.op s n) ∧ n ∈ nums ∧ n ≤ 1000 ∧
  Q (.bl (may s nums R pl n)) H
theorem ok_may {f : Addr} {fd : FuncData} (F : Fun K "may_follow" "Search.may_follow" s_Search_may_follow f fd) (C : Tc K d) :
    FnOk P w K mg base CX0 1 f fd ["self", "operation", "placed"] (spMay K d) := by
  refine F.ok sc_Search_may_follow (fun vs H Q E h => ?_) (fun cdv A outer s H vs Q E hr h => ?_)
  · obtain ⟨p, q, pl, n, s, nums, R, kt, gl, nd, hd, ad, rfl, _⟩ := h; rfl
  obtain ⟨p, q, pl, n, s, nums, R, kt, gl, nd, hd, ad, rfl, X, O, hn, hs, k⟩ := h
  refine ⟨_, (pss_cons (ps_set (i := 3) sc_Search_may_follow.nd rfl (by first | exact Or.inl rfl | exact Or.inr rfl) (pe_dget (hu_of hr) (pe_fld (pv 0) rfl) (pe_fld (pv 1) rfl) (fun _ _ => rfl))) (pss_one (ps_ret (pe_and (pe_cmpR op_eq (pe_op op_and (pv 2) (pe_op op_shl pe_int (pe_fld (pv 1) rfl))) pe_int (nomark _)) (pe_one (pe_cmpR op_eq (pe_op op_and (pv 2) (pv 3)) (pv 3) (nomark _))))))), ?_⟩
  obtain ⟨kvs, hnd, hval⟩ := X.nd
  have g : DGet H nd (nv n) (some (nv (markOf (nums.filter fun m => byR s R m n)))) := .inl ⟨kvs, Sum.inl (n : Int), .inl hnd, rfl, (hval n hn).symm⟩
  refine ⟨_, rfl, (X.fNeeded C).to ⟨_, rfl, (O.number C).to ⟨nd, _, rfl, g, ?_⟩⟩⟩
  refine ⟨_, rfl, _, rfl, (O.number C).to ⟨_, _, rfl, rfl, ⟨by omega, by omega, by decide⟩, _, _, rfl, rfl, ?_⟩⟩
  have em : Builtin.bitAnd (pl : Int) ((1 : Int) * (2 : Int) ^ ((n : Int).toNat)) = ((pl &&& (1 <<< n) : Nat) : Int) := by rw [shl_one, bit_and]
  dsimp only
  rw [em]
  refine ⟨rfl, _, rfl, ?_⟩
  unfold may at k
  cases ht : pl.testBit n with
  | true =>
    have z : ¬ (pl &&& (1 <<< n)) = 0 := fun z => by rw [mark_apart.mp z] at ht; cases ht
    have z' : decide (nv (pl &&& (1 <<< n)) = nv 0) = false := by rw [eq_nv]; exact decide_eq_false z
    rw [show decide (V.int ((pl &&& (1 <<< n) : Nat) : Int) = V.int 0) = false from z']
    rw [ht] at k
    exact iteF k
  | false =>
    have z' : decide (nv (pl &&& (1 <<< n)) = nv 0) = true := by rw [eq_nv]; exact decide_eq_true (mark_apart.mpr ht)
    rw [show decide (V.int ((pl &&& (1 <<< n) : Nat) : Int) = V.int 0) = true from z']
    refine iteT ?_
    refine ⟨_, rfl, _, rfl, _, _, rfl, rfl, _, rfl, rfl, ?_⟩
    rw [ht] at k
    have z2 : decide (nv (pl &&& markOf (nums.filter fun m => byR s R m n)) = nv (markOf (nums.filter fun m => byR s R m n))) = (nums.filter fun m => byR s R m n).all fun m => pl.testBit m := by
      rw [eq_nv, Bool.eq_iff_iff, decide_eq_true_iff, mark_within, List.all_eq_true]
    have z3 : decide (V.int (Builtin.bitAnd (pl : Int) ((markOf (nums.filter fun m => byR s R m n) : Nat) : Int)) = nv (markOf (nums.filter fun m => byR s R m n))) = (nums.filter fun m => byR s R m n).all fun m => pl.testBit m := by
      rw [bit_and]; exact z2
    refine Eq.mp (congrArg (fun b => Q (V.bl b) H) z3.symm) ?_
    simpa using k
end
end Sh

set_option Elab.async false
set_option linter.all false
set_option maxRecDepth 100000
set_option maxHeartbeats 4000000
namespace Sh
open PySem PySem.Spec PyProof.Rows L2
theorem wf_do {b kind o x y : Nat} {h : HV} (hk : kind < 6) (ho : o < Ag13.opsOf kind) (w : Wf b kind h) : Wf (b + 1) kind (hvDo kind o x y h).1 := by
  match kind, hk with
  | 0, _ =>
    obtain ⟨m, rfl⟩ := w
    match o with
    | 0 => exact ⟨_, rfl⟩
    | 1 => exact ⟨_, rfl⟩
    | n + 2 =>
      show ∃ m', (hvDo 0 (n + 2) x y (.num m)).1 = HV.num m'
      by_cases e : m = x
      · exact ⟨y, by simp only [hvDo, HV.toNum, e, if_true]⟩
      · exact ⟨m, by simp only [hvDo, HV.toNum, e, if_false]⟩
  | 1, _ =>
    obtain ⟨m, rfl⟩ := w
    match o with
    | 0 => exact ⟨_, rfl⟩
    | n + 1 => exact ⟨_, rfl⟩
  | 2, _ =>
    obtain ⟨l, rfl, hl⟩ := w
    match o with
    | 0 => exact ⟨_, rfl, by simp [HV.toSeq]; omega⟩
    | n + 1 =>
      match l with
      | [] => exact ⟨_, rfl, by simp⟩
      | z :: l => exact ⟨_, rfl, by simp at hl; omega⟩
  | 3, _ =>
    obtain ⟨l, rfl, hl⟩ := w
    match o with
    | 0 => exact ⟨_, rfl, by simp [HV.toSeq]; omega⟩
    | n + 1 =>
      show ∃ l', (hvDo 3 (n + 1) x y (.seq l)).1 = HV.seq l' ∧ l'.length ≤ b + 1
      cases e : l.getLast? with
      | none => exact ⟨l, by simp only [hvDo, HV.toSeq, e], by omega⟩
      | some z => exact ⟨l.dropLast, by simp only [hvDo, HV.toSeq, e], by simp; omega⟩
  | 4, _ =>
    obtain ⟨l, rfl, hl, hs⟩ := w
    have hf : (l.filter (· != x)).length ≤ l.length := List.length_filter_le _ _
    match o with
    | 0 => exact ⟨_, rfl, by omega, hs⟩
    | 1 =>
      have := insS_len x (l.filter (· != x))
      exact ⟨_, rfl, by simp only [HV.toSeq]; omega, insS_sorted (hs.filter _)⟩
    | n + 2 => exact ⟨_, rfl, by simp only [HV.toSeq]; omega, hs.filter _⟩
  | 5, _ =>
    obtain ⟨m, rfl⟩ := w
    match o with
    | 0 => exact ⟨_, rfl⟩
    | n + 1 => exact ⟨_, rfl⟩
theorem wfH_one {s : Ag13.State} {nums : List Nat} {b n : Nat} {hs : List HV} (g : Good s nums) (hn : n ∈ nums) (w : WfH s b hs) : WfH s (b + 1) (hvOne s n hs).1 := by
  refine ⟨by simp [hvOne, w.1], fun i hi => ?_⟩
  unfold hvOne
  simp only
  have ht := g.fine n hn
  by_cases e : (Ag13.op s n).thing = i
  · subst e
    have e1 : ∀ z : HV, (hs.set (Ag13.op s n).thing z).getD (Ag13.op s n).thing (.num 0) = z := fun z => by simp [List.getD, w.1, ht]
    rw [e1]
    exact wf_do (g.kinds _ (getD_mem ht)) (g.ops n hn) (w.2 _ ht)
  · have e1 : ∀ z : HV, (hs.set (Ag13.op s n).thing z).getD i (.num 0) = hs.getD i (.num 0) := fun z => by simp [List.getD, e]
    rw [e1]
    exact (w.2 i hi).mono (by omega)
theorem paired_setB {α β : Type} {R : α → β → Prop} : ∀ {xs : List α} {ys : List β} (i : Nat) {x : α} {y : β}, Paired R xs ys → R x y → Paired R (xs.set i x) (ys.set i y)
  | _, _, _, _, _, .nil, _ => .nil
  | _, _, 0, _, _, .cons _ t, r => .cons r t
  | _, _, i + 1, _, _, .cons q t, r => .cons q (paired_setB i t r)
theorem Paired.getR {α β : Type} {R : α → β → Prop} : ∀ {xs : List α} {ys : List β} {i : Nat} {x : α}, Paired R xs ys → xs[i]? = some x → ∃ y, ys[i]? = some y ∧ R x y
  | _, _, _, _, .nil, e => by simp at e
  | _, _, 0, _, .cons r _, e => by simp at e; subst e; exact ⟨_, rfl, r⟩
  | _, _, i + 1, x, .cons _ t, e => by
    obtain ⟨y, h1, h2⟩ := Paired.getR (i := i) (x := x) t (by simpa using e)
    exact ⟨y, by simpa using h1, h2⟩
section
variable {P : Program} {w : World} {K : PySem.W.Frag} {mg : Str → Option Value} {base : Heap} {d : Ad}
/-! ### do_operation -/
def spDoOp (d : Ad) : Sp := fun vs H Q _ => ∃ (kt ht q : Addr) (s : Ag13.State) (nums : List Nat) (n b : Nat) (hs : List HV), vs = [.ref kt, .ref ht, .ref q] ∧ H kt = some (.tup (s.kinds.map nv)) ∧ HeldAt H ht hs ∧ OpAt d H q n (Ag13.op s n) ∧ Good s nums ∧ n ∈ nums ∧ WfH s b hs ∧ b ≤ 900 ∧
  ∀ (H' : Hp) (p h' : Addr), Same H H' → H' p = some (.tup [.int (hvOne s n hs).2, .ref h']) → HeldAt H' h' (hvOne s n hs).1 → Q (.ref p) H'
theorem ok_do {f f1 : Addr} {fd d1 : FuncData} (F : Fun K "do_operation" "do_operation" s_do_operation f fd) (C : Tc K d)
    (o_done : OkD P w K mg base 2 "done" ["kind", "held", "action", "a", "b"] spDone f1 d1) : FnOk P w K mg base CX0 3 f fd ["kinds", "held", "operation"] (spDoOp d) := by
  refine F.ok sc_do_operation (fun vs H Q E h => ?_) (fun cdv A outer s H vs Q E hr h => ?_)
  · obtain ⟨kt, htA, q, s, nums, n, b, hs, rfl, _⟩ := h; rfl
  obtain ⟨kt, htA, q, s, nums, n, b, hs, rfl, hkt, hheld, O, good, hnn, wf, hb9, k⟩ := h
  refine ⟨_, (pss_cons (ps_set (i := 3) sc_do_operation.nd rfl (by first | exact Or.inl rfl | exact Or.inr rfl) (pe_fld (pv 2) rfl)) (pss_cons (ps_set (i := 4) sc_do_operation.nd rfl (by first | exact Or.inl rfl | exact Or.inr rfl) (pe_cd o_done (hr.mono (by omega)) (pa_cons (pe_ix ix_tup (pv 0) (pv 3) (fun _ _ => rfl)) (pa_cons (pe_ix ix_tup (pv 1) (pv 3) (fun _ _ => rfl)) (pa_cons (pe_fld (pv 2) rfl) (pa_cons (pe_fld (pv 2) rfl) (pa_cons (pe_fld (pv 2) rfl) pa_nil))))))) (pss_one (ps_ret (pe_tup (pa_cons (pe_ix ix_tup (pv 4) pe_int (fun _ _ => rfl)) (pa_cons (pe_op op_catA (pe_op op_catA (pe_slice sl_tupA (pv 1) po_none (po_some (pv 3))) (pe_tup (pa_cons (pe_ix ix_tup (pv 4) pe_int (fun _ _ => rfl)) pa_nil))) (pe_slice sl_tupA (pv 1) (po_some (pe_op op_add (pv 3) pe_int)) po_none)) pa_nil))))))), ?_⟩
  have ht1 := good.fine n hnn
  obtain ⟨hvs, hh1, hh2⟩ := hheld
  have lh : hs.length = hvs.length := Paired.length hh2
  have hv1 : (Ag13.op s n).thing < hs.length := by rw [wf.1]; exact ht1
  obtain ⟨v, hv2, hv3⟩ := Paired.getR hh2 (List.getElem?_eq_getElem hv1)
  have hg : hs[(Ag13.op s n).thing] = hs.getD (Ag13.op s n).thing (.num 0) := by rw [List.getD, List.getElem?_eq_getElem hv1]; rfl
  rw [hg] at hv3
  refine ⟨_, rfl, (O.thing C).to ?_⟩
  refine ⟨_, rfl, _, rfl, kt, _, _, _, rfl, rfl, SqT.of hkt, kind_at ht1, _, rfl, _, rfl, htA, _, _, _, rfl, rfl, SqT.of hh1, atI_nat hv2, _, rfl, (O.action C).to ⟨_, rfl, (O.fa C).to ⟨_, rfl, (O.fb C).to ?_⟩⟩⟩
  refine ⟨_, v, _, _, _, _, rfl, good.kinds _ (getD_mem ht1), hv3, (wf.2 _ ht1).mono (by omega), good.ops n hnn, fun H2 p2 v2 e2 hp2 hv22 => ?_⟩
  have hx : hvs.length ≤ 1000 := by rw [← lh, wf.1]; have := good.few; omega
  have ht : (Ag13.op s n).thing < hvs.length := by omega
  generalize htt : (Ag13.op s n).thing = t at *
  have i1 : HT.sIx hvs.length hvs.length (some (t : Int)) = t := by rw [HT.sIx_nat, Nat.min_eq_left (by omega)]
  have i2 : HT.sIx hvs.length 0 (some ((t : Int) + 1)) = t + 1 := by
    have e : ((t : Int) + 1) = ((t + 1 : Nat) : Int) := by omega
    rw [e, HT.sIx_nat, Nat.min_eq_left (by omega)]
  have eone : (hvOne s n hs).1 = hs.set t (hvDo (s.kinds.getD t 0) (Ag13.op s n).op (Ag13.op s n).a (Ag13.op s n).b (hs.getD t (.num 0))).1 := by unfold hvOne; dsimp only; rw [htt]
  have etwo : (hvOne s n hs).2 = (hvDo (s.kinds.getD t 0) (Ag13.op s n).op (Ag13.op s n).a (Ag13.op s n).b (hs.getD t (.num 0))).2 := by unfold hvOne; dsimp only; rw [htt]
  -- what is left, once the new tuple stands
  have fin : ∀ (p5 : Addr) (H5 : Hp), Same H2 H5 → H5 p5 = some (.tup (hvs.set t v2)) → ∀ p, H5 p = none → Q (.ref p) (upd H5 p (.tup [.int (hvDo (s.kinds.getD t 0) (Ag13.op s n).op (Ag13.op s n).a (Ag13.op s n).b (hs.getD t (.num 0))).2, .ref p5])) := by
    intro p5 H5 e5 h5 p hp
    have e6 := e5.trans (same_new hp (.tup [.int (hvDo (s.kinds.getD t 0) (Ag13.op s n).op (Ag13.op s n).a (Ag13.op s n).b (hs.getD t (.num 0))).2, .ref p5]))
    refine k _ p p5 (e2.trans e6) (by rw [upd_same, etwo]) ⟨_, (upd_ne (ne_of_none h5 hp)).trans h5, ?_⟩
    rw [eone]
    exact paired_setB t (Paired.mapP hh2 fun _ _ z => z.same (e2.trans e6)) (hv22.same e6)
  refine ⟨_, rfl, p2, _, _, _, rfl, rfl, SqT.of hp2, atI_nat (j := 0) rfl, ?_⟩
  refine ⟨_, rfl, _, rfl, _, rfl, _, hvs, rfl, SqT.of (e2 _ _ hh1), fun z => ?_, fun _ p1 h1 => ?_⟩
  · exfalso
    have z2 : HT.sIx hvs.length hvs.length (some (t : Int)) = hvs.length := z.2
    rw [i1] at z2
    omega
  rw [cut_to ht]
  have e1 : Same H2 (upd H2 p1 (.tup (hvs.take t))) := same_new h1 _
  refine ⟨_, rfl, p2, _, _, _, rfl, rfl, SqT.of (e1 _ _ hp2), atI_nat (j := 1) rfl, one_sz, fun p3 h3 => ?_⟩
  have e3 := e1.trans (same_new h3 (.tup [v2]))
  have go : ∀ (p4 : Addr) (H4 : Hp), Same H2 H4 → H4 p4 = some (.tup (hvs.take t ++ [v2])) → (tSl (rSlA K) (tVar 1) (tPart (tOp (rI0 fun i j => .int (i + j)) (tVar 3) (tC (.int 1)))) tNoPart) [some (.ref kt), some (.ref htA), some (.ref q), some (nv t), some (.ref p2)] H4 fun y H5 => rCatA K (.ref p4) y H5 fun y H6 => tNil [some (.ref kt), some (.ref htA), some (.ref q), some (nv t), some (.ref p2)] H6 fun xs H7 => ([V.int (hvDo (s.kinds.getD t 0) (Ag13.op s n).op (Ag13.op s n).a (Ag13.op s n).b (hs.getD t (.num 0))).2, y] ++ xs).length ≤ sizeLine ∧ ∀ p, H7 p = none → Q (.ref p) (upd H7 p (.tup ([V.int (hvDo (s.kinds.getD t 0) (Ag13.op s n).op (Ag13.op s n).a (Ag13.op s n).b (hs.getD t (.num 0))).2, y] ++ xs))) := by
    intro p4 H4 e4 hp4
    refine ⟨_, rfl, _, rfl, _, _, rfl, rfl, _, rfl, htA, hvs, rfl, SqT.of (e4 _ _ (e2 _ _ hh1)), fun z => ?_, fun _ p5 h5 => ?_⟩
    · exfalso
      have z1 : HT.sIx hvs.length 0 (some ((t : Int) + 1)) = 0 := z.1
      rw [i2] at z1
      omega
    rw [cut_from ht]
    have e5 := same_new h5 (.tup (hvs.drop (t + 1)))
    refine ⟨p4, p5, _, _, rfl, rfl, SqT.of (e5 _ _ hp4), SqT.of upd_same, sz (by simp; omega), ?_, ?_, ?_⟩
    · intro z; simp at z
    · intro _ z
      refine ⟨two_sz, fin p4 _ (e4.trans e5) ?_⟩
      rw [e5 _ _ hp4, ← set_parts ht, z, List.append_nil]
    · intro _ _ p6 h6
      refine ⟨two_sz, fin p6 _ ((e4.trans e5).trans (same_new h6 _)) ?_⟩
      rw [upd_same, set_parts ht]
  refine ⟨p1, p3, _, _, rfl, rfl, SqT.of ((same_new h3 _) _ _ upd_same), SqT.of upd_same, sz (by simp; omega), ?_, ?_, ?_⟩
  · intro z
    refine go p3 _ e3 ?_
    rw [z]; exact upd_same
  · intro _ z; cases z
  · intro _ _ p4 h4
    exact go p4 _ (e3.trans (same_new h4 _)) upd_same
/-! ### must_answer -/
def spMust (K : PySem.W.Frag) (d : Ad) : Sp := fun vs H Q _ => ∃ (p q : Addr) (n : Nat) (s : Ag13.State) (nums : List Nat) (R : Rl) (kt gl nd hd : Addr) (ad : List Addr), vs = [.ref p, .ref q] ∧ SrchX K d H p s nums R kt gl nd hd ad ∧ OpAt d H q n (Ag13.op s n) ∧
  Q (.bl (Ag13.must s n && cntR s R n)) H
theorem ok_must {f : Addr} {fd : FuncData} (F : Fun K "must_answer" "Search.must_answer" s_Search_must_answer f fd) (C : Tc K d) : FnOk P w K mg base CX0 1 f fd ["self", "operation"] (spMust K d) := by
  refine F.ok sc_Search_must_answer (fun vs H Q E h => ?_) (fun cdv A outer s H vs Q E hr h => ?_)
  · obtain ⟨p, q, n, s, nums, R, kt, gl, nd, hd, ad, rfl, _⟩ := h; rfl
  obtain ⟨p, q, n, s, nums, R, kt, gl, nd, hd, ad, rfl, X, O, k⟩ := h
  refine ⟨_, (pss_one (ps_ret (pe_and (pe_cmpR op_notN (pe_fld (pv 1) rfl) pe_non (nomark _)) (pe_one (pe_cmpR op_in_seq (pe_fld (pv 1) rfl) (pe_fld (pv 0) rfl) (by rfl)))))), ?_⟩
  refine ⟨_, rfl, (O.ended C).to ⟨rfl, _, rfl, ?_⟩⟩
  cases he : (Ag13.op s n).ended with
  | none =>
    have z1 : endV (Ag13.op s n) = .non := by unfold endV; rw [he]
    have z : (Ag13.must s n && cntR s R n) = false := by unfold Ag13.must; rw [he]; rfl
    rw [z] at k
    rw [z1]
    exact iteF k
  | some e =>
    have z1 : endV (Ag13.op s n) = nv e.1 := by unfold endV; rw [he]
    rw [z1]
    obtain ⟨ct, hf, hc⟩ := X.fCounted C
    refine iteT ⟨_, rfl, (O.client C).to ⟨_, rfl, hf.to ⟨ct, _, rfl, .inr hc, rfl, flat_nv _, ?_⟩⟩⟩
    have z : (Ag13.must s n && cntR s R n) = inV (nv (Ag13.op s n).client) (R.cs.map nv) := by unfold Ag13.must cntR; rw [he, inV_nv]; rfl
    rw [z] at k
    exact k
/-- the search from a place on -/
def psr (s : Ag13.State) (nums : List Nat) (R : Rl) (pl : Nat) (hs : List HV) : Option (List Nat) := psearch s (byR s R) (cntR s R) (leftOf nums pl).length (leftOf nums pl) hs
def Valid (s : Ag13.State) (nums : List Nat) (R : Rl) (kvs : List DEnt) : Prop := ∀ e ∈ kvs, ∃ pl hs, e.1 = keyOf pl hs ∧ psr s nums R pl hs = none
/-- what is given back: a new row or None -/
def Told (Q : VK) (H : Hp) (r : List Nat) : Option (List Nat) → Prop
  | some l => ∀ r' : Addr, H r' = some (.lst ((r ++ l).map nv)) → Q (.ref r') H
  | none => Q .non H
def After (P : Program) (w : World) (Q : VK) (H : Hp) (s : Ag13.State) (nums : List Nat) (R : Rl) (hd : Addr) (kvs : List DEnt) (m : Nat) (r : List Nat) (res : Option (List Nat)) : Prop :=
  ∀ (H' : Hp) (kvs' : List DEnt), But hd H H' → DictAt P w H' hd kvs' → Valid s nums R kvs' → kvs'.length ≤ kvs.length + m → Told Q H' r res
/-- the state of a search in the heap -/
structure Sit (P : Program) (w : World) (K : PySem.W.Frag) (d : Ad) (H : Hp) (p row ht : Addr) (s : Ag13.State) (nums : List Nat) (R : Rl) (kt gl nd hd : Addr) (ad : List Addr) (kvs : List DEnt) (r : List Nat) (hs : List HV) (b : Nat) : Prop where
  X : SrchX K d H p s nums R kt gl nd hd ad
  D : DictAt P w H hd kvs
  V : Valid s nums R kvs
  row : H row = some (.lst (r.map nv))
  held : HeldAt H ht hs
  good : Good s nums
  wf : WfH s b hs
def spFrom (P : Program) (w : World) (K : PySem.W.Frag) (d : Ad) (k : Nat) : Sp := fun vs H Q _ => ∃ (p row ht : Addr) (pl : Nat) (s : Ag13.State) (nums : List Nat) (R : Rl) (kt gl nd hd : Addr) (ad : List Addr) (kvs : List DEnt) (r : List Nat) (hs : List HV) (b : Nat),
  vs = [.ref p, .ref row, nv pl, .ref ht] ∧ Sit P w K d H p row ht s nums R kt gl nd hd ad kvs r hs b ∧ (leftOf nums pl).length ≤ k ∧ b + k ≤ 100 ∧ r.length + k ≤ 100 ∧ kvs.length + nodes k ≤ 1000000 ∧
  After P w Q H s nums R hd kvs (nodes k) r (psr s nums R pl hs)
/-- what first_with is worth -/
def withR (s : Ag13.State) (nums : List Nat) (R : Rl) (pl n : Nat) (hs : List HV) : Option (List Nat) :=
  if (cntR s R n && !(Ag13.right s n (hvOne s n hs).2)) = true then none else (psr s nums R (pl ||| (1 <<< n)) (hvOne s n hs).1).map (fun l => n :: l)
def spFW (P : Program) (w : World) (K : PySem.W.Frag) (d : Ad) : Nat → Sp
  | 0 => fun _ _ _ _ => False
  | k + 1 => fun vs H Q _ => ∃ (p q row ht : Addr) (pl n : Nat) (s : Ag13.State) (nums : List Nat) (R : Rl) (kt gl nd hd : Addr) (ad : List Addr) (kvs : List DEnt) (r : List Nat) (hs : List HV) (b : Nat),
    vs = [.ref p, .ref q, .ref row, nv pl, .ref ht] ∧ Sit P w K d H p row ht s nums R kt gl nd hd ad kvs r hs b ∧ OpAt d H q n (Ag13.op s n) ∧ n ∈ leftOf nums pl ∧ (leftOf nums pl).length ≤ k + 1 ∧ b + k + 1 ≤ 100 ∧ r.length + k + 1 ≤ 100 ∧ kvs.length + nodes k ≤ 1000000 ∧
    After P w Q H s nums R hd kvs (nodes k) r (withR s nums R pl n hs)
theorem ok_fw {k : Nat} {f f1 f2 f4 : Addr} {fd d1 d2 d4 : FuncData} (F : Fun K "first_with" "Search.first_with" s_Search_first_with f fd) (C : Tc K d)
    (o_do_operation : OkD P w K mg base 3 "do_operation" ["kinds", "held", "operation"] (spDoOp d) f1 d1) (o_Search_must_answer : OkM P w K mg base 1 d.cS "must_answer" ["self", "operation"] (spMust K d) f2 d2)
    (o_Search_first_from : OkM P w K mg base (2 * k + 4) d.cS "first_from" ["self", "row", "placed", "held"] (spFrom P w K d k) f4 d4) :
    FnOk P w K mg base CX0 (2 * k + 4 + 1) f fd ["self", "operation", "row", "placed", "held"] (spFW P w K d (k + 1)) := by
  refine F.ok sc_Search_first_with (fun vs H Q E h => ?_) (fun cdv A outer s H vs Q E hr h => ?_)
  · obtain ⟨p, q, row, ht, pl, n, s, nums, R, kt, gl, nd, hd, ad, kvs, r, hs, b, rfl, _⟩ := h; rfl
  obtain ⟨p, q, row, ht, pl, n, s, nums, R, kt, gl, nd, hd, ad, kvs, r, hs, b, rfl, S, O, hn, hk, hb, hr', hkv, A1⟩ := h
  refine ⟨_, (pss_cons (ps_set (i := 5) sc_Search_first_with.nd rfl (by first | exact Or.inl rfl | exact Or.inr rfl) (pe_cd o_do_operation (hr.mono (by omega)) (pa_cons (pe_fld (pv 0) rfl) (pa_cons (pv 4) (pa_cons (pv 1) pa_nil))))) (pss_cons (ps_if (PW.pt (pw_and (pt_val (pe_md (pv 0) o_Search_must_answer (hr.mono (by omega)) (pa_cons (pv 1) pa_nil))) (pw_and1 (pt_cmpR op_ne (pe_ix ix_tup (pv 5) pe_int (fun _ _ => rfl)) (pe_fld (pv 1) rfl) (nomark _))))) (pss_one (ps_ret pe_non)) pss_nil) (pss_one (ps_ret (pe_md (pv 0) o_Search_first_from (hr.mono (by omega)) (pa_cons (pe_op op_cat (pv 2) (pe_lst (pa_cons (pe_fld (pv 1) rfl) pa_nil))) (pa_cons (pe_op op_or (pv 3) (pe_op op_shl pe_int (pe_fld (pv 1) rfl))) (pa_cons (pe_ix ix_tup (pv 5) pe_int (fun _ _ => rfl)) pa_nil)))))))), ?_⟩
  have hnn : n ∈ nums := (mem_leftOf.mp hn).1
  have hnb : pl.testBit n = false := (mem_leftOf.mp hn).2
  refine ⟨_, rfl, (S.X.fKinds C).to ⟨_, rfl, _, rfl, kt, ht, q, s, nums, n, b, hs, rfl, S.X.kt, S.held, O, S.good, hnn, S.wf, by omega, fun H2 p2 h2 e2 hp2 held2 => ?_⟩⟩
  have O2 := O.same e2
  have G2 := DictAt.same e2 S.D
  have X2 : SrchX K d H2 p s nums R kt gl nd hd ad := S.X.but S.D (But.of e2)
  obtain ⟨ct, ⟨dx, hins⟩, _⟩ := id X2.ins
  -- the answer is right, or does not count
  have right_go : (cntR s R n && !(Ag13.right s n (hvOne s n hs).2)) = false → tRet (tMeth d.cS "first_from" (spFrom P w K d k) [] E0 (tVar 0) (tCons (tOp rCat (tVar 2) (tLst (tCons (tFld K (tVar 1) "number") tNil))) (tCons (tOp (rI0 fun i j => .int (Builtin.bitOr i j)) (tVar 3) (tOp (rI CPow fun i j => .int (i * 2 ^ j.toNat)) (tC (.int 1)) (tFld K (tVar 1) "number"))) (tCons (tOp (rIxT K) (tVar 5) (tC (.int 1))) tNil))))
      { nx := fun _ H' => Q .non H', rt := Q } [some (.ref p), some (.ref q), some (.ref row), some (nv pl), some (.ref ht), some (.ref p2)] H2 := by
    intro hright
    refine ⟨_, rfl, p, dx, _, rfl, hins, look_no (by decide +kernel), ?_⟩
    refine ⟨_, rfl, _, rfl, (O2.number C).to ⟨one_sz, fun l1 hl1 => ?_⟩⟩
    have e3 := same_new hl1 (.lst [nv n])
    refine ⟨row, l1, _, _, rfl, rfl, e3 _ _ (e2 _ _ S.row), upd_same, sz (by simp; omega), fun l2 hl2 => ?_⟩
    have e4 := e3.trans (same_new hl2 (.lst (r.map nv ++ [nv n])))
    refine ⟨_, rfl, _, rfl, ((O2.same e4).number C).to ⟨_, _, rfl, rfl, ⟨by omega, by have := S.good.small n hnn; omega, by decide⟩, _, _, rfl, rfl, ?_⟩⟩
    have em : Builtin.bitOr (pl : Int) ((1 : Int) * (2 : Int) ^ ((n : Int).toNat)) = ((pl ||| (1 <<< n) : Nat) : Int) := by rw [shl_one, bit_or]
    dsimp only
    rw [em]
    refine ⟨_, rfl, p2, _, _, _, rfl, rfl, SqT.of (e4 _ _ hp2), atI_nat (j := 1) rfl, ?_⟩
    have e8 : Same H _ := e2.trans e4
    have held6 := held2.same e4
    have row6 : (upd (upd H2 l1 (.lst [nv n])) l2 (.lst (r.map nv ++ [nv n]))) l2 = some (.lst ((r ++ [n]).map nv)) := by
      rw [upd_same, List.map_append]; rfl
    refine ⟨p, l2, h2, pl ||| (1 <<< n), s, nums, R, kt, gl, nd, hd, ad, kvs, r ++ [n], (hvOne s n hs).1, b + 1, rfl, ⟨S.X.but S.D (But.of e8), DictAt.same e8 S.D, S.V, row6, held6, S.good, wfH_one S.good hnn S.wf⟩, ?_, by omega, by simp; omega, hkv, ?_⟩
    · have := leftOf_len S.good.nd hn; omega
    · intro H7 kvs7 b7 D7 V7 l7
      have A2 := A1 H7 kvs7 ((But.of e8).trans b7) D7 V7 l7
      unfold withR at A2
      rw [hright, if_neg Bool.false_ne_true] at A2
      cases hps : psr s nums R (pl ||| (1 <<< n)) (hvOne s n hs).1 with
      | none => rw [hps] at A2; exact A2
      | some l =>
        rw [hps] at A2
        intro r' h'
        refine A2 r' ?_
        rw [h']
        simp
  refine ⟨_, rfl, p, dx, _, rfl, hins, look_no (by decide +kernel), _, rfl, p, q, n, s, nums, R, kt, gl, nd, hd, ad, rfl, X2, O2, _, rfl, ?_⟩
  cases he : (Ag13.op s n).ended with
  | none =>
    have z1 : (Ag13.must s n && cntR s R n) = false := by unfold Ag13.must; rw [he]; rfl
    rw [z1]
    exact iteF (iteF (right_go (by unfold Ag13.right; rw [he]; simp)))
  | some e =>
    have z1 : (Ag13.must s n && cntR s R n) = cntR s R n := by unfold Ag13.must; rw [he]; rfl
    have z2 : ansV (Ag13.op s n) = .int e.2 := by unfold ansV; rw [he]
    rw [z1]
    cases hcnt : cntR s R n with
    | false => exact iteF (iteF (right_go (by rw [hcnt]; rfl)))
    | true =>
      refine iteT ?_
      refine ⟨_, rfl, p2, _, _, _, rfl, rfl, SqT.of hp2, atI_nat (j := 0) rfl, _, rfl, (O2.answer C).to ?_⟩
      rw [z2]
      refine ⟨rfl, _, rfl, ?_⟩
      by_cases hx : (hvOne s n hs).2 = e.2
      · rw [show decide (V.int (hvOne s n hs).2 = V.int e.2) = true from decide_eq_true (by rw [hx])]
        exact iteF (right_go (by unfold Ag13.right; rw [he]; simp [hx]))
      · rw [show decide (V.int (hvOne s n hs).2 = V.int e.2) = false from decide_eq_false fun z => by injection z with z; exact hx z]
        refine iteT ?_
        have A2 := A1 H2 kvs (But.of e2) G2 S.V (by omega)
        have nr : (cntR s R n && !(Ag13.right s n (hvOne s n hs).2)) = true := by
          rw [hcnt]; unfold Ag13.right; rw [he]
          simpa using fun z => hx z.symm
        unfold withR at A2
        rw [if_pos nr] at A2
        exact A2
end
end Sh

set_option Elab.async false
set_option linter.all false
set_option maxRecDepth 100000
set_option maxHeartbeats 4000000
namespace Sh
open PySem PySem.Spec PyProof.Rows L2
section
variable {s : Ag13.State} {nums : List Nat} {R : Rl} {pl n : Nat} {hs : List HV}
theorem ended_all : pl &&& markOf (endedOf s nums) = markOf (endedOf s nums) ↔ (leftOf nums pl).any (Ag13.must s) = false := by
  rw [mark_within, Bool.eq_false_iff]
  constructor
  · intro h hz
    obtain ⟨x, hx, hm⟩ := List.any_eq_true.mp hz
    obtain ⟨h1, h2⟩ := mem_leftOf.mp hx
    have := h x (List.mem_filter.mpr ⟨h1, hm⟩)
    rw [h2] at this; cases this
  · intro h b hb
    obtain ⟨h1, h2⟩ := List.mem_filter.mp hb
    cases ht : pl.testBit b with
    | true => rfl
    | false => exact absurd (List.any_eq_true.mpr ⟨b, mem_leftOf.mpr ⟨h1, ht⟩, h2⟩) h
theorem may_iff : may s nums R pl n = true ↔ pl.testBit n = false ∧ (leftOf nums pl).any (fun j => byR s R j n) = false := by
  unfold may
  rw [Bool.and_eq_true, Bool.not_eq_true', List.all_eq_true]
  constructor
  · rintro ⟨h1, h2⟩
    refine ⟨h1, Bool.eq_false_iff.mpr fun hz => ?_⟩
    obtain ⟨x, hx, hm⟩ := List.any_eq_true.mp hz
    obtain ⟨h3, h4⟩ := mem_leftOf.mp hx
    have := h2 x (List.mem_filter.mpr ⟨h3, hm⟩)
    rw [h4] at this; cases this
  · rintro ⟨h1, h2⟩
    refine ⟨h1, fun x hx => ?_⟩
    obtain ⟨h3, h4⟩ := List.mem_filter.mp hx
    cases ht : pl.testBit x with
    | true => rfl
    | false => exact absurd (List.any_eq_true.mpr ⟨x, mem_leftOf.mpr ⟨h3, ht⟩, h4⟩) (Bool.eq_false_iff.mp h2)
theorem psr_done (h : (leftOf nums pl).any (Ag13.must s) = false) : psr s nums R pl hs = some [] := psearch_done h
/-- the worth of one operation in its place -/
def bodyR (s : Ag13.State) (nums : List Nat) (R : Rl) (pl : Nat) (hs : List HV) (n : Nat) : Option (List Nat) := if may s nums R pl n = true then withR s nums R pl n hs else none
theorem body_eq (hn : nums.Nodup) (hl : n ∈ leftOf nums pl) {m : Nat} (hm : (leftOf nums pl).length = m + 1) : pbody s (byR s R) (cntR s R) m (leftOf nums pl) hs n = bodyR s nums R pl hs n := by
  have ht := (mem_leftOf.mp hl).2
  unfold pbody bodyR withR psr
  have hlen := leftOf_len hn hl
  have e2 : (leftOf nums (pl ||| (1 <<< n))).length = m := by omega
  rw [leftOf_more hn, e2]
  by_cases ha : (leftOf nums pl).any (fun j => byR s R j n) = true
  · have hmay : ¬ may s nums R pl n = true := fun z => by rw [(may_iff.mp z).2] at ha; cases ha
    rw [if_pos ha, if_neg hmay]
  · have hmay : may s nums R pl n = true := may_iff.mpr ⟨ht, by simpa using ha⟩
    rw [if_neg ha, if_pos hmay]
theorem psr_none (hn : nums.Nodup) (h : (leftOf nums pl).any (Ag13.must s) = true) (hb : ∀ n ∈ nums, pl.testBit n = false → bodyR s nums R pl hs n = none) : psr s nums R pl hs = none := by
  unfold psr
  obtain ⟨x, hx, _⟩ := List.any_eq_true.mp h
  have hp : 0 < (leftOf nums pl).length := List.length_pos_of_mem hx
  obtain ⟨m, hm⟩ : ∃ m, (leftOf nums pl).length = m + 1 := ⟨(leftOf nums pl).length - 1, by omega⟩
  rw [hm, psearch_more h]
  unfold leftOf
  refine find_none fun y hy hp => ?_
  have hp' : pl.testBit y = false := by simpa using hp
  have z := body_eq (s := s) (R := R) (hs := hs) hn (mem_leftOf.mpr ⟨hy, hp'⟩) hm
  unfold leftOf at z
  rw [z]
  exact hb y hy hp'
theorem psr_some (hn : nums.Nodup) (h : (leftOf nums pl).any (Ag13.must s) = true) {i : Nat} {l : List Nat} (hi : nums[i]? = some n) (ht : pl.testBit n = false) (hf : bodyR s nums R pl hs n = some l)
    (hb : ∀ (j y : Nat), j < i → nums[j]? = some y → pl.testBit y = false → bodyR s nums R pl hs y = none) : psr s nums R pl hs = some l := by
  unfold psr
  obtain ⟨x, hx, _⟩ := List.any_eq_true.mp h
  have hp : 0 < (leftOf nums pl).length := List.length_pos_of_mem hx
  obtain ⟨m, hm⟩ : ∃ m, (leftOf nums pl).length = m + 1 := ⟨(leftOf nums pl).length - 1, by omega⟩
  have be : ∀ y, y ∈ nums → pl.testBit y = false → pbody s (byR s R) (cntR s R) m (nums.filter fun i => !(pl.testBit i)) hs y = bodyR s nums R pl hs y := fun y hy hp' => by
    have z := body_eq (s := s) (R := R) (hs := hs) hn (mem_leftOf.mpr ⟨hy, hp'⟩) hm
    unfold leftOf at z
    exact z
  rw [hm, psearch_more h]
  unfold leftOf
  refine find_first hi (by simpa using ht) ((be n (List.mem_of_getElem? hi) ht).trans hf) fun j y hj hy hp => ?_
  have hp' : pl.testBit y = false := by simpa using hp
  rw [be y (List.mem_of_getElem? hy) hp']
  exact hb j y hj hy hp'
end
theorem look_mem {kvs : List DEnt} {k : DKey} (h : (lookD kvs k).isSome = true) : ∃ e ∈ kvs, e.1 = k := by
  unfold lookD at h
  rw [Option.isSome_map] at h
  obtain ⟨e, he⟩ := Option.isSome_iff_exists.mp h
  have h2 := List.find?_some he
  exact ⟨e, List.mem_of_find?_eq_some he, of_decide_eq_true h2⟩
section
variable {P : Program} {w : World} {K : PySem.W.Frag} {mg : Str → Option Value} {base : Heap} {d : Ad}
theorem Sit.but {H H' : Hp} {p row ht kt gl nd hd : Addr} {s : Ag13.State} {nums : List Nat} {R : Rl} {ad : List Addr} {kvs kvs' : List DEnt} {r : List Nat} {hs : List HV} {b : Nat}
    (S : Sit P w K d H p row ht s nums R kt gl nd hd ad kvs r hs b) (e : But hd H H') (D : DictAt P w H' hd kvs') (v : Valid s nums R kvs') : Sit P w K d H' p row ht s nums R kt gl nd hd ad kvs' r hs b :=
  ⟨S.X.but S.D e, D, v, e _ _ S.row (dd_ne S.D S.row fun φ z => by cases z), S.held.but S.D e, S.good, S.wf⟩
theorem ok_from {k : Nat} {f f1 f2 : Addr} {fd d1 d2 : FuncData} (F : Fun K "first_from" "Search.first_from" s_Search_first_from f fd) (C : Tc K d)
    (o_Search_may_follow : OkM P w K mg base 1 d.cS "may_follow" ["self", "operation", "placed"] (spMay K d) f1 d1) (o_Search_first_with : OkM P w K mg base (2 * k + 3) d.cS "first_with" ["self", "operation", "row", "placed", "held"] (spFW P w K d k) f2 d2) :
    FnOk P w K mg base CX0 (2 * k + 3 + 1) f fd ["self", "row", "placed", "held"] (spFrom P w K d k) := by
  refine F.ok sc_Search_first_from (fun vs H Q E h => ?_) (fun cdv A outer s H vs Q E hr h => ?_)
  · obtain ⟨p, row, ht, pl, s, nums, R, kt, gl, nd, hd, ad, kvs, r, hs, b, rfl, _⟩ := h; rfl
  obtain ⟨p, row, ht, pl, s, nums, R, kt, gl, nd, hd, ad, kvs, r, hs, b, rfl, S, hk, hb, hrl, hkv, A1⟩ := h
  refine ⟨_, (pss_cons (ps_if (pt_cmpR op_eq (pe_op op_and (pv 2) (pe_fld (pv 0) rfl)) (pe_fld (pv 0) rfl) (nomark _)) (pss_one (ps_ret (pv 1))) pss_nil) (pss_cons (ps_if (pt_cmp (pc_ddin (hu4 hr) (pe_tup (pa_cons (pv 2) (pa_cons (pv 3) pa_nil))) (pe_fld (pv 0) rfl))) (pss_one (ps_ret pe_non)) pss_nil) (pss_cons (ps_for PassesOwn.never rfl (pi_list (pe_fld (pv 0) rfl)) (pg_name (i := 4) sc_Search_first_from.nd rfl (by first | exact Or.inl rfl | exact Or.inr rfl)) (pss_one (ps_if (pt_val (pe_md (pv 0) o_Search_may_follow (hr.mono (by omega)) (pa_cons (pv 4) (pa_cons (pv 2) pa_nil)))) (pss_cons (ps_set (i := 5) sc_Search_first_from.nd rfl (by first | exact Or.inl rfl | exact Or.inr rfl) (pe_md (pv 0) o_Search_first_with (hr.mono (by omega)) (pa_cons (pv 4) (pa_cons (pv 1) (pa_cons (pv 2) (pa_cons (pv 3) pa_nil)))))) (pss_one (ps_if (pt_cmpR op_notN (pv 5) pe_non (nomark _)) (pss_one (ps_ret (pv 5))) pss_nil))) pss_nil))) (pss_cons (ps_ddput (hu4 hr) (pe_fld (pv 0) rfl) (pe_tup (pa_cons (pv 2) (pa_cons (pv 3) pa_nil))) pe_bl rfl) (pss_one (ps_ret pe_non)))))), ?_⟩
  have np := nodes_pos k
  refine ⟨_, rfl, _, rfl, (S.X.fEnded C).to ⟨_, _, rfl, rfl, _, rfl, (S.X.fEnded C).to ⟨rfl, _, rfl, ?_⟩⟩⟩
  have z0 : decide (V.int (Builtin.bitAnd (pl : Int) ((markOf (endedOf s nums) : Nat) : Int)) = nv (markOf (endedOf s nums))) = decide ((leftOf nums pl).any (Ag13.must s) = false) := by
    rw [bit_and]
    refine Eq.trans (eq_nv _ _) ?_
    exact decide_eq_decide.mpr ended_all
  refine ite2 (fun c => ?_) (fun c => ?_)
  · have hdone : (leftOf nums pl).any (Ag13.must s) = false := of_decide_eq_true (z0.symm.trans c)
    have A2 := A1 H kvs (But.refl _ _) S.D S.V (by omega)
    rw [psr_done hdone] at A2
    exact ⟨_, rfl, A2 row (by rw [List.append_nil]; exact S.row)⟩
  have hmore : (leftOf nums pl).any (Ag13.must s) = true := by
    cases hz : (leftOf nums pl).any (Ag13.must s) with
    | true => rfl
    | false => exact absurd (z0.trans (decide_eq_true hz)) c
  -- (placed, held) in self.hopeless
  refine ⟨_, rfl, _, rfl, two_sz, fun t0 ht0 => ?_⟩
  have e1 := same_new ht0 (.tup [nv pl, .ref ht])
  have D1 := DictAt.same e1 S.D
  have S1 : Sit P w K d (upd H t0 (.tup [nv pl, .ref ht])) p row ht s nums R kt gl nd hd ad kvs r hs b := S.but (But.of e1) D1 S.V
  refine ⟨_, rfl, (S1.X.fHopeless C).to ⟨hd, _, rfl, ⟨kvs, keyOf pl hs, t0, D1, rfl, key_at upd_same S1.held, rfl⟩, _, rfl, ?_⟩⟩
  refine ite2 (fun c1 => ?_) (fun c1 => ?_)
  · obtain ⟨e, he, hek⟩ := look_mem c1
    obtain ⟨pl', hs', h1, h2⟩ := S.V e he
    obtain ⟨rfl, rfl⟩ := keyOf_inj (hek.symm.trans h1)
    have A2 := A1 _ kvs (But.of e1) D1 S.V (by omega)
    rw [h2] at A2
    exact A2
  -- the loop
  have hk1 : 0 < (leftOf nums pl).length := by
    obtain ⟨x, hx, _⟩ := List.any_eq_true.mp hmore
    exact List.length_pos_of_mem hx
  obtain ⟨k', rfl⟩ : ∃ k', k = k' + 1 := ⟨k - 1, by omega⟩
  have hnk : nodes (k' + 1) = 1 + (k' + 1) * nodes k' := rfl
  have nk' := nodes_pos k'
  obtain ⟨_, _, _, g1, g2, g3, g4⟩ := S1.X.fGiven C
  have lad : nums.length = ad.length := Paired.length S.X.ops
  have cnt : ∀ i, (leftOf (nums.take i) pl).length ≤ (leftOf nums pl).length := fun i => by
    unfold leftOf
    have := List.Sublist.length_le (List.Sublist.filter (fun i => !(pl.testBit i)) (List.take_sublist i nums))
    exact this
  generalize hH1 : upd H t0 (.tup [nv pl, .ref ht]) = H1 at e1 D1 S1 g1
  refine ⟨_, rfl, p, _, _, _, _, rfl, g1, g2, g3, g4, gl, rfl, ⟨_, SqL.of S1.X.gl⟩, for_list (K := K) (a := gl) (xs := ad.map V.ref)
    (fun i σ H' => ∃ (v1 v2 : Option V) (kv : List DEnt), σ = [some (.ref p), some (.ref row), some (nv pl), some (.ref ht), v1, v2] ∧ But hd H1 H' ∧ DictAt P w H' hd kv ∧ Valid s nums R kv ∧ kv.length ≤ kvs.length + (leftOf (nums.take i) pl).length * nodes k' ∧
      ∀ (j y : Nat), j < i → nums[j]? = some y → pl.testBit y = false → bodyR s nums R pl hs y = none)
    ⟨none, none, kvs, rfl, But.refl _ _, D1, S.V, by omega, fun j y hj => absurd hj (by omega)⟩ (fun i σ H' _ ⟨_, _, _, _, bt, _⟩ => SqL.of (bt _ _ S1.X.gl (dd_ne D1 S1.X.gl fun φ z => by cases z))) ?_ ?_⟩
  · rintro i y σ H' hi ⟨v1, v2, kv, rfl, bt, Dk, Vk, lk, hno⟩
    rw [List.getElem?_map] at hi
    obtain ⟨q, hq, rfl⟩ := Option.map_eq_some_iff.mp hi
    have S2 := S1.but bt Dk Vk
    obtain ⟨n, hn, O⟩ := Paired.getL S2.X.ops hq
    have hnn : n ∈ nums := List.mem_of_getElem? hn
    obtain ⟨ct, ⟨dx, hins⟩, _⟩ := id S2.X.ins
    refine ⟨_, rfl, p, dx, _, rfl, hins, look_no (by decide +kernel), _, rfl, _, rfl, p, q, pl, n, s, nums, R, kt, gl, nd, hd, ad, rfl, S2.X, O, hnn, S.good.small n hnn, _, rfl, ?_⟩
    have e3 : Same H' H' := Same.refl _
    have D3 := DictAt.same e3 Dk
    have bt3 := bt.trans (But.of (a := hd) e3)
    have tk : (nums.take (i + 1)) = nums.take i ++ [n] := take_one hn
    have lmono : (leftOf (nums.take i) pl).length ≤ (leftOf (nums.take (i + 1)) pl).length := by
      rw [tk]; unfold leftOf; rw [List.filter_append, List.length_append]; omega
    have next : ∀ {v2' : Option V} {H4 : Hp} {kv4 : List DEnt}, But hd H1 H4 → DictAt P w H4 hd kv4 → Valid s nums R kv4 → kv4.length ≤ kvs.length + (leftOf (nums.take (i + 1)) pl).length * nodes k' → (pl.testBit n = false → bodyR s nums R pl hs n = none) →
        ∃ (v1 v2 : Option V) (kv : List DEnt), [some (V.ref p), some (.ref row), some (nv pl), some (.ref ht), some (.ref q), v2'] = [some (V.ref p), some (.ref row), some (nv pl), some (.ref ht), v1, v2] ∧ But hd H1 H4 ∧ DictAt P w H4 hd kv ∧ Valid s nums R kv ∧ kv.length ≤ kvs.length + (leftOf (nums.take (i + 1)) pl).length * nodes k' ∧
          ∀ (j y : Nat), j < i + 1 → nums[j]? = some y → pl.testBit y = false → bodyR s nums R pl hs y = none := by
      intro v2' H4 kv4 b4 D4 V4 l4 hbn
      refine ⟨_, _, kv4, rfl, b4, D4, V4, l4, fun j y hj hy => ?_⟩
      rcases Nat.lt_or_eq_of_le (Nat.le_of_lt_succ hj) with hj | rfl
      · exact hno j y hj hy
      · rw [hn] at hy
        cases hy
        exact hbn
    have lk1 : kv.length ≤ kvs.length + (leftOf (nums.take (i + 1)) pl).length * nodes k' := Nat.le_trans lk (Nat.add_le_add_left (Nat.mul_le_mul_right _ lmono) _)
    cases hm : may s nums R pl n with
    | false =>
      refine iteF ?_
      exact next bt3 D3 Vk lk1 fun _ => by unfold bodyR; rw [hm]; rfl
    | true =>
      refine iteT ?_
      have htb := (may_iff.mp hm).1
      have hnl : n ∈ leftOf nums pl := mem_leftOf.mpr ⟨hnn, htb⟩
      have S3 := S2.but (But.of e3) D3 Vk
      have lmore : (leftOf (nums.take (i + 1)) pl).length = (leftOf (nums.take i) pl).length + 1 := by
        rw [tk]; unfold leftOf; rw [List.filter_append, List.length_append]
        simp [htb]
      have c1 := cnt (i + 1)
      have lk2 : kv.length + nodes k' ≤ kvs.length + (leftOf (nums.take (i + 1)) pl).length * nodes k' := by
        rw [lmore, Nat.add_mul, Nat.one_mul]; omega
      have c2 : (leftOf (nums.take (i + 1)) pl).length * nodes k' ≤ (k' + 1) * nodes k' := Nat.mul_le_mul_right _ (by omega)
      refine ⟨_, rfl, p, dx, _, rfl, e3 _ _ hins, look_no (by decide +kernel), _, rfl, _, rfl, _, rfl, _, rfl, p, q, row, ht, pl, n, s, nums, R, kt, gl, nd, hd, ad, kv, r, hs, b, rfl, S3, O.same e3, hnl, by omega, by omega, by omega, by omega, ?_⟩
      intro H4 kv4 b4 D4 V4 l4
      have bt4 := bt3.trans b4
      have l5 : kv4.length ≤ kvs.length + (leftOf (nums.take (i + 1)) pl).length * nodes k' := by omega
      cases hw : withR s nums R pl n hs with
      | none =>
        refine ⟨_, rfl, rfl, _, rfl, iteF ?_⟩
        exact next bt4 D4 V4 l5 fun _ => by unfold bodyR; rw [hm, if_pos rfl]; exact hw
      | some l =>
        intro r' hr'
        refine ⟨_, rfl, rfl, _, rfl, iteT ⟨_, rfl, ?_⟩⟩
        have hps : psr s nums R pl hs = some l := psr_some S.good.nd hmore hn htb (by unfold bodyR; rw [hm, if_pos rfl]; exact hw) hno
        have A2 := A1 H4 kv4 ((But.of e1).trans bt4) D4 V4 (by omega)
        rw [hps] at A2
        exact A2 r' hr'
  · rintro σ H' ⟨v1, v2, kv, rfl, bt, Dk, Vk, lk, hno⟩
    rw [List.length_map, ← lad, List.take_length] at lk
    rw [List.length_map, ← lad] at hno
    have S2 := S1.but bt Dk Vk
    have hps : psr s nums R pl hs = none := psr_none S.good.nd hmore fun n hn ht => by
      obtain ⟨j, hj⟩ := List.mem_iff_getElem?.mp hn
      exact hno j n (List.getElem?_eq_some_iff.mp hj).1 hj ht
    have c2 : (leftOf nums pl).length * nodes k' ≤ (k' + 1) * nodes k' := Nat.mul_le_mul_right _ hk
    refine ⟨_, rfl, (S2.X.fHopeless C).to ⟨_, rfl, _, rfl, two_sz, fun t1 ht1 => ?_⟩⟩
    have e4 := same_new ht1 (.tup [nv pl, .ref ht])
    have D4 := DictAt.same e4 Dk
    have K4 : KeyAt (upd H' t1 (.tup [nv pl, .ref ht])) (keyOf pl hs) t1 := key_at upd_same (S2.held.same e4)
    refine ⟨hd, t1, keyOf pl hs, kv, rfl, rfl, D4, K4, Nat.lt_of_le_of_lt (show kv.length ≤ 1000000 by omega) (by decide), ?_⟩
    have A2 := A1 _ (putD kv (keyOf pl hs) t1 (.bl true)) (((But.of e1).trans bt).trans ((But.of e4).trans But.upd)) (D4.put K4 _) (fun e he => ?_) (by have := length_putD kv (keyOf pl hs) t1 (.bl true); omega)
    · rw [hps] at A2
      exact A2
    · rcases mem_putD he with rfl | ⟨y, hy, h1, h2⟩
      · exact ⟨pl, hs, rfl, hps⟩
      · rw [← h1]; exact Vk y hy
end
end Sh

set_option Elab.async false
set_option linter.all false
set_option maxRecDepth 100000
set_option maxHeartbeats 4000000
namespace Sh
open PySem PySem.Spec PyProof.Rows L2
theorem filt_zip {α β : Type} (p : α → Bool) : ∀ {xs : List α} {ys : List β}, xs.length = ys.length → ((xs.zip ys).filter fun z => p z.1).map (·.1) = xs.filter p
  | [], [], _ => rfl
  | x :: xs, y :: ys, h => by
    rw [List.zip_cons_cons, List.filter_cons, List.filter_cons]
    have ih := filt_zip p (xs := xs) (ys := ys) (by simpa using h)
    cases hp : p x with
    | true => simp only [if_true, List.map_cons, ih]
    | false => simpa using ih
theorem paired_of_zip {α β γ δ : Type} {R : γ → δ → Prop} {f : α × β → γ} {g : α × β → δ} : ∀ {zs : List (α × β)}, (∀ z ∈ zs, R (f z) (g z)) → Paired R (zs.map f) (zs.map g)
  | [], _ => .nil
  | z :: zs, h => .cons (h z List.mem_cons_self) (paired_of_zip fun y hy => h y (List.mem_cons_of_mem _ hy))
section
variable {P : Program} {w : World} {K : PySem.W.Frag} {mg : Str → Option Value} {base : Heap} {d : Ad}
def spSInit (P : Program) (w : World) (K : PySem.W.Frag) (mg : Str → Option Value) (base : Heap) (d : Ad) : Sp := fun vs H Q _ => ∃ (p dx kt gl f ct : Addr) (G : Hp → Prop) (s : Ag13.State) (nums : List Nat) (R : Rl) (ad : List Addr), vs = [.ref p, .ref kt, .ref gl, .ref f, .ref ct] ∧ H p = some (.ins d.cS dx []) ∧
  RuleOk P w K mg base 3 f G (spRule nums d R.r) ∧ G H ∧ SqT K H ct (R.cs.map nv) ∧ H kt = some (.tup (s.kinds.map nv)) ∧ H gl = some (.lst (ad.map V.ref)) ∧ OpsIn d H s nums ad ∧ Good s nums ∧
  ∀ (H' : Hp) (nd hd : Addr), SrchX K d H' p s nums R kt gl nd hd ad → DictAt P w H' hd [] → (∀ b o, H b = some o → b ≠ p → H' b = some o) → H hd = none → Q .non H'
theorem go_call1 {sp : Sp} {te : TE} {σ : L2.St} {H : Hp} {Q : VK} (h : te σ H fun x H1 => sp [x] H1 Q E0) : tCall sp [] E0 (tCons te tNil) σ H Q := h
/-- mark of a part of the given ones, by a comprehension -/
theorem mark_part {i : Nat} {tt : TT} {tl : TE} {σ : L2.St} {H : Hp} {Q : VK} {s : Ag13.State} {nums : List Nat} {ad : List Addr} {gl : Addr} {t : Nat → Bool} (hgl : H gl = some (.lst (ad.map V.ref))) (hops : OpsIn d H s nums ad) (hg : Good s nums)
    (htl : tl σ H fun x H1 => x = .ref gl ∧ H1 = H) (mono : ∀ (k1 k2 : VK), (∀ v H', k1 v H' → k2 v H') → tl σ H k1 → tl σ H k2) (hi : i < σ.length)
    (ht : ∀ z ∈ nums.zip ad, ∀ H', Same H H' → ∀ k : Bool → Hp → Prop, (∀ H'', Same H' H'' → k (t z.1) H'') → tt ((wipe σ [i]).set i (some (.ref z.2))) H' k)
    (hq : ∀ H', Same H H' → Q (nv (markOf (nums.filter t))) H') :
    tCall (spMark d) [] E0 (tCons (tLc (iList K tl) (gName i) tt (tVar i) [i]) tNil) σ H Q := by
  have lad : nums.length = ad.length := Paired.length hops
  refine go_call1 ?_
  refine comp_list (K := K) (a := gl) (l := nums.zip ad) (g := fun z => V.ref z.2) (p := fun z => t z.1) (R := fun z y _ => y = V.ref z.2) (by rw [zip_refs lad]; exact SqL.of hgl) htl mono ⟨Firm.eq _, by rw [List.length_zip]; have := hg.len; omega, ht, ?_⟩ ?_
  · intro z hz hp H' e k q
    refine ⟨_, ?_, q _ _ (Same.refl _) rfl⟩
    rw [List.getElem?_set_self (by rw [wipe_length]; exact hi)]
  · intro D ys H' e hD hy pr
    have ey := paired_map pr
    subst ey
    refine ⟨D, ((nums.zip ad).filter fun z => t z.1).map (fun z => at_ s z.1), ((nums.zip ad).filter fun z => t z.1).map (·.2), rfl, ?_, ?_, ?_, ?_⟩
    · rw [hy, List.map_map]; rfl
    · refine paired_of_zip fun z hz => ?_
      have hz' := (List.mem_filter.mp hz).1
      exact (paired_zip hops z hz').same e
    · intro q hq
      obtain ⟨z, hz, rfl⟩ := List.mem_map.mp hq
      have := List.of_mem_zip (List.mem_filter.mp hz).1
      exact hg.small _ this.1
    · have e2 : (((nums.zip ad).filter fun z => t z.1).map (fun z => at_ s z.1)).map (·.1) = nums.filter t := by
        rw [List.map_map]
        exact filt_zip t lad
      rw [e2]
      exact hq H' e
theorem ok_sinit {f f1 : Addr} {fd d1 : FuncData} (F : Fun K "__init__" "Search.__init__" s_Search_init f fd) (C : Tc K d) (o_mark : OkD P w K mg base 1 "mark" ["operations"] (spMark d) f1 d1) :
    FnOk P w K mg base CX0 4 f fd ["self", "kinds", "given", "rule", "counted"] (spSInit P w K mg base d) := by
  refine F.ok sc_Search_init (fun vs H Q E h => ?_) (fun cdv A outer s H vs Q E hr h => ?_)
  · obtain ⟨p, dx, kt, gl, fr, ct, G, s, nums, R, ad, rfl, _⟩ := h; rfl
  obtain ⟨p, dx, kt, gl, fr, ct, G, s, nums, R, ad, rfl, hp, ok_rule, hG, hct, hkt, hgl, hops, hg, k⟩ := h
  refine ⟨_, (pss_cons (ps_fld (pv 0) (pv 1) rfl) (pss_cons (ps_fld (pv 0) (pv 2) rfl) (pss_cons (ps_fld (pv 0) (pv 4) rfl) (pss_cons (ps_fld (pv 0) (pe_cd o_mark (hr.mono (by omega)) (pa_cons (by exact (pe_lc (own := [("operation", 5)]) (g := gName 5) (tt := (tTest (tOp _ (tFld K (tVar 5) "ended") (tC .non)))) (by rfl) sc_Search_init.nd (pi_list (pv 2)) (blkOk_by (own := [("operation", 5)]) (N := ["self", "kinds", "given", "rule", "counted", "operation", "other"]) (sc := defScope s_Search_init) (by decide +kernel)) (fun _ _ _ _ _ => pg_name (i := 5) sc_Search_init.nd rfl (Or.inl rfl)) (fun _ _ _ _ _ => by exact (pts_one (pt_cmpR op_notN (pe_fld (pv 5) rfl) pe_non (nomark _)))) (fun _ _ _ _ _ => by exact (pv 5)))) pa_nil)) rfl) (pss_cons (ps_fld (pv 0) pe_dnewK rfl) (pss_cons (ps_for PassesOwn.never rfl (pi_list (pv 2)) (pg_name (i := 5) sc_Search_init.nd rfl (by first | exact Or.inl rfl | exact Or.inr rfl)) (pss_one (ps_dput (hu_of hr) (pe_fld (pv 0) rfl) (pe_fld (pv 5) rfl) (pe_cd o_mark (hr.mono (by omega)) (pa_cons (by exact (pe_lc (own := [("other", 6)]) (g := gName 6) (by rfl) sc_Search_init.nd (pi_list (pv 2)) (blkOk_by (own := [("other", 6)]) (N := ["self", "kinds", "given", "rule", "counted", "operation", "other"]) (sc := defScope s_Search_init) (by decide +kernel)) (fun _ _ _ _ _ => pg_name (i := 6) sc_Search_init.nd rfl (Or.inl rfl)) (fun _ _ _ _ _ => by exact (pts_one (pt_val (pe_callR (i := 3) ok_rule (hr.mono (by omega)) rfl (by first | exact Or.inl rfl | exact Or.inr (Or.inl rfl) | exact Or.inr (Or.inr rfl)) (pa_cons (pv 6) (pa_cons (pv 5) pa_nil)))))) (fun _ _ _ _ _ => by exact (pv 6)))) pa_nil)) rfl))) (pss_one (ps_fld (pv 0) pe_ddnew rfl)))))))), ?_⟩
  have sh : ∀ {fs : List (Str × V)} {n : Nat}, fs.length ≤ n → n < 900 → fs.length < 1000 := fun h1 h2 => by omega
  refine ⟨_, rfl, _, rfl, p, d.cS, dx, _, rfl, hp, C.cS, C.nS _ (by decide +kernel), sh (Nat.le_refl 0) (by decide), ?_⟩
  refine ⟨_, rfl, _, rfl, p, d.cS, dx, _, rfl, upd_same, C.cS, C.nS _ (by decide +kernel), sh (short_put (Nat.le_refl 0)) (by decide), ?_⟩
  rw [upd_upd]
  refine ⟨_, rfl, _, rfl, p, d.cS, dx, _, rfl, upd_same, C.cS, C.nS _ (by decide +kernel), sh (short_put (short_put (Nat.le_refl 0))) (by decide), ?_⟩
  rw [upd_upd]
  have far : ∀ (o : HO) b u, H b = some u → b ≠ p → upd H p o b = some u := fun o b u q h => by rw [upd_ne h]; exact q
  have ngl : gl ≠ p := ne_of hgl hp (by intro z; cases z)
  have nkt : kt ≠ p := ne_of hkt hp (by intro z; cases z)
  have nop : ∀ q n o, OpAt d H q n o → q ≠ p := fun q n o ⟨_, z⟩ => ne_of z hp (by intro y; injection y with _ _ y; have := congrArg List.length y; simp [opN, opV] at this)
  generalize hH1 : upd H p (.ins d.cS dx (putF "counted" (.ref ct) (putF "given" (.ref gl) (putF "kinds" (.ref kt) [])))) = H1
  have k1 : ∀ b u, H b = some u → b ≠ p → H1 b = some u := fun b u q h => by rw [← hH1]; exact far _ b u q h
  have hp1 : H1 p = some (.ins d.cS dx (putF "counted" (.ref ct) (putF "given" (.ref gl) (putF "kinds" (.ref kt) [])))) := by rw [← hH1]; exact upd_same
  have hops1 : OpsIn d H1 s nums ad := Paired.mapP hops fun n q ⟨dq, z⟩ => ⟨dq, k1 _ _ z (nop q n _ ⟨dq, z⟩)⟩
  -- self.ended = mark([..])
  dsimp only
  refine go_seq (go_fld ?_)
  refine mark_part (s := s) (nums := nums) (ad := ad) (gl := gl) (t := Ag13.must s) (k1 _ _ hgl ngl) hops1 hg ⟨_, rfl, rfl, rfl⟩ mono_var (by show 5 < 7; decide) (fun z hz H' e kk q => ?_) fun H2 e2 => ?_
  · have O : OpAt d H' z.2 z.1 (Ag13.op s z.1) := (paired_zip hops1 z hz).same e
    refine ⟨_, rfl, (O.ended C).to ⟨rfl, _, rfl, ?_⟩⟩
    have ed : (!decide (endV (Ag13.op s z.1) = V.non)) = Ag13.must s z.1 := by
      unfold endV Ag13.must
      cases (Ag13.op s z.1).ended with
      | none => rfl
      | some e => rfl
    rw [ed]
    exact q _ (Same.refl _)
  refine ⟨_, rfl, p, d.cS, dx, _, rfl, e2 _ _ hp1, C.cS, C.nS _ (by decide +kernel), sh (short_put (short_put (short_put (Nat.le_refl 0)))) (by decide), ?_⟩
  -- self.needed = {}
  intro nd hnd
  generalize hH3 : upd H2 p (.ins d.cS dx (putF "ended" (nv (markOf (nums.filter (Ag13.must s)))) (putF "counted" (.ref ct) (putF "given" (.ref gl) (putF "kinds" (.ref kt) []))))) = H3 at hnd ⊢
  have k3 : ∀ b u, H b = some u → b ≠ p → H3 b = some u := fun b u q h => by rw [← hH3, upd_ne h]; exact e2 _ _ (k1 _ _ q h)
  have hp3 : H3 p = some (.ins d.cS dx (putF "ended" (nv (markOf (nums.filter (Ag13.must s)))) (putF "counted" (.ref ct) (putF "given" (.ref gl) (putF "kinds" (.ref kt) []))))) := by rw [← hH3]; exact upd_same
  have npn : p ≠ nd := ne_of_none hp3 hnd
  refine ⟨_, rfl, p, d.cS, dx, _, rfl, (upd_ne npn).trans hp3, C.cS, C.nS _ (by decide +kernel), sh (short_put (short_put (short_put (short_put (Nat.le_refl 0))))) (by decide), ?_⟩
  have key : ∀ b u, H b = some u → b ≠ p → b ≠ nd := fun b u q h => ne_of_none (k3 b u q h) hnd
  -- the loop
  have st : ∀ {H4 : Hp}, (∀ b u, H b = some u → b ≠ p → H4 b = some u) → OpsIn d H4 s nums ad := fun h4 => Paired.mapP hops fun n q ⟨dq, z⟩ => ⟨dq, h4 _ _ z (nop q n _ ⟨dq, z⟩)⟩
  have lad : nums.length = ad.length := Paired.length hops
  have gl4 : ∀ {H4 : Hp}, (∀ b u, H b = some u → b ≠ p → H4 b = some u) → H4 gl = some (.lst (ad.map V.ref)) := fun h4 => h4 _ _ hgl ngl
  have k4 : ∀ b u, H b = some u → b ≠ p → upd (upd H3 nd (.dK [])) p (.ins d.cS dx (putF "needed" (.ref nd) (putF "ended" (nv (markOf (nums.filter (Ag13.must s)))) (putF "counted" (.ref ct) (putF "given" (.ref gl) (putF "kinds" (.ref kt) [])))))) b = some u := fun b u q h => by
    rw [upd_ne h, upd_ne (key b u q h)]; exact k3 b u q h
  have eF : putF "needed" (.ref nd) (putF "ended" (nv (markOf (nums.filter (Ag13.must s)))) (putF "counted" (.ref ct) (putF "given" (.ref gl) (putF "kinds" (.ref kt) [])))) = (searchN.take 5).zip [V.ref kt, .ref gl, .ref ct, nv (markOf (endedOf s nums)), .ref nd] :=
    put_all (names := searchN.take 5) (vals := [V.ref kt, .ref gl, .ref ct, nv (markOf (endedOf s nums)), .ref nd]) (by decide +kernel) rfl
  rw [eF] at k4 ⊢
  refine ⟨_, rfl, gl, rfl, ⟨_, SqL.of (gl4 k4)⟩, for_list (K := K) (a := gl) (xs := ad.map V.ref)
    (fun i σ H' => ∃ (v4 v5 : Option V) (kvs : List (Key × V)), σ = [some (.ref p), some (.ref kt), some (.ref gl), some (.ref fr), some (.ref ct), v4, v5] ∧ (∀ b u, H b = some u → b ≠ p → H' b = some u) ∧ H' p = some (.ins d.cS dx ((searchN.take 5).zip [V.ref kt, .ref gl, .ref ct, nv (markOf (endedOf s nums)), .ref nd])) ∧
      H' nd = some (.dK kvs) ∧ kvs.length ≤ i ∧ ∀ (j n : Nat), j < i → nums[j]? = some n → valV kvs (Sum.inl (n : Int)) = some (nv (markOf (nums.filter fun m => byR s R m n))))
    ⟨none, none, [], rfl, k4, upd_same, (upd_ne npn.symm).trans upd_same, Nat.zero_le _, fun j n hj => absurd hj (by omega)⟩ (fun i σ H' _ ⟨_, _, _, _, h4, _⟩ => SqL.of (gl4 h4)) ?_ ?_⟩
  · rintro i y σ H' hi ⟨v4, v5, kvs, rfl, h4, hp4, hn4, lk, hval⟩
    rw [List.getElem?_map] at hi
    obtain ⟨q, hq, rfl⟩ := Option.map_eq_some_iff.mp hi
    have ops4 := st h4
    obtain ⟨n, hn, O⟩ := Paired.getL ops4 hq
    have hil : i < nums.length := (List.getElem?_eq_some_iff.mp hn).1
    have lk9 := hg.len
    refine mark_part (s := s) (nums := nums) (ad := ad) (gl := gl) (t := fun m => byR s R m n) (gl4 h4) ops4 hg ⟨_, rfl, rfl, rfl⟩ mono_var (by show 6 < 7; decide) (fun z hz H5 e kk qq => ?_) fun H5 e5 => ?_
    · have O1 : OpAt d H5 z.2 z.1 (Ag13.op s z.1) := (paired_zip ops4 z hz).same e
      have g5 : G H5 := ok_rule.st (fun b u y hy => e _ _ (h4 b u y fun yp => by rw [yp, hp] at y; exact hy _ _ _ (Option.some.inj y).symm)) hG
      exact ⟨rfl, g5, _, rfl, _, rfl, g5, z.2, q, z.1, n, _, _, rfl, (List.of_mem_zip hz).1, List.mem_of_getElem? hn, O1, O.same e, fun H6 e6 => ⟨_, rfl, qq _ e6⟩⟩
    · have I5 : InsAt d.cS (searchN.take 5) H5 p [V.ref kt, .ref gl, .ref ct, nv (markOf (endedOf s nums)), .ref nd] := ⟨dx, e5 _ _ hp4⟩
      refine ⟨_, rfl, (I5.fld (i := 4) C.cS (C.nS _ (by decide +kernel)) (by decide +kernel) rfl).to ⟨_, rfl, ((O.same e5).number C).to ⟨nd, _, rfl, DPut.k (k := Sum.inl (n : Int)) (e5 _ _ hn4) (szl (by omega)), ?_⟩⟩⟩
      have nnd : ∀ b u, H b = some u → b ≠ p → b ≠ nd := key
      refine ⟨_, _, _, rfl, fun b u z h => ?_, (upd_ne npn).trans (e5 _ _ hp4), upd_same, by have := length_putK kvs (Sum.inl (n : Int)) (nv (markOf (nums.filter fun m => byR s R m n))); omega, fun j m hj hm => ?_⟩
      · rw [upd_ne (nnd b u z h)]; exact e5 _ _ (h4 b u z h)
      · rw [valV_put]
        by_cases em : m = n
        · subst em; rw [if_pos rfl]
        · have em' : ¬ (Sum.inl (m : Int) : Key) = Sum.inl (n : Int) := fun z => em (by injection z with z; omega)
          rw [if_neg em']
          rcases Nat.lt_or_eq_of_le (Nat.le_of_lt_succ hj) with hj | rfl
          · exact hval j m hj hm
          · rw [hn] at hm; cases hm; exact absurd rfl em
  · rintro σ H' ⟨v4, v5, kvs, rfl, h4, hp4, hn4, lk, hval⟩
    rw [List.length_map, ← lad] at hval
    intro hd hhd
    have nph : p ≠ hd := ne_of_none hp4 hhd
    have nnh : nd ≠ hd := ne_of_none hn4 hhd
    refine ⟨_, rfl, p, d.cS, dx, _, rfl, (upd_ne nph).trans hp4, C.cS, C.nS _ (by decide +kernel), (by rw [List.length_zip]; show min 5 5 < 1000; decide), ?_⟩
    have h5 : ∀ b u, H b = some u → b ≠ p → upd (upd H' hd (DdO P w hd [])) p (.ins d.cS dx (putF "hopeless" (.ref hd) ((searchN.take 5).zip [V.ref kt, .ref gl, .ref ct, nv (markOf (endedOf s nums)), .ref nd]))) b = some u := fun b u z h => by
      rw [upd_ne h, upd_ne (ne_of_none (h4 b u z h) hhd)]; exact h4 b u z h
    have hct5 : SqT K (upd (upd H' hd (DdO P w hd [])) p (.ins d.cS dx (putF "hopeless" (.ref hd) ((searchN.take 5).zip [V.ref kt, .ref gl, .ref ct, nv (markOf (endedOf s nums)), .ref nd])))) ct (R.cs.map nv) := by
      rcases hct with (z | ⟨o, z⟩) | z
      · exact .inl (.inl (h5 _ _ z (ne_of z hp (by intro y; cases y))))
      · exact .inl (.inr ⟨o, h5 _ _ z (ne_of z hp (by intro y; cases y))⟩)
      · exact .inr z
    refine k _ nd hd ⟨⟨ct, ⟨dx, upd_same.trans (congrArg (fun z => some (HO.ins d.cS dx z)) ?_)⟩, hct5⟩, h5 _ _ hkt nkt, gl4 h5, st h5, kvs, ?_, fun n hn => ?_⟩ ⟨?_, fun e he => by simp at he⟩ h5 (by
      cases hz : H hd with
      | none => rfl
      | some u => exact absurd (h4 hd u hz nph.symm) (by rw [hhd]; intro z; cases z))
    · rw [put_new (by decide +kernel) rfl]; rfl
    · rw [upd_ne npn.symm, upd_ne nnh]; exact hn4
    · obtain ⟨j, hj⟩ := List.mem_iff_getElem?.mp hn
      exact hval j n (List.getElem?_eq_some_iff.mp hj).1 hj
    · rw [upd_ne nph.symm, upd_same]
      rfl
/-! ### first_row -/
theorem wfH_new {s : Ag13.State} {nums : List Nat} (g : Good s nums) : WfH s 0 (hvNew s) := by
  refine ⟨by simp [hvNew], fun i hi => ?_⟩
  have e1 : (hvNew s).getD i (.num 0) = hvFirst (s.kinds.getD i 0) := by simp [hvNew, List.getD, hi]
  rw [e1]
  have hk := g.kinds _ (getD_mem hi)
  generalize s.kinds.getD i 0 = kind at hk
  match kind, hk with
  | 0, _ => exact ⟨0, rfl⟩
  | 1, _ => exact ⟨0, rfl⟩
  | 2, _ => exact ⟨[], rfl, Nat.le_refl _⟩
  | 3, _ => exact ⟨[], rfl, Nat.le_refl _⟩
  | 4, _ => exact ⟨[], rfl, Nat.le_refl _, .nil⟩
  | 5, _ => exact ⟨0, rfl⟩
def spRow (P : Program) (w : World) (K : PySem.W.Frag) (mg : Str → Option Value) (base : Heap) (d : Ad) : Sp := fun vs H Q _ => ∃ (kt gl f ct : Addr) (G : Hp → Prop) (s : Ag13.State) (nums : List Nat) (R : Rl) (ad : List Addr), vs = [.ref kt, .ref gl, .ref f, .ref ct] ∧
  RuleOk P w K mg base 3 f G (spRule nums d R.r) ∧ G H ∧ SqT K H ct (R.cs.map nv) ∧ H kt = some (.tup (s.kinds.map nv)) ∧ H gl = some (.lst (ad.map V.ref)) ∧ OpsIn d H s nums ad ∧ Good s nums ∧
  ∀ H' : Hp, Same H H' → Told Q H' [] (Ag13.explained s (byR s R) (cntR s R) nums)
theorem psr_start {s : Ag13.State} {nums : List Nat} {R : Rl} (g : Good s nums) : psr s nums R 0 (hvNew s) = Ag13.explained s (byR s R) (cntR s R) nums := by
  unfold psr
  rw [leftOf_zero]
  exact (explained_eq (fun k hk => by have := g.kinds k hk; omega) fun i hi => g.fine i hi).symm
theorem none_fw {f : Addr} {fd : FuncData} {ps : List Str} {k : Nat} : FnOk P w K mg base CX0 k f fd ps (spFW P w K d 0) := ⟨fun vs H Q E h => h.elim, fun A outer s H args us vs Q E _ _ _ _ h => h.elim⟩
/-- all depths at once -/
theorem ok_both {f f1 f2 f3 f5 : Addr} {fd d1 d2 d3 d5 : FuncData} (F : Fun K "first_from" "Search.first_from" s_Search_first_from f fd) (mF : Meth K d.cS "first_from" f) (bF : Binds K fd ["self", "row", "placed", "held"] [])
    (FW : Fun K "first_with" "Search.first_with" s_Search_first_with f5 d5) (mW : Meth K d.cS "first_with" f5) (bW : Binds K d5 ["self", "operation", "row", "placed", "held"] []) (C : Tc K d)
    (o_Search_may_follow : OkM P w K mg base 1 d.cS "may_follow" ["self", "operation", "placed"] (spMay K d) f1 d1)
    (o_do_operation : OkD P w K mg base 3 "do_operation" ["kinds", "held", "operation"] (spDoOp d) f2 d2) (o_Search_must_answer : OkM P w K mg base 1 d.cS "must_answer" ["self", "operation"] (spMust K d) f3 d3) :
    ∀ k : Nat, OkM P w K mg base (2 * k + 4) d.cS "first_from" ["self", "row", "placed", "held"] (spFrom P w K d k) f fd
  | 0 => ⟨ok_from F C o_Search_may_follow ⟨none_fw, mW, bW, C.cS⟩, mF, bF, C.cS⟩
  | k + 1 => by
    have ih := ok_both F mF bF FW mW bW C o_Search_may_follow o_do_operation o_Search_must_answer k
    exact ⟨ok_from F C o_Search_may_follow ⟨ok_fw FW C o_do_operation o_Search_must_answer ih, mW, bW, C.cS⟩, mF, bF, C.cS⟩
/-! ### all_held_at_first -/
def spAllHeld : Sp := fun vs H Q _ => ∃ (kt : Addr) (s : Ag13.State), vs = [.ref kt] ∧ H kt = some (.tup (s.kinds.map nv)) ∧ s.kinds.length ≤ 100 ∧ ∀ (H' : Hp) (ht : Addr), Same H H' → HeldAt H' ht (hvNew s) → Q (.ref ht) H'
theorem ok_all_held {f f3 : Addr} {fd d3 : FuncData} (F : Fun K "all_held_at_first" "all_held_at_first" s_all_held_at_first f fd) (T : Tx K mg d) (o_held_at_first : OkD P w K mg base 1 "held_at_first" ["kind"] spHeldFirst f3 d3) :
    FnOk P w K mg base CX0 2 f fd ["kinds"] spAllHeld := by
  refine F.ok sc_all_held_at_first (fun vs H Q E h => ?_) (fun cdv A outer s H vs Q E hr h => ?_)
  · obtain ⟨kt, s, rfl, _⟩ := h; rfl
  obtain ⟨kt, s, rfl, hkt, few, k⟩ := h
  refine ⟨_, (pss_one (ps_ret (pe_callTy call_tuple_of (by rfl) T.tuple (by decide +kernel) (pa_cons (by exact (pe_lc (own := [("kind", 1)]) (g := gName 1) (by rfl) sc_all_held_at_first.nd (pi_tup (pv 0)) (blkOk_by (own := [("kind", 1)]) (N := ["kinds", "kind"]) (sc := defScope s_all_held_at_first) (by decide +kernel)) (fun _ _ _ _ _ => pg_name (i := 1) sc_all_held_at_first.nd rfl (Or.inl rfl)) (fun _ _ _ _ _ => by exact pts_nil) (fun _ _ _ _ _ => by exact (pe_cd o_held_at_first (hr.mono (by omega)) (pa_cons (pv 1) pa_nil))))) pa_nil)))), ?_⟩
  refine go_cb ?_
  refine comp_tup (K := K) (a := kt) (l := s.kinds) (g := nv) (p := fun _ => true) (R := fun k v H' => HvAt H' v (hvFirst k)) (SqT.of hkt) ⟨_, rfl, rfl, rfl⟩ mono_var ⟨?_, by omega, fun x hx H' e kk q => q _ (Same.refl _), fun x hx _ H' e kk q => ?_⟩ ?_
  · intro x y D acc Ha Hb hD far h
    cases hh : hvFirst x with
    | num n => rw [hh] at h; exact h
    | seq l =>
      rw [hh] at h
      obtain ⟨a, rfl, z⟩ := h
      exact ⟨a, rfl, far _ _ (ne_of z hD (by intro y; cases y)) z⟩
  · exact ⟨_, rfl, x, rfl, fun H'' v e' hv => q _ _ e' hv⟩
  · intro D ys H4 e4 hD hy4 pr
    rw [List.filter_eq_self.mpr (fun _ _ => rfl)] at pr
    refine ⟨D, ys, rfl, .inl ⟨SqL.of hy4, fun ht hht => ?_⟩⟩
    refine k _ ht (e4.trans (same_new hht _)) ⟨ys, upd_same, ?_⟩
    exact paired_lmap (R := fun h v => HvAt (upd H4 ht (.tup ys)) v h) (f := hvFirst) (Paired.mapP pr fun _ _ z => z.same (same_new hht _))
theorem ok_row {f f1 f2 f3 : Addr} {fd d1 d2 d3 : FuncData} (F : Fun K "first_row" "first_row" s_first_row f fd) (C : Tc K d)
    (o_Search : OkC P w K mg base 4 d.cS "Search" ["self", "kinds", "given", "rule", "counted"] (spSInit P w K mg base d) f1 d1)
    (o_Search_first_from : OkM P w K mg base (2 * 9 + 4) d.cS "first_from" ["self", "row", "placed", "held"] (spFrom P w K d 9) f2 d2)
    (o_all_held_at_first : OkD P w K mg base 2 "all_held_at_first" ["kinds"] spAllHeld f3 d3) :
    FnOk P w K mg base CX0 23 f fd ["kinds", "given", "rule", "counted"] (spRow P w K mg base d) := by
  refine F.ok sc_first_row (fun vs H Q E h => ?_) (fun cdv A outer s H vs Q E hr h => ?_)
  · obtain ⟨kt, gl, fr, ct, G, s, nums, R, ad, rfl, _⟩ := h; rfl
  obtain ⟨kt, gl, fr, ct, G, s, nums, R, ad, rfl, ok_rule, hG, hct, hkt, hgl, hops, hg, k⟩ := h
  refine ⟨_, (pss_cons (ps_set (i := 4) sc_first_row.nd rfl (by first | exact Or.inl rfl | exact Or.inr rfl) (pe_mk o_Search (hr.mono (by omega)) (pa_cons (pv 0) (pa_cons (pv 1) (pa_cons (pv 2) (pa_cons (pv 3) pa_nil)))))) (pss_one (ps_ret (pe_md (pv 4) o_Search_first_from (hr.mono (by omega)) (pa_cons (pe_lst pa_nil) (pa_cons pe_int (pa_cons (pe_cd o_all_held_at_first (hr.mono (by omega)) (pa_cons (pv 0) pa_nil)) pa_nil))))))), ?_⟩
  refine ⟨_, rfl, _, rfl, _, rfl, _, rfl, fun p dx hp hdx ne => ?_⟩
  have e1 : Same H (upd (upd H dx (.own p)) p (.ins d.cS dx [])) := fun b u q => by
    rw [upd_ne (ne_of_none q hp), upd_ne (ne_of_none q hdx)]; exact q
  refine ⟨p, dx, kt, gl, fr, ct, G, s, nums, R, ad, rfl, upd_same, ok_rule, ok_rule.st (fun b u z _ => e1 b u z) hG, Same.tup e1 hct, e1 _ _ hkt, e1 _ _ hgl, Paired.mapP hops fun _ _ z => z.same e1, hg, fun H2 nd hd X2 D2 k2 hnew => ⟨rfl, ?_⟩⟩
  have e2 : Same H H2 := fun b u q => k2 b u (e1 b u q) (ne_of_none q hp)
  obtain ⟨ct2, ⟨dy, hy⟩, _⟩ := id X2.ins
  refine ⟨_, rfl, p, dy, _, rfl, hy, look_no (by decide +kernel), ?_⟩
  refine ⟨Nat.zero_le _, fun row hrow => ?_⟩
  have e3 := same_new hrow (.lst [])
  refine ⟨_, rfl, kt, s, rfl, e3 _ _ (e2 _ _ hkt), hg.few, fun H4 ht e4 held => ?_⟩
  have e5 := e3.trans e4
  refine ⟨p, row, ht, 0, s, nums, R, kt, gl, nd, hd, ad, [], [], hvNew s, 0, rfl, ⟨X2.but D2 (But.of e5), DictAt.same e5 D2, fun e he => by simp at he, e4 _ _ upd_same, held, hg, wfH_new hg⟩, by rw [leftOf_zero]; exact hg.len, by decide, by decide, by rw [nodes_9]; decide, ?_⟩
  intro H6 kv6 b6 D6 V6 l6
  rw [psr_start hg]
  refine k H6 fun b u q => ?_
  have q2 := e2 _ _ q
  refine b6 _ _ (e5 _ _ q2) fun z => ?_
  rw [z] at q
  rw [e1 _ _ q] at hnew
  cases hnew
end
end Sh

set_option Elab.async false
set_option linter.all false
set_option maxRecDepth 100000
set_option maxHeartbeats 4000000
namespace Sh
open PySem PySem.Spec PyProof.Rows L2 LamX NdefX
theorem Good.sub {s : Ag13.State} {nums nums' : List Nat} (g : Good s nums) (h : nums'.Sublist nums) : Good s nums' :=
  ⟨g.kinds, g.few, g.nd.sublist h, fun n hn => g.small n (h.subset hn), Nat.le_trans h.length_le g.len, fun n hn => g.fine n (h.subset hn), fun n hn => g.ops n (h.subset hn), fun n hn => g.cl n (h.subset hn)⟩
theorem byR_but (s : Ag13.State) (x : Nat) (cs : List Nat) : byR s ⟨butR x, cs⟩ = Ag13.byTime s x := by
  funext i j
  unfold byR butR clientR Ag13.byTime Ag13.byClient
  rfl
theorem byR_client (s : Ag13.State) (cs : List Nat) : byR s ⟨clientR, cs⟩ = Ag13.byClient s := by
  funext i j
  rfl
theorem cnt_all {s : Ag13.State} {nums : List Nat} {r : Nat × Ag13.Op → Nat × Ag13.Op → Bool} (g : Good s nums) : ∀ i ∈ nums, cntR s ⟨r, [0, 1, 2, 3]⟩ i = Ag13.every i := fun i hi => by
  have h := g.cl i hi
  show ([0, 1, 2, 3] : List Nat).contains (Ag13.op s i).client = true
  simp
  omega
theorem expl_all {s : Ag13.State} {nums : List Nat} {r : Nat × Ag13.Op → Nat × Ag13.Op → Bool} (g : Good s nums) : Ag13.explained s (byR s ⟨r, [0, 1, 2, 3]⟩) (cntR s ⟨r, [0, 1, 2, 3]⟩) nums = Ag13.explained s (byR s ⟨r, [0, 1, 2, 3]⟩) Ag13.every nums :=
  explained_congr (fun _ _ _ _ => rfl) (cnt_all g)
def bitV (b : Bool) : Int := if b = true then 1 else 0
/-- a new list of numbers -/
def NewL (Q : VK) (H : Hp) (ns : List Int) : Prop := ∀ (H' : Hp) (l : Addr), Same H H' → H l = none → H' l = some (.lst (ns.map V.int)) → Q (.ref l) H'
section
variable {P : Program} {w : World} {K : PySem.W.Frag} {mg : Str → Option Value} {base : Heap} {d : Ad}
abbrev HistN (d : Ad) (H : Hp) (a : Addr) (s : Ag13.State) (nums : List Nat) (tm : Nat) (kt ol : Addr) (ad : List Addr) : Prop := HistX d H a s.kinds (nums.map (at_ s)) tm kt ol ad
theorem paired_unmap {α β γ : Type} {R : γ → β → Prop} {f : α → γ} : ∀ {xs : List α} {ys : List β}, Paired R (xs.map f) ys → Paired (fun x y => R (f x) y) xs ys
  | [], _, .nil => .nil
  | _ :: _, _, .cons r t => .cons r (paired_unmap t)
theorem HistN.opsIn {H : Hp} {a : Addr} {s : Ag13.State} {nums : List Nat} {tm : Nat} {kt ol : Addr} {ad : List Addr} (h : HistN d H a s nums tm kt ol ad) : OpsIn d H s nums ad := paired_unmap h.ops
/-! ### where the tables of code objects may grow -/
theorem HistX.ext {H H' : Hp} {a : Addr} {ks : List Nat} {ops : List (Nat × Ag13.Op)} {tm : Nat} {kt ol : Addr} {ad : List Addr} (e : ExtN H H') (h : HistX d H a ks ops tm kt ol ad) : HistX d H' a ks ops tm kt ol ad := by
  obtain ⟨⟨dx, h1⟩, h2, h3, h4⟩ := h
  exact ⟨⟨dx, e _ _ h1 (fun _ z => nomatch z)⟩, e _ _ h2 (fun _ z => nomatch z), e _ _ h3 (fun _ z => nomatch z), Paired.mapP h4 fun q p ⟨dp, hp⟩ => ⟨dp, e _ _ hp (fun _ z => nomatch z)⟩⟩
theorem tabs_keep {T : List (Addr × Str)} {H H' : Hp} (t : Tabs T H) (e : ∀ b u, H b = some u → ((∃ ps, u = .tbl ps) ∨ ∃ φ, u = .ext φ) → H' b = some u) : Tabs T H' := fun p hp => by
  obtain ⟨ps, h1, h2, h3⟩ := t p hp
  refine ⟨ps, e _ _ h1 (.inl ⟨_, rfl⟩), h2, fun pos cv hc => ?_⟩
  obtain ⟨c, e1, e2⟩ := h3 pos cv hc
  exact ⟨c, e1, e _ _ e2 (.inr ⟨_, rfl⟩)⟩
theorem free_ext {H H' : Hp} (e : ExtN H H') {b : Addr} {ps : Array Value} (h : H' b = none) (n : H b ≠ some (.tbl ps)) (n2 : ∀ qs, H b ≠ some (.tbl qs)) : H b = none := by
  cases z : H b with
  | none => rfl
  | some u =>
    rw [e b u z (fun qs y => n2 qs (by rw [z, y]))] at h
    cases h
end
end Sh

set_option Elab.async false
set_option linter.all false
set_option maxRecDepth 100000
set_option maxHeartbeats 4000000
namespace Sh
open PySem PySem.Spec PyProof.Rows L2 LamX NdefX
def lamQ1 : Str := ("explains_thing" ++ ".<locals>." : Str) ++ "<lambda>"
def lamQ2 : Str := ("came_about_for" ++ ".<locals>." : Str) ++ "<lambda>"
/-- the tables of the two defs that make lambdas -/
structure TabsOk (base : Heap) (mg : Str → Option Value) (T : List (Addr × Str)) (c1 c2 : Addr) : Prop where
  ex1 : ∃ P1, TabB base mg c1 P1 ∧ (P1, lamQ1) ∈ T ∧ ∀ p ∈ T, p.1 = P1 → p.2 = lamQ1
  ex2 : ∃ P2, TabB base mg c2 P2 ∧ (P2, lamQ2) ∈ T ∧ ∀ p ∈ T, p.1 = P2 → p.2 = lamQ2
theorem clo_one {cells : List (Str × Addr)} {names : List (Str × NameKind)} {y : Str} {c : Addr} (hy : (y, NameKind.free) ∈ names) (only : ∀ z ∈ names, z.2 = .free → z.1 = y) (hc : cells.lookup y = some c) :
    (cloFrom cells names []).lookup y = some c ∧ ∀ x a, (cloFrom cells names []).lookup x = some a → x = y := by
  refine ⟨clo_has (fun z hz e => ⟨c, by rw [only z hz e]; exact hc⟩) hy hc, fun x a h => ?_⟩
  rcases cloFrom_mem (PySem.mem_of_lookup h) with z | ⟨z, _⟩
  · cases z
  · exact only _ z rfl
theorem opAt_drop {d : Ad} {H : Hp} {p c : Addr} {n : Nat} {o : Ag13.Op} {ob : Obj} (h : OpAt d H p n o) (hc : H c = some (cellO ob)) : OpAt d (drop c H) p n o := by
  obtain ⟨dx, z⟩ := h
  exact ⟨dx, (drop_ne (ne_of z hc (fun y => nomatch y))).trans z⟩
theorem scLam1 : NScope ["one", "other", "late_events"] ["one", "other"] ["late_events"] { kind := .function, names := [("one", .local), ("other", .local), ("late_events", .free), ("first_but_for", .globalImplicit)], isGenerator := false, isCoroutine := false } := nscope_by (by decide +kernel)
section
variable {P : Program} {w : World} {K : PySem.W.Frag} {mg : Str → Option Value} {base : Heap} {d : Ad} {T0 : List (Addr × Str)} {c1 c2 : Addr}
def thingD (s : Ag13.State) (nums : List Nat) (t x : Nat) : Bool := (Ag13.explained s (Ag13.byTime s x) Ag13.every (nums.filter fun i => (Ag13.op s i).thing == t)).isSome
def spExT (T0 : List (Addr × Str)) (d : Ad) : Sp := fun vs H Q _ => ∃ (a : Addr) (t x : Nat) (s : Ag13.State) (nums : List Nat) (tm : Nat) (kt ol : Addr) (ad : List Addr), vs = [.ref a, nv t, nv x] ∧ HistN d H a s nums tm kt ol ad ∧ Good s nums ∧ Tabs T0 H ∧ ∀ H', ExtN H H' → Tabs T0 H' → Q (.bl (thingD s nums t x)) H'
theorem ok_ext {f f1 f2 f3 : Addr} {fd d1 d2 d3 : FuncData} (F : FunC K "explains_thing" "explains_thing" s_explains_thing f fd c1) (T : Tx K mg d) (C : Tc K d) (TO : TabsOk base mg T0 c1 c2)
    (o_first_row : OkD P w K mg base 23 "first_row" ["kinds", "given", "rule", "counted"] (spRow P w K mg base d) f1 d1) (o_first_but_for : OkD P w K mg base 2 "first_but_for" ["one", "other", "events"] (spBut d) f2 d2)
    (o_History_on_thing : OkM P w K mg base 1 d.cH "on_thing" ["self", "thing"] (spOnThing d) f3 d3) :
    FnOk P w K mg base CX0 24 f fd ["history", "thing", "late_events"] (spExT T0 d) := by
  obtain ⟨P1, TB, hTm, hTu⟩ := TO.ex1
  refine F.ok sc_explains_thing (fun vs H Q E h => ?_) (fun A outer s H vs Q E hr h => ?_)
  · obtain ⟨a, t, x, s, nums, tm, kt, ol, ad, rfl, _⟩ := h; rfl
  obtain ⟨a, t, x, s, nums, tm, kt, ol, ad, rfl, X, g, hT, k⟩ := h
  refine ⟨_, (pss_cons (ps_set (i := 3) sc_explains_thing.nd rfl (by first | exact Or.inl rfl | exact Or.inr rfl) (pe_cdC (y := "late_events") (j := 2) o_first_row (hr.mono (by omega)) (pa_cons (pe_fld (pv 0) rfl) (pa_cons (pe_md (pv 0) o_History_on_thing (hr.mono (by omega)) (pa_cons (pv 1) pa_nil)) (pa_cons (pe_lam TB rfl hTm hTu (ndef_free (sc := defScope s_explains_thing) (fr := ["late_events"]) (by decide +kernel))) (pa_cons (pe_gt T.g_CLIENTS) pa_nil)))) rfl rfl rfl)) (pss_one (ps_ret (pe_cmpR op_notN (pv 3) pe_non (nomark _))))), ?_⟩
  obtain ⟨dx, hins⟩ := id X.ins
  refine ⟨_, rfl, (X.fKinds C).to ⟨_, rfl, a, dx, _, rfl, hins, look_no (by decide +kernel), _, rfl, a, t, s.kinds, _, tm, kt, ol, ad, rfl, X, by rw [List.length_map]; exact g.len, fun H1 l ad' e1 hl pr => ?_⟩⟩
  refine ⟨hT.ext e1, fun f c' H2 eN T2 f0 l1 cc1 => ?_⟩
  refine ⟨_, rfl, fun c o u hc hn ru hd => ?_⟩
  have up : Same H2 (upd H2 c (cellO o)) := same_new hn _
  have hops : OpsIn d (upd H2 c (cellO o)) s (nums.filter fun i => (Ag13.op s i).thing == t) ad' := by
    rw [List.filter_map] at pr
    exact Paired.mapP (paired_unmap pr) fun i p ⟨dp, hp⟩ => ⟨dp, up _ _ (eN _ _ hp (fun _ z => nomatch z))⟩
  have g2 := g.sub (List.filter_sublist (l := nums) (p := fun i => (Ag13.op s i).thing == t))
  refine ⟨kt, l, f, d.aC, lamG f c o _ (fun _ => True), s, _, ⟨butR x, [0, 1, 2, 3]⟩, ad', rfl, ?rule, ⟨up _ _ l1, up _ _ cc1, upd_same, trivial⟩, T.g_CLIENTS.sq _, up _ _ (eN _ _ (e1 _ _ X.kt) (fun _ z => nomatch z)), up _ _ (eN _ _ hl (fun _ z => nomatch z)), hops, g2, fun H3 e3 => ?_⟩
  case rule =>
    have cl := clo_one (names := [((("one" : Str), NameKind.local)), ("other", NameKind.local), ("late_events", NameKind.free), ("first_but_for", NameKind.globalImplicit)]) (by decide +kernel) (by decide +kernel) hc
    refine rule_lam (k := 2) (N := ["one", "other", "late_events"]) (ps := ["one", "other"]) (y := "late_events") (v := nv x) scLam1 (fun _ _ us hl => match us, hl with | [_, _], _ => rfl) (fun vs H Q h => ?_) cl.1 cl.2 ru hd (fun _ _ => trivial) fun A outer s H vs Q hr hcc _ h => ?_
    · obtain ⟨_, _, _, _, _, _, rfl, _⟩ := h; rfl
    · obtain ⟨p, p', n, n', o1, o2, rfl, _, _, O1, O2, kk⟩ := h
      refine ⟨_, (pe_cd o_first_but_for (hr.mono (by omega)) (pa_cons (pv 0) (pa_cons (pv 1) (pa_cons (pv 2) pa_nil)))), ?_⟩
      refine ⟨_, rfl, _, rfl, _, rfl, p, p', n, n', x, o1, o2, rfl, opAt_drop O1 hcc, opAt_drop O2 hcc, ?_⟩
      show Q _ (upd (drop c H) c (cellO o))
      rw [upd_drop hcc]
      exact kk H (Same.refl _)
  rw [expl_all g2, byR_but]
  have eF : ExtN H (drop c H3) := fun b u z n => by
    have z2 := eN _ _ (e1 _ _ z) n
    rw [drop_ne (ne_of_none z2 hn)]
    exact e3 _ _ (up _ _ z2)
  have TF : Tabs T0 (drop c H3) := T2.ext fun b u z => by
    rw [drop_ne (ne_of_none z hn)]
    exact e3 _ _ (up _ _ z)
  have kf := k _ eF TF
  unfold thingD at kf
  cases hx : Ag13.explained s (Ag13.byTime s x) Ag13.every (nums.filter fun i => (Ag13.op s i).thing == t) with
  | none => rw [hx] at kf; exact fun _ => ⟨_, rfl, rfl, kf⟩
  | some l => rw [hx] at kf; exact fun r' hr' _ => ⟨_, rfl, rfl, kf⟩
end
end Sh

set_option Elab.async false
set_option linter.all false
set_option maxRecDepth 100000
set_option maxHeartbeats 4000000
namespace Sh
open PySem PySem.Spec PyProof.Rows L2 LamX NdefX
theorem tabs_upd {T : List (Addr × Str)} {H : Hp} {D : Addr} {xs ys : List V} (t : Tabs T H) (h : H D = some (.lst xs)) : Tabs T (upd H D (.lst ys)) :=
  tabs_keep t fun b u e hu => by
    rw [upd_ne (ne_of e h (by rintro z; rcases hu with ⟨ps, rfl⟩ | ⟨φ, rfl⟩ <;> cases z))]
    exact e
/-- not one of those that stood before -/
def NewA (H : Hp) (l : Addr) : Prop := ∀ b o, H b = some o → (∀ ps, o ≠ .tbl ps) → b ≠ l
theorem NewA.of {H H1 : Hp} {l : Addr} (e : ExtN H H1) (h : H1 l = none) : NewA H l := fun b o q n => ne_of_none (e b o q n) h
theorem NewA.free {H : Hp} {l : Addr} (h : H l = none) : NewA H l := fun b o q n => ne_of_none q h
theorem NewA.back {H H1 : Hp} {l : Addr} (e : ExtN H H1) (h : NewA H1 l) : NewA H l := fun b o q n => h b o (e b o q n) n
/-- a new list of numbers, the tables grown -/
def NewT (T0 : List (Addr × Str)) (Q : VK) (H : Hp) (ns : List Int) : Prop := ∀ (H' : Hp) (l : Addr), ExtN H H' → Tabs T0 H' → NewA H l → H' l = some (.lst (ns.map V.int)) → Q (.ref l) H'
theorem NewT.l {T0 : List (Addr × Str)} {Q : VK} {H : Hp} {ns : List Int} (h : NewT T0 Q H ns) (t : Tabs T0 H) : NewL Q H ns := fun H' l e n q => h H' l (ExtN.of e) (t.ext e) (.free n) q
section
variable {α : Type} {K : PySem.W.Frag} {a : Addr} {i : Nat} {tt : TT} {te : TE} {σ : L2.St} {H : Hp} {Q : VK} {l : List α} {g : α → V} {p : α → Bool} {f : α → V} {T0 : List (Addr × Str)}
/-- a comprehension whose test lets the tables grow -/
structure CompOkN (T0 : List (Addr × Str)) (i : Nat) (tt : TT) (te : TE) (σ : L2.St) (H : Hp) (l : List α) (g : α → V) (p : α → Bool) (f : α → V) : Prop where
  few : l.length < 100000
  test : ∀ x ∈ l, ∀ H', ExtN H H' → Tabs T0 H' → ∀ k : Bool → Hp → Prop, (∀ H'', ExtN H' H'' → Tabs T0 H'' → k (p x) H'') → tt ((wipe σ [i]).set i (some (g x))) H' k
  elt : ∀ x ∈ l, ∀ H', ExtN H H' → ∀ k : VK, k (f x) H' → te ((wipe σ [i]).set i (some (g x))) H' k
def CompInvN (T0 : List (Addr × Str)) (H : Hp) (D : Addr) (l : List α) (p : α → Bool) (f : α → V) (j : Nat) (H' : Hp) : Prop :=
  ExtN H H' ∧ Tabs T0 H' ∧ H' D = some (.lst (((l.take j).filter p).map f))
theorem comp_turnN (ok : CompOkN T0 i tt te σ H l g p f) {D : Addr} (hD : H D = none) (j : Nat) (v : V) (H' : Hp) (hv : (l.map g)[j]? = some v) (inv : CompInvN T0 H D l p f j H') :
    gName i v (wipe σ [i]) H' fun σ2 H2 => wipe σ2 [i] = wipe σ [i] ∧ tt σ2 H2 fun b H3 =>
      if b = true then te σ2 H3 fun y H4 => ∃ acc, H4 D = some (.lst acc) ∧ acc.length < sizeLine ∧ CompInvN T0 H D l p f (j + 1) (upd H4 D (.lst (acc ++ [y]))) else CompInvN T0 H D l p f (j + 1) H3 := by
  obtain ⟨e, t, hy⟩ := inv
  rw [List.getElem?_map] at hv
  obtain ⟨x, hj, rfl⟩ := Option.map_eq_some_iff.mp hv
  have hjl : j < l.length := (List.getElem?_eq_some_iff.mp hj).1
  have hm : x ∈ l := List.mem_of_getElem? hj
  refine ⟨wipe_one σ i _, ok.test x hm H' e t _ fun H3 e3 t3 => ?_⟩
  have hy3 := e3 _ _ hy (fun _ z => nomatch z)
  have hlen : (((l.take j).filter p).map f).length < 100000 := by
    have h1 : ((l.take j).filter p).length ≤ (l.take j).length := List.length_filter_le ..
    rw [List.length_take] at h1
    have := ok.few
    rw [List.length_map]
    omega
  cases hp : p x with
  | true =>
    refine ok.elt x hm H3 (e.trans e3) _ ⟨_, hy3, Nat.lt_of_lt_of_le hlen (by decide), fun b o q n => ?_, tabs_upd t3 hy3, ?_⟩
    · rw [upd_ne (ne_of_none q hD)]
      exact e3 _ _ (e _ _ q n) n
    · rw [upd_same, take_one hj, List.filter_append, List.map_append]
      have e1 : [x].filter p = [x] := by simp [hp]
      rw [e1]
      rfl
  | false =>
    refine ⟨e.trans e3, t3, ?_⟩
    rw [take_one hj, List.filter_append]
    have e1 : [x].filter p = [] := by simp [hp]
    rw [e1, List.append_nil]
    exact hy3
theorem comp_listN {tl : TE} (hS : H a = some (.lst (l.map g))) (hT : Tabs T0 H) (htl : tl σ H fun x H1 => x = .ref a ∧ H1 = H) (mono : ∀ (k1 k2 : VK), (∀ v H', k1 v H' → k2 v H') → tl σ H k1 → tl σ H k2) (ok : CompOkN T0 i tt te σ H l g p f)
    (hq : ∀ D H', ExtN H H' → Tabs T0 H' → H D = none → H' D = some (.lst ((l.filter p).map f)) → Q (.ref D) H') :
    tLc (iList K tl) (gName i) tt te [i] σ H Q := by
  refine mono _ _ ?_ htl
  rintro v H' ⟨rfl, rfl⟩
  refine ⟨a, rfl, ⟨_, SqL.of hS⟩, fun D hD => lc_list (K := K) (a := a) (xs := l.map g) (CompInvN T0 H' D l p f) ⟨ExtN.of (same_new hD _), hT.ext (same_new hD _), upd_same⟩ (fun j H1 _ z => SqL.of (z.1 _ _ hS (fun _ y => nomatch y))) (fun j x H1 hj z => comp_turnN ok hD j x H1 hj z) fun H1 z => ?_⟩
  obtain ⟨e, t, hy⟩ := z
  rw [List.length_map, List.take_length] at hy
  exact hq D H1 e t hD hy
end
theorem thingD_zero (s : Ag13.State) (nums : List Nat) (t : Nat) : thingD s nums t 0 = thingN s nums t := rfl
section
variable {P : Program} {w : World} {K : PySem.W.Frag} {mg : Str → Option Value} {base : Heap} {d : Ad} {T0 : List (Addr × Str)}
/-! ### linear, linear_for_thing -/
def spLin (T0 : List (Addr × Str)) (d : Ad) : Sp := fun vs H Q _ => ∃ (a : Addr) (s : Ag13.State) (nums : List Nat) (tm : Nat) (kt ol : Addr) (ad : List Addr), vs = [.ref a] ∧ HistN d H a s nums tm kt ol ad ∧ Good s nums ∧ Tabs T0 H ∧ ∀ H', ExtN H H' → Tabs T0 H' → Q (.int (bitV (linearN s nums))) H'
theorem ok_lin {f f1 : Addr} {fd d1 : FuncData} (F : Fun K "linear" "linear" s_linear f fd) (T : Tx K mg d) (C : Tc K d) (o_explains_thing : OkD P w K mg base 24 "explains_thing" ["history", "thing", "late_events"] (spExT T0 d) f1 d1) :
    FnOk P w K mg base CX0 25 f fd ["history"] (spLin T0 d) := by
  refine F.ok sc_linear (fun vs H Q E h => ?_) (fun cdv A outer s H vs Q E hr h => ?_)
  · obtain ⟨a, s, nums, tm, kt, ol, ad, rfl, _⟩ := h; rfl
  obtain ⟨a, s, nums, tm, kt, ol, ad, rfl, X, g, hT, k⟩ := h
  refine ⟨_, (pss_cons (ps_for PassesOwn.never rfl (pi_range1 rfl T.range (pa_cons (pe_callB call_len_seq (by rfl) T.len PySem.boot_len (pa_cons (pe_fld (pv 0) rfl) pa_nil)) pa_nil)) (pg_name (i := 1) sc_linear.nd rfl (by first | exact Or.inl rfl | exact Or.inr rfl)) (pss_one (ps_if (pt_not (pt_val (pe_cd o_explains_thing (hr.mono (by omega)) (pa_cons (pv 0) (pa_cons (pv 1) (pa_cons pe_int pa_nil)))))) (pss_one (ps_ret pe_int)) pss_nil))) (pss_one (ps_ret pe_int))), ?_⟩
  obtain ⟨_, _, _, g1, g2, g3, g4⟩ := X.fKinds C
  have hf := g.few
  refine ⟨_, rfl, a, _, _, _, _, rfl, g1, g2, g3, g4, kt, _, rfl, .inr (SqT.of X.kt), ((s.kinds.map nv).length : Int), rfl, by omega, by rw [List.length_map]; omega, ?_⟩
  refine for_range (n := (s.kinds.map nv).length) (fun i σ H' => ∃ v : Option V, σ = [some (.ref a), v] ∧ ExtN H H' ∧ Tabs T0 H' ∧ ∀ j, j < i → thingN s nums j = true) ⟨none, rfl, ExtN.refl _, hT, fun j hj => absurd hj (by omega)⟩ ?_ ?_
  · rintro i σ H' hi ⟨v, rfl, e, t, hall⟩
    rw [List.length_map] at hi
    have ei : (0 : Int) + (i : Int) = (i : Int) := by omega
    rw [ei]
    refine ⟨_, rfl, _, rfl, a, i, 0, s, nums, tm, kt, ol, ad, rfl, X.ext e, g, t, fun H2 e2 t2 => ⟨_, rfl, ?_⟩⟩
    rw [thingD_zero]
    cases ht : thingN s nums i with
    | true =>
      refine iteF ⟨some (nv i), rfl, e.trans e2, t2, fun j hj => ?_⟩
      rcases Nat.lt_or_eq_of_le (Nat.le_of_lt_succ hj) with hj | rfl
      · exact hall j hj
      · exact ht
    | false =>
      refine iteT ?_
      have z : linearN s nums = false := by
        unfold linearN
        rw [Bool.eq_false_iff]
        intro z
        have := List.all_eq_true.mp z i (List.mem_range.mpr hi)
        rw [ht] at this; cases this
      have k2 := k H2 (e.trans e2) t2
      rw [z] at k2
      exact k2
  · rintro σ H' ⟨v, rfl, e, t, hall⟩
    rw [List.length_map] at hall
    have z : linearN s nums = true := by
      unfold linearN
      rw [List.all_eq_true]
      intro x hx
      exact hall x (List.mem_range.mp hx)
    have k2 := k H' e t
    rw [z] at k2
    exact k2
def spThing (T0 : List (Addr × Str)) (d : Ad) : Sp := fun vs H Q _ => ∃ (a : Addr) (t : Nat) (s : Ag13.State) (nums : List Nat) (tm : Nat) (kt ol : Addr) (ad : List Addr), vs = [.ref a, nv t] ∧ HistN d H a s nums tm kt ol ad ∧ Good s nums ∧ Tabs T0 H ∧ ∀ H', ExtN H H' → Tabs T0 H' → Q (.int (if t < s.kinds.length then bitV (thingN s nums t) else -1)) H'
theorem ok_thing {f f1 f2 : Addr} {fd d1 d2 : FuncData} (F : Fun K "linear_for_thing" "linear_for_thing" s_linear_for_thing f fd) (T : Tx K mg d) (C : Tc K d) (o_explains_thing : OkD P w K mg base 24 "explains_thing" ["history", "thing", "late_events"] (spExT T0 d) f1 d1)
    (o_History_has_thing : OkM P w K mg base 1 d.cH "has_thing" ["self", "thing"] (spHasThing d) f2 d2) : FnOk P w K mg base CX0 25 f fd ["history", "thing"] (spThing T0 d) := by
  refine F.ok sc_linear_for_thing (fun vs H Q E h => ?_) (fun cdv A outer s H vs Q E hr h => ?_)
  · obtain ⟨a, t, s, nums, tm, kt, ol, ad, rfl, _⟩ := h; rfl
  obtain ⟨a, t, s, nums, tm, kt, ol, ad, rfl, X, g, hT, k⟩ := h
  refine ⟨_, (pss_cons (ps_if (pt_not (pt_val (pe_md (pv 0) o_History_has_thing (hr.mono (by omega)) (pa_cons (pv 1) pa_nil)))) (pss_one (ps_ret (pe_gi T.g_NO_SUCH))) pss_nil) (pss_one (ps_ret (pe_ifExp (pt_val (pe_cd o_explains_thing (hr.mono (by omega)) (pa_cons (pv 0) (pa_cons (pv 1) (pa_cons pe_int pa_nil))))) pe_int pe_int)))), ?_⟩
  obtain ⟨dx, hins⟩ := id X.ins
  refine ⟨_, rfl, a, dx, _, rfl, hins, look_no (by decide +kernel), _, rfl, a, t, s.kinds, _, tm, kt, ol, ad, rfl, X, _, rfl, ?_⟩
  by_cases ht : t < s.kinds.length
  · rw [decide_eq_true ht]
    refine iteF ⟨_, rfl, _, rfl, a, t, 0, s, nums, tm, kt, ol, ad, rfl, X, g, hT, fun H2 e2 t2 => ⟨_, rfl, ?_⟩⟩
    have k2 := k H2 e2 t2
    rw [if_pos ht] at k2
    unfold bitV at k2
    rw [thingD_zero]
    cases hx : thingN s nums t with
    | true => rw [hx] at k2; exact iteT k2
    | false => rw [hx] at k2; exact iteF k2
  · rw [decide_eq_false ht]
    have k2 := k H (ExtN.refl _) hT
    rw [if_neg ht] at k2
    exact iteT k2
/-! ### order, serial, own -/
def spOrder (d : Ad) : Sp := fun vs H Q _ => ∃ (a : Addr) (s : Ag13.State) (nums : List Nat) (tm : Nat) (kt ol : Addr) (ad : List Addr), vs = [.ref a] ∧ HistN d H a s nums tm kt ol ad ∧ Good s nums ∧
  NewL Q H (match Ag13.explained s (Ag13.byTime s 0) Ag13.every nums with
    | none => [-3]
    | some l => Ag13.nums (l.length :: l))
theorem ok_order {f f1 f2 : Addr} {fd d1 d2 : FuncData} (F : Fun K "order" "order" s_order f fd) (T : Tx K mg d) (C : Tc K d)
    (o_first_row : OkD P w K mg base 23 "first_row" ["kinds", "given", "rule", "counted"] (spRow P w K mg base d) f1 d1) (F2 : Fun K "first_in_times_order" "first_in_times_order" s_first_in_times_order f2 d2) (o_first_in_times_order : OkD P w K mg base 3 "first_in_times_order" ["one", "other"] (spRule0 d (butR 0)) f2 d2) :
    FnOk P w K mg base CX0 24 f fd ["history"] (spOrder d) := by
  refine F.ok sc_order (fun vs H Q E h => ?_) (fun cdv A outer s H vs Q E hr h => ?_)
  · obtain ⟨a, s, nums, tm, kt, ol, ad, rfl, _⟩ := h; rfl
  obtain ⟨a, s, nums, tm, kt, ol, ad, rfl, X, g, k⟩ := h
  refine ⟨_, (pss_cons (ps_set (i := 1) sc_order.nd rfl (by first | exact Or.inl rfl | exact Or.inr rfl) (pe_cd o_first_row (hr.mono (by omega)) (pa_cons (pe_fld (pv 0) rfl) (pa_cons (pe_fld (pv 0) rfl) (pa_cons (pe_gd o_first_in_times_order) (pa_cons (pe_gt T.g_CLIENTS) pa_nil)))))) (pss_cons (ps_if (pt_cmpR op_isN (pv 1) pe_non (nomark _)) (pss_one (ps_ret (pe_lst (pa_cons (pe_gi T.g_NONE_FOUND) pa_nil)))) pss_nil) (pss_one (ps_ret (pe_op op_cat (pe_lst (pa_cons (pe_callB call_len_seq (by rfl) T.len PySem.boot_len (pa_cons (pv 1) pa_nil)) pa_nil)) (pv 1)))))), ?_⟩
  refine ⟨_, rfl, (X.fKinds C).to ⟨_, rfl, (X.fOps C).to ⟨kt, ol, f2, d.aC, fun _ => True, s, nums, ⟨butR 0, [0, 1, 2, 3]⟩, ad, rfl, rule_def F2 o_first_in_times_order.rule (Nat.le_refl 3), trivial, T.g_CLIENTS.sq _, X.kt, X.ol, X.opsIn, g, fun H2 e2 => ?_⟩⟩⟩
  rw [expl_all g, byR_but]
  cases hx : Ag13.explained s (Ag13.byTime s 0) Ag13.every nums with
  | none =>
    rw [hx] at k
    refine ⟨_, rfl, rfl, _, rfl, iteT ⟨one_sz, fun p hp => ?_⟩⟩
    exact k _ p (e2.trans (same_new hp _)) (e2.free hp) upd_same
  | some l =>
    rw [hx] at k
    intro r' hr'
    rw [List.nil_append] at hr'
    have ll : l.length ≤ 9 := Nat.le_trans (explained_len hx) g.len
    refine ⟨_, rfl, rfl, _, rfl, iteF ⟨_, rfl, r', _, rfl, .inl (SqL.of hr'), one_sz, fun p hp => ?_⟩⟩
    have e3 := same_new hp (.lst [V.int ((l.map nv).length : Int)])
    refine ⟨_, rfl, p, r', _, _, rfl, rfl, upd_same, e3 _ _ hr', ?_, fun q hq => ?_⟩
    · exact sz (by rw [List.length_map]; simp; omega)
    · refine k _ q ((e2.trans e3).trans (same_new hq _)) ((e2.trans e3).free hq) ?_
      rw [upd_same, List.length_map]
      unfold Ag13.nums
      dsimp only
      rw [List.map_cons, List.map_cons, ← map_nv]
      rfl
def spSerial (d : Ad) : Sp := fun vs H Q _ => ∃ (a : Addr) (s : Ag13.State) (nums : List Nat) (tm : Nat) (kt ol : Addr) (ad : List Addr), vs = [.ref a] ∧ HistN d H a s nums tm kt ol ad ∧ Good s nums ∧ ∀ H', Same H H' → Q (.int (bitV (Ag13.explained s (Ag13.byClient s) Ag13.every nums).isSome)) H'
theorem ok_serial {f f1 f2 : Addr} {fd d1 d2 : FuncData} (F : Fun K "serial" "serial" s_serial f fd) (T : Tx K mg d) (C : Tc K d)
    (o_first_row : OkD P w K mg base 23 "first_row" ["kinds", "given", "rule", "counted"] (spRow P w K mg base d) f1 d1) (F2 : Fun K "first_in_clients_order" "first_in_clients_order" s_first_in_clients_order f2 d2) (o_first_in_clients_order : OkD P w K mg base 1 "first_in_clients_order" ["one", "other"] (spRule0 d clientR) f2 d2) :
    FnOk P w K mg base CX0 24 f fd ["history"] (spSerial d) := by
  refine F.ok sc_serial (fun vs H Q E h => ?_) (fun cdv A outer s H vs Q E hr h => ?_)
  · obtain ⟨a, s, nums, tm, kt, ol, ad, rfl, _⟩ := h; rfl
  obtain ⟨a, s, nums, tm, kt, ol, ad, rfl, X, g, k⟩ := h
  refine ⟨_, (pss_cons (ps_set (i := 1) sc_serial.nd rfl (by first | exact Or.inl rfl | exact Or.inr rfl) (pe_cd o_first_row (hr.mono (by omega)) (pa_cons (pe_fld (pv 0) rfl) (pa_cons (pe_fld (pv 0) rfl) (pa_cons (pe_gd o_first_in_clients_order) (pa_cons (pe_gt T.g_CLIENTS) pa_nil)))))) (pss_one (ps_ret (pe_ifExp (pt_cmpR op_isN (pv 1) pe_non (nomark _)) pe_int pe_int)))), ?_⟩
  refine ⟨_, rfl, (X.fKinds C).to ⟨_, rfl, (X.fOps C).to ⟨kt, ol, f2, d.aC, fun _ => True, s, nums, ⟨clientR, [0, 1, 2, 3]⟩, ad, rfl, rule_def F2 o_first_in_clients_order.rule (by decide), trivial, T.g_CLIENTS.sq _, X.kt, X.ol, X.opsIn, g, fun H2 e2 => ?_⟩⟩⟩
  rw [expl_all g, byR_client]
  have k2 := k H2 e2
  unfold bitV at k2
  cases hx : Ag13.explained s (Ag13.byClient s) Ag13.every nums with
  | none => rw [hx] at k2; exact ⟨_, rfl, rfl, _, rfl, iteT k2⟩
  | some l => rw [hx] at k2; exact fun r' hr' => ⟨_, rfl, rfl, _, rfl, iteF k2⟩
theorem cnt_one (s : Ag13.State) (r : Nat × Ag13.Op → Nat × Ag13.Op → Bool) (c : Nat) : cntR s ⟨r, [c]⟩ = fun i => (Ag13.op s i).client == c := by
  funext i
  unfold cntR
  rw [Bool.eq_iff_iff]
  simp [List.contains_cons]
def spOwn (d : Ad) : Sp := fun vs H Q _ => ∃ (a : Addr) (c : Nat) (s : Ag13.State) (nums : List Nat) (tm : Nat) (kt ol : Addr) (ad : List Addr), vs = [.ref a, nv c] ∧ HistN d H a s nums tm kt ol ad ∧ Good s nums ∧ ∀ H', Same H H' → Q (.int (if c < 4 then bitV (Ag13.explained s (Ag13.byClient s) (fun i => (Ag13.op s i).client == c) nums).isSome else -1)) H'
theorem ok_own {f f1 f2 f3 : Addr} {fd d1 d2 d3 : FuncData} (F : Fun K "own" "own" s_own f fd) (T : Tx K mg d) (C : Tc K d) (o_is_client : OkD P w K mg base 1 "is_client" ["client"] spIsClient f3 d3)
    (o_first_row : OkD P w K mg base 23 "first_row" ["kinds", "given", "rule", "counted"] (spRow P w K mg base d) f1 d1) (F2 : Fun K "first_in_clients_order" "first_in_clients_order" s_first_in_clients_order f2 d2) (o_first_in_clients_order : OkD P w K mg base 1 "first_in_clients_order" ["one", "other"] (spRule0 d clientR) f2 d2) :
    FnOk P w K mg base CX0 24 f fd ["history", "client"] (spOwn d) := by
  refine F.ok sc_own (fun vs H Q E h => ?_) (fun cdv A outer s H vs Q E hr h => ?_)
  · obtain ⟨a, c, s, nums, tm, kt, ol, ad, rfl, _⟩ := h; rfl
  obtain ⟨a, c, s, nums, tm, kt, ol, ad, rfl, X, g, k⟩ := h
  refine ⟨_, (pss_cons (ps_if (pt_not (pt_val (pe_cd o_is_client (hr.mono (by omega)) (pa_cons (pv 1) pa_nil)))) (pss_one (ps_ret (pe_gi T.g_NO_SUCH))) pss_nil) (pss_cons (ps_set (i := 2) sc_own.nd rfl (by first | exact Or.inl rfl | exact Or.inr rfl) (pe_cd o_first_row (hr.mono (by omega)) (pa_cons (pe_fld (pv 0) rfl) (pa_cons (pe_fld (pv 0) rfl) (pa_cons (pe_gd o_first_in_clients_order) (pa_cons (pe_tup (pa_cons (pv 1) pa_nil)) pa_nil)))))) (pss_one (ps_ret (pe_ifExp (pt_cmpR op_isN (pv 2) pe_non (nomark _)) pe_int pe_int))))), ?_⟩
  refine ⟨_, rfl, c, rfl, _, rfl, ?_⟩
  by_cases hc : c < 4
  · rw [decide_eq_true hc]
    refine iteF ⟨_, rfl, (X.fKinds C).to ⟨_, rfl, (X.fOps C).to ⟨_, rfl, one_sz, fun p hp => ?_⟩⟩⟩
    have e1 := same_new hp (.tup [nv c])
    have X1 : HistN d _ a s nums tm kt ol ad := X.same e1
    refine ⟨kt, ol, f2, p, fun _ => True, s, nums, ⟨clientR, [c]⟩, ad, rfl, rule_def F2 o_first_in_clients_order.rule (by decide), trivial, SqT.of upd_same, X1.kt, X1.ol, X1.opsIn, g, fun H2 e2 => ?_⟩
    rw [byR_client, cnt_one]
    have k2 := k H2 (e1.trans e2)
    rw [if_pos hc] at k2
    unfold bitV at k2
    cases hx : Ag13.explained s (Ag13.byClient s) (fun i => (Ag13.op s i).client == c) nums with
    | none => rw [hx] at k2; exact ⟨_, rfl, rfl, _, rfl, iteT k2⟩
    | some l => rw [hx] at k2; exact fun r' hr' => ⟨_, rfl, rfl, _, rfl, iteF k2⟩
  · rw [decide_eq_false hc]
    have k2 := k H (Same.refl _)
    rw [if_neg hc] at k2
    exact iteT k2
/-! ### shortest -/
theorem cutOps_eq (s : Ag13.State) (m : Nat) (nums : List Nat) : cutOps m (nums.map (at_ s)) = (nums.filter fun n => decide ((Ag13.op s n).begun < m)).map (at_ (forget s m)) := by
  unfold cutOps
  rw [List.filter_map, List.map_map]
  refine List.map_congr_left fun n _ => ?_
  show (n, cutOp m (Ag13.op s n)) = (n, Ag13.op (forget s m) n)
  rw [op_forget]
theorem good_forget {s : Ag13.State} {nums : List Nat} (g : Good s nums) (m : Nat) : Good (forget s m) nums := by
  refine ⟨g.kinds, g.few, g.nd, g.small, g.len, fun n hn => ?_, fun n hn => ?_, fun n hn => ?_⟩
  · rw [op_forget]; exact g.fine n hn
  · rw [op_forget]; exact g.ops n hn
  · rw [op_forget]; exact g.cl n hn
theorem find_range {f : Nat → Bool} {n i : Nat} (hi : i < n) (hf : f i = true) (h : ∀ j, j < i → f j = false) : (List.range n).find? f = some i := by
  rw [List.find?_eq_some_iff_getElem]
  refine ⟨hf, i, by simpa using hi, by simp, fun j hj => ?_⟩
  simp [h j hj]
theorem find_range_none {f : Nat → Bool} {n : Nat} (h : ∀ j, j < n → f j = false) : (List.range n).find? f = none := by
  rw [List.find?_eq_none]
  intro x hx
  rw [h x (List.mem_range.mp hx)]
  simp
def optV : Option Nat → Int
  | none => -3
  | some m => (m : Int)
def spShort (T0 : List (Addr × Str)) (d : Ad) : Sp := fun vs H Q _ => ∃ (a : Addr) (s : Ag13.State) (kt ol : Addr) (ad : List Addr), vs = [.ref a] ∧ HistN d H a s (Ag13.all s) s.time kt ol ad ∧ Good s (Ag13.all s) ∧ s.time ≤ 100000 ∧ Tabs T0 H ∧
  ∀ H', ExtN H H' → Tabs T0 H' → Q (.int (optV (Ag13.shortest s))) H'
theorem ok_short {f f1 f2 : Addr} {fd d1 d2 : FuncData} (F : Fun K "shortest" "shortest" s_shortest f fd) (T : Tx K mg d) (C : Tc K d)
    (o_linear : OkD P w K mg base 25 "linear" ["history"] (spLin T0 d) f1 d1) (o_History_first_events : OkM P w K mg base 4 d.cH "first_events" ["self", "many"] (spFirst d) f2 d2) :
    FnOk P w K mg base CX0 26 f fd ["history"] (spShort T0 d) := by
  refine F.ok sc_shortest (fun vs H Q E h => ?_) (fun cdv A outer s H vs Q E hr h => ?_)
  · obtain ⟨a, s, kt, ol, ad, rfl, _⟩ := h; rfl
  obtain ⟨a, s, kt, ol, ad, rfl, X, g, htm, hT, k⟩ := h
  refine ⟨_, (pss_cons (ps_for PassesOwn.never rfl (pi_range1 rfl T.range (pa_cons (pe_op op_add (pe_fld (pv 0) rfl) pe_int) pa_nil)) (pg_name (i := 1) sc_shortest.nd rfl (by first | exact Or.inl rfl | exact Or.inr rfl)) (pss_one (ps_if (pt_cmpR op_eq (pe_cd o_linear (hr.mono (by omega)) (pa_cons (pe_md (pv 0) o_History_first_events (hr.mono (by omega)) (pa_cons (pv 1) pa_nil)) pa_nil)) pe_int (nomark _)) (pss_one (ps_ret (pv 1))) pss_nil))) (pss_one (ps_ret (pe_gi T.g_NONE_FOUND)))), ?_⟩
  obtain ⟨_, _, _, g1, g2, g3, g4⟩ := X.fEvents C
  obtain ⟨dx, hins⟩ := id X.ins
  refine ⟨_, rfl, a, _, _, _, _, rfl, g1, g2, g3, g4, _, _, rfl, rfl, ((s.time : Int) + 1), rfl, by omega, by omega, ?_⟩
  have en : ((s.time : Int) + 1).toNat = s.time + 1 := by omega
  refine for_range (n := ((s.time : Int) + 1).toNat) (fun i σ H' => ∃ v : Option V, σ = [some (.ref a), v] ∧ ExtN H H' ∧ Tabs T0 H' ∧ ∀ j, j < i → (!(Ag13.linear (Ag13.cut s j))) = false) ⟨none, rfl, ExtN.refl _, hT, fun j hj => absurd hj (by omega)⟩ ?_ ?_
  · rintro i σ H' hi ⟨v, rfl, e, t, hall⟩
    have ei : (0 : Int) + (i : Int) = (i : Int) := by omega
    rw [ei]
    rw [en] at hi
    refine ⟨_, rfl, a, dx, _, rfl, e _ _ hins (fun _ z => nomatch z), look_no (by decide +kernel), _, rfl, a, i, s.kinds, _, s.time, kt, ol, ad, rfl, X.ext e, by rw [List.length_map]; exact g.len, fun H2 b kt2 ol2 ad2 e2 X2 => ?_⟩
    rw [cutOps_eq] at X2
    refine ⟨b, forget s i, begunBy s i, i, kt2, ol2, ad2, rfl, X2, (good_forget g i).sub List.filter_sublist, t.ext e2, fun H3 e3 t3 => ?_⟩
    have eA := (e.trans (ExtN.of e2)).trans e3
    rw [← linear_cut]
    unfold bitV
    cases hx : Ag13.linear (Ag13.cut s i) with
    | true =>
      refine ⟨rfl, _, rfl, iteF ⟨some (nv i), rfl, eA, t3, fun j hj => ?_⟩⟩
      rcases Nat.lt_or_eq_of_le (Nat.le_of_lt_succ hj) with hj | rfl
      · exact hall j hj
      · rw [hx]; rfl
    | false =>
      refine ⟨rfl, _, rfl, iteT ⟨_, rfl, ?_⟩⟩
      have z : Ag13.shortest s = some i := find_range hi (by rw [hx]; rfl) hall
      have k2 := k H3 eA t3
      rw [z] at k2
      exact k2
  · rintro σ H' ⟨v, rfl, e, t, hall⟩
    rw [en] at hall
    have z : Ag13.shortest s = none := find_range_none hall
    have k2 := k H' e t
    rw [z] at k2
    exact k2
/-! ### late -/
def spLate (T0 : List (Addr × Str)) (d : Ad) : Sp := fun vs H Q _ => ∃ (a : Addr) (t : Nat) (s : Ag13.State) (kt ol : Addr) (ad : List Addr), vs = [.ref a, nv t] ∧ HistN d H a s (Ag13.all s) s.time kt ol ad ∧ Good s (Ag13.all s) ∧ Tabs T0 H ∧
  ∀ H', ExtN H H' → Tabs T0 H' → Q (.int (if t < s.kinds.length then optV (Ag13.late s t) else -1)) H'
theorem thingD_mono {s : Ag13.State} {nums : List Nat} {t x y : Nat} (h : x ≤ y) (q : thingD s nums t x = true) : thingD s nums t y = true := explained_mono (byTime_mono h) q
def lateAt (σ : L2.St) : Nat := match (σ[2]? : Option (Option V)) with
  | some (some (V.int i)) => i.toNat
  | _ => 0
theorem ok_late {f f1 f2 : Addr} {fd d1 d2 : FuncData} (F : Fun K "late" "late" s_late f fd) (T : Tx K mg d) (C : Tc K d) (o_explains_thing : OkD P w K mg base 24 "explains_thing" ["history", "thing", "late_events"] (spExT T0 d) f1 d1)
    (o_History_has_thing : OkM P w K mg base 1 d.cH "has_thing" ["self", "thing"] (spHasThing d) f2 d2) : FnOk P w K mg base CX0 25 f fd ["history", "thing"] (spLate T0 d) := by
  refine F.ok sc_late (fun vs H Q E h => ?_) (fun cdv A outer s H vs Q E hr h => ?_)
  · obtain ⟨a, t, s, kt, ol, ad, rfl, _⟩ := h; rfl
  obtain ⟨a, t, s, kt, ol, ad, rfl, X, g, hT, k⟩ := h
  refine ⟨_, (pss_cons (ps_if (pt_not (pt_val (pe_md (pv 0) o_History_has_thing (hr.mono (by omega)) (pa_cons (pv 1) pa_nil)))) (pss_one (ps_ret (pe_gi T.g_NO_SUCH))) pss_nil) (pss_cons (ps_if (pt_not (pt_val (pe_cd o_explains_thing (hr.mono (by omega)) (pa_cons (pv 0) (pa_cons (pv 1) (pa_cons (pe_fld (pv 0) rfl) pa_nil)))))) (pss_one (ps_ret (pe_gi T.g_NONE_FOUND))) pss_nil) (pss_cons (ps_set (i := 2) sc_late.nd rfl (by first | exact Or.inl rfl | exact Or.inr rfl) pe_int) (pss_cons (ps_while PassesOwn.never (pt_not (pt_val (pe_cd o_explains_thing (hr.mono (by omega)) (pa_cons (pv 0) (pa_cons (pv 1) (pa_cons (pv 2) pa_nil)))))) (pss_one (ps_aug (i := 2) sc_late.nd rfl (by first | exact Or.inl rfl | exact Or.inr rfl) pe_int ip_add))) (pss_one (ps_ret (pv 2))))))), ?_⟩
  obtain ⟨dx, hins⟩ := id X.ins
  refine ⟨_, rfl, a, dx, _, rfl, hins, look_no (by decide +kernel), _, rfl, a, t, s.kinds, _, s.time, kt, ol, ad, rfl, X, _, rfl, ?_⟩
  by_cases ht : t < s.kinds.length
  · rw [decide_eq_true ht]
    have kf : ∀ H', ExtN H H' → Tabs T0 H' → Q (.int (optV (Ag13.late s t))) H' := fun H' e tt => by
      have k2 := k H' e tt
      rw [if_pos ht] at k2
      exact k2
    have hl : Ag13.late s t = (List.range (s.time + 1)).find? (thingD s (Ag13.all s) t) := rfl
    refine iteF ⟨_, rfl, _, rfl, _, rfl, (X.fEvents C).to ⟨a, t, s.time, s, Ag13.all s, s.time, kt, ol, ad, rfl, X, g, hT, fun H2 e2 t2 => ⟨_, rfl, ?_⟩⟩⟩
    cases hx : thingD s (Ag13.all s) t s.time with
    | false =>
      have z : Ag13.late s t = none := by
        rw [hl]
        refine find_range_none fun j hj => ?_
        cases hj2 : thingD s (Ag13.all s) t j with
        | false => rfl
        | true => rw [thingD_mono (show j ≤ s.time by omega) hj2] at hx; cases hx
      have k2 := kf H2 e2 t2
      rw [z] at k2
      exact iteT k2
    | true =>
      refine iteF ?_
      refine while_by (fun σ H' => ∃ m : Nat, σ = [some (.ref a), some (nv t), some (nv m)] ∧ m ≤ s.time ∧ ExtN H H' ∧ Tabs T0 H' ∧ ∀ j, j < m → thingD s (Ag13.all s) t j = false) (fun σ _ => s.time - lateAt σ) ?_ ?_ ?_
      · exact ⟨0, rfl, Nat.zero_le _, e2, t2, fun j hj => absurd hj (by omega)⟩
      · rintro σ H' ⟨m, rfl, hm, e, tt, hall⟩
        refine ⟨_, rfl, _, rfl, _, rfl, a, t, m, s, Ag13.all s, s.time, kt, ol, ad, rfl, X.ext e, g, tt, fun H3 e3 t3 => ⟨_, rfl, ?_⟩⟩
        cases hy : thingD s (Ag13.all s) t m with
        | true =>
          refine iteF ⟨_, rfl, ?_⟩
          have z : Ag13.late s t = some m := by rw [hl]; exact find_range (by omega) hy hall
          have k2 := kf H3 (e.trans e3) t3
          rw [z] at k2
          exact k2
        | false =>
          have hlt : m < s.time := by
            rcases Nat.lt_or_eq_of_le hm with h | h
            · exact h
            · rw [h, hx] at hy; cases hy
          refine iteT ⟨_, rfl, _, _, rfl, rfl, ?_⟩
          refine ⟨⟨m + 1, rfl, hlt, e.trans e3, t3, fun j hj => ?_⟩, ?_⟩
          · rcases Nat.lt_or_eq_of_le (Nat.le_of_lt_succ hj) with hj | rfl
            · exact hall j hj
            · exact hy
          · show s.time - (((m : Int) + 1).toNat) < s.time - ((m : Int).toNat)
            omega
      · intro σ H1 Q1 Q2 h q
        obtain ⟨v, h1, v2, h2, v3, h3, a, t, x, s, nums, tm, kt, ol, ad, e1, X, g, hT, k⟩ := q
        exact ⟨v, h1, v2, h2, v3, h3, a, t, x, s, nums, tm, kt, ol, ad, e1, X, g, hT, fun H' e t' => let ⟨b, eb, z⟩ := k H' e t'; ⟨b, eb, h _ _ z⟩⟩
  · rw [decide_eq_false ht]
    have k2 := k H (ExtN.refl _) hT
    rw [if_neg ht] at k2
    exact iteT k2
end
end Sh

set_option Elab.async false
set_option linter.all false
set_option maxRecDepth 100000
set_option maxHeartbeats 4000000
namespace Sh
open PySem PySem.Spec PyProof.Rows L2 LamX NdefX
theorem OpAt.ext {d : Ad} {H H' : Hp} {p : Addr} {n : Nat} {o : Ag13.Op} (e : ExtN H H') (h : OpAt d H p n o) : OpAt d H' p n o := by
  obtain ⟨dx, z⟩ := h
  exact ⟨dx, e _ _ z (fun _ y => nomatch y)⟩
theorem bit_one_iff (b : Bool) : decide (V.int (bitV b) = V.int 1) = b := by cases b <;> rfl
theorem without_map (s : Ag13.State) (nums : List Nat) (n : Nat) : ((nums.map (at_ s)).filter fun q => q.1 != n) = (nums.filter fun m => m != n).map (at_ s) := by
  rw [List.filter_map]; rfl
theorem blame_eq (s : Ag13.State) : Ag13.blame s = (Ag13.all s).filter fun i => linearN s ((Ag13.all s).filter fun m => m != i) := by
  unfold Ag13.blame
  refine List.filter_congr fun i _ => ?_
  rw [linear_without, (all_nodup s).erase_eq_filter]
theorem all_get {s : Ag13.State} {n : Nat} (h : n < s.ops.length) : (Ag13.all s)[n]? = some n := by
  unfold Ag13.all
  rw [List.getElem?_range h]
theorem ops_get {s : Ag13.State} {n : Nat} (h : n < s.ops.length) : s.ops[n]? = some (Ag13.op s n) := by
  unfold Ag13.op
  rw [List.getD, List.getElem?_eq_getElem h]
  rfl
section
variable {P : Program} {w : World} {K : PySem.W.Frag} {mg : Str → Option Value} {base : Heap} {d : Ad} {T0 : List (Addr × Str)}
/-! ### blame -/
def spBlame (T0 : List (Addr × Str)) (d : Ad) : Sp := fun vs H Q _ => ∃ (a : Addr) (s : Ag13.State) (tm : Nat) (kt ol : Addr) (ad : List Addr), vs = [.ref a] ∧ HistN d H a s (Ag13.all s) tm kt ol ad ∧ Good s (Ag13.all s) ∧ Tabs T0 H ∧
  NewT T0 Q H (Ag13.nums ((Ag13.blame s).length :: Ag13.blame s))
theorem ok_blame {f f1 f2 : Addr} {fd d1 d2 : FuncData} (F : Fun K "blame" "blame" s_blame f fd) (T : Tx K mg d) (C : Tc K d)
    (o_linear : OkD P w K mg base 25 "linear" ["history"] (spLin T0 d) f1 d1) (o_History_without : OkM P w K mg base 3 d.cH "without" ["self", "number"] (spWithout d) f2 d2) :
    FnOk P w K mg base CX0 26 f fd ["history"] (spBlame T0 d) := by
  refine F.ok sc_blame (fun vs H Q E h => ?_) (fun cdv A outer s H vs Q E hr h => ?_)
  · obtain ⟨a, s, tm, kt, ol, ad, rfl, _⟩ := h; rfl
  obtain ⟨a, s, tm, kt, ol, ad, rfl, X, g, hT, k⟩ := h
  refine ⟨_, (pss_cons (ps_setLc (i := 1) (own := [("operation", 2)]) (g := gName 2) (tt := (tTest (tOp _ (tCall _ [] E0 (tCons (tMeth _ _ _ [] E0 (tVar 0) (tCons (tFld K (tVar 2) "number") tNil)) tNil)) (tC (.int 1))))) (te := (tFld K (tVar 2) "number")) (by rfl) sc_blame.nd rfl rfl (sw_true rfl rfl rfl (by decide +kernel)) (pi_list (pe_fld (pv 0) rfl)) (blkOk_by (own := [("operation", 2)]) (N := ["history", "blamed", "operation"]) (sc := defScope s_blame) (by decide +kernel)) (fun _ _ _ _ _ => pg_name (i := 2) sc_blame.nd rfl (Or.inl rfl)) (fun _ _ _ _ _ => by exact (pts_one (pt_cmpR op_eq (pe_cd o_linear (hr.mono (by omega)) (pa_cons (pe_md (pv 0) o_History_without (hr.mono (by omega)) (pa_cons (pe_fld (pv 2) rfl) pa_nil)) pa_nil)) pe_int (nomark _)))) (fun _ _ _ _ _ => by exact (pe_fld (pv 2) rfl))) (pss_one (ps_ret (pe_op op_cat (pe_lst (pa_cons (pe_callB call_len_seq (by rfl) T.len PySem.boot_len (pa_cons (pv 1) pa_nil)) pa_nil)) (pv 1))))), ?_⟩
  obtain ⟨dx, hins⟩ := id X.ins
  have lad : (Ag13.all s).length = ad.length := Paired.length X.opsIn
  refine go_seq (go_asg ?_)
  refine comp_listN (K := K) (a := ol) (l := (Ag13.all s).zip ad) (g := fun z => V.ref z.2) (p := fun z => linearN s ((Ag13.all s).filter fun m => m != z.1)) (f := fun z => nv z.1) (T0 := T0) (by rw [zip_refs lad]; exact X.ol) hT ⟨_, rfl, (X.fOps C).to ⟨rfl, rfl⟩⟩ (mono_fld mono_var)
    ⟨by rw [List.length_zip]; have := g.len; omega, fun z hz H' e t kk q => ?_, fun z hz H' e kk q => ?_⟩ ?_
  · have O : OpAt d H' z.2 z.1 (Ag13.op s z.1) := (paired_zip X.opsIn z hz).ext e
    refine ⟨_, rfl, a, dx, _, rfl, e _ _ hins (fun _ y => nomatch y), look_no (by decide +kernel), _, rfl, (O.number C).to ⟨a, z.1, s.kinds, _, tm, kt, ol, ad, rfl, X.ext e, by rw [List.length_map]; exact g.len, fun H2 b kt2 ol2 ad2 e2 X2 => ?_⟩⟩
    rw [without_map] at X2
    refine ⟨b, s, _, tm, kt2, ol2, ad2, rfl, X2, g.sub List.filter_sublist, t.ext e2, fun H3 e3 t3 => ⟨rfl, _, rfl, ?_⟩⟩
    rw [bit_one_iff]
    exact q _ ((ExtN.of e2).trans e3) t3
  · have O : OpAt d H' z.2 z.1 (Ag13.op s z.1) := (paired_zip X.opsIn z hz).ext e
    exact ⟨_, rfl, (O.number C).to q⟩
  · intro D H2 e2 t2 hD0 hD
    have eL : (((Ag13.all s).zip ad).filter fun z => linearN s ((Ag13.all s).filter fun m => m != z.1)).map (fun z => nv z.1) = (Ag13.blame s).map nv := by
      rw [blame_eq, ← filt_zip (fun i => linearN s ((Ag13.all s).filter fun m => m != i)) lad, List.map_map]
      rfl
    rw [eL] at hD
    have ll : (Ag13.blame s).length ≤ 9 := by
      rw [blame_eq]
      exact Nat.le_trans (List.length_filter_le ..) g.len
    refine ⟨_, rfl, D, _, rfl, .inl (SqL.of hD), one_sz, fun p hp => ?_⟩
    have e3 := same_new hp (.lst [V.int (((Ag13.blame s).map nv).length : Int)])
    refine ⟨_, rfl, p, D, _, _, rfl, rfl, upd_same, e3 _ _ hD, ?_, fun q hq => ?_⟩
    · exact sz (by rw [List.length_map]; simp; omega)
    · have e4 := e3.trans (same_new hq (.lst ([V.int (((Ag13.blame s).map nv).length : Int)] ++ (Ag13.blame s).map nv)))
      refine k _ q (e2.trans (ExtN.of e4)) (t2.ext e4) (NewA.of (e2.trans (ExtN.of e3)) hq) ?_
      rw [upd_same, List.length_map]
      unfold Ag13.nums
      rw [List.map_cons, List.map_cons, ← map_nv]
      rfl
/-! ### show -/
def showL (s : Ag13.State) (i : Nat) : List Int := match s.ops[i]? with
  | none => [-1]
  | some x => Ag13.nums [x.client, x.thing, x.op, x.a, x.b, x.begun] ++ match x.ended with
    | none => [-1]
    | some e => [(e.1 : Int), e.2]
def spShow (d : Ad) : Sp := fun vs H Q _ => ∃ (a : Addr) (n : Nat) (s : Ag13.State) (tm : Nat) (kt ol : Addr) (ad : List Addr), vs = [.ref a, nv n] ∧ HistN d H a s (Ag13.all s) tm kt ol ad ∧ NewL Q H (showL s n)
theorem six_sz {a b c e f g : V} : ([a, b, c, e, f, g] : List V).length ≤ sizeLine := by show 6 ≤ sizeLine; decide
theorem ok_show {f f1 : Addr} {fd d1 : FuncData} (F : Fun K "show" "show" s_show f fd) (T : Tx K mg d) (C : Tc K d)
    (o_History_has_operation : OkM P w K mg base 1 d.cH "has_operation" ["self", "number"] (spHasOp d) f1 d1) :
    FnOk P w K mg base CX0 2 f fd ["history", "number"] (spShow d) := by
  refine F.ok sc_show (fun vs H Q E h => ?_) (fun cdv A outer s H vs Q E hr h => ?_)
  · obtain ⟨a, n, s, tm, kt, ol, ad, rfl, _⟩ := h; rfl
  obtain ⟨a, n, s, tm, kt, ol, ad, rfl, X, k⟩ := h
  refine ⟨_, (pss_cons (ps_if (pt_not (pt_val (pe_md (pv 0) o_History_has_operation (hr.mono (by omega)) (pa_cons (pv 1) pa_nil)))) (pss_one (ps_ret (pe_lst (pa_cons (pe_gi T.g_NO_SUCH) pa_nil)))) pss_nil) (pss_cons (ps_set (i := 2) sc_show.nd rfl (by first | exact Or.inl rfl | exact Or.inr rfl) (pe_ix ix_list (pe_fld (pv 0) rfl) (pv 1) (fun _ _ => rfl))) (pss_cons (ps_set (i := 3) sc_show.nd rfl (by first | exact Or.inl rfl | exact Or.inr rfl) (pe_lst (pa_cons (pe_fld (pv 2) rfl) (pa_cons (pe_fld (pv 2) rfl) (pa_cons (pe_fld (pv 2) rfl) (pa_cons (pe_fld (pv 2) rfl) (pa_cons (pe_fld (pv 2) rfl) (pa_cons (pe_fld (pv 2) rfl) pa_nil)))))))) (pss_cons (ps_if (pt_cmpR op_isN (pe_fld (pv 2) rfl) pe_non (nomark _)) (pss_one (ps_ret (pe_op op_cat (pv 3) (pe_lst (pa_cons (pe_gi T.g_NOT_ENDED) pa_nil))))) pss_nil) (pss_one (ps_ret (pe_op op_cat (pv 3) (pe_lst (pa_cons (pe_fld (pv 2) rfl) (pa_cons (pe_fld (pv 2) rfl) pa_nil)))))))))), ?_⟩
  obtain ⟨dx, hins⟩ := id X.ins
  have la : ((Ag13.all s).map (at_ s)).length = s.ops.length := by rw [List.length_map]; unfold Ag13.all; rw [List.length_range]
  refine ⟨_, rfl, a, dx, _, rfl, hins, look_no (by decide +kernel), _, rfl, a, n, s.kinds, _, tm, kt, ol, ad, rfl, X, _, rfl, ?_⟩
  rw [la]
  by_cases hn : n < s.ops.length
  · rw [decide_eq_true hn]
    obtain ⟨p, hp, O⟩ := Paired.getR X.opsIn (all_get hn)
    have hix : atI (ad.map V.ref) (n : Int) = some (.ref p) := atI_nat (by rw [List.getElem?_map, hp]; rfl)
    refine iteF ⟨_, rfl, (X.fOps C).to ⟨_, rfl, ol, _, _, _, rfl, rfl, SqL.of X.ol, hix, ?_⟩⟩
    refine ⟨_, rfl, (O.client C).to ⟨_, rfl, (O.thing C).to ⟨_, rfl, (O.action C).to ⟨_, rfl, (O.fa C).to ⟨_, rfl, (O.fb C).to ⟨_, rfl, (O.began C).to ⟨six_sz, fun q hq => ?_⟩⟩⟩⟩⟩⟩⟩
    unfold showL at k
    rw [ops_get hn] at k
    dsimp only at k
    generalize hL : ([nv (Ag13.op s n).client, nv (Ag13.op s n).thing, nv (Ag13.op s n).op, nv (Ag13.op s n).a, nv (Ag13.op s n).b, nv (Ag13.op s n).begun] : List V) = L
    have hL2 : (Ag13.nums [(Ag13.op s n).client, (Ag13.op s n).thing, (Ag13.op s n).op, (Ag13.op s n).a, (Ag13.op s n).b, (Ag13.op s n).begun]).map V.int = L := by rw [← hL]; rfl
    have hlen : L.length = 6 := by rw [← hL]; rfl
    have e1 := same_new hq (.lst L)
    have hq1 : upd H q (.lst L) q = some (.lst L) := upd_same
    generalize upd H q (.lst L) = H1 at e1 hq1
    have O1 := O.same e1
    refine ⟨_, rfl, (O1.ended C).to ⟨rfl, _, rfl, ?_⟩⟩
    cases he : (Ag13.op s n).ended with
    | none =>
      rw [he] at k
      have z1 : endV (Ag13.op s n) = .non := by unfold endV; rw [he]
      rw [z1]
      refine iteT ⟨_, rfl, one_sz, fun r hr => ?_⟩
      have e2 := same_new hr (.lst [V.int (-1)])
      refine ⟨q, r, _, _, rfl, rfl, e2 _ _ hq1, upd_same, sz (by rw [hlen]; simp), fun u hu => ?_⟩
      refine k _ u ((e1.trans e2).trans (same_new hu _)) ((e1.trans e2).free hu) ?_
      rw [upd_same, List.map_append, hL2]
      rfl
    | some e =>
      rw [he] at k
      have z1 : endV (Ag13.op s n) = nv e.1 := by unfold endV; rw [he]
      have z2 : ansV (Ag13.op s n) = .int e.2 := by unfold ansV; rw [he]
      rw [z1]
      refine iteF ⟨_, rfl, _, rfl, (O1.ended C).to ⟨_, rfl, (O1.answer C).to ⟨two_sz, fun r hr => ?_⟩⟩⟩
      rw [z1, z2]
      have e2 := same_new hr (.lst [nv e.1, V.int e.2])
      refine ⟨q, r, _, _, rfl, rfl, e2 _ _ hq1, upd_same, sz (by rw [hlen]; simp), fun u hu => ?_⟩
      refine k _ u ((e1.trans e2).trans (same_new hu _)) ((e1.trans e2).free hu) ?_
      rw [upd_same, List.map_append, hL2]
      rfl
  · rw [decide_eq_false hn]
    refine iteT ⟨one_sz, fun p hp => ?_⟩
    have z : showL s n = [-1] := by
      unfold showL
      rw [List.getElem?_eq_none (by omega)]
    rw [z] at k
    exact k _ p (same_new hp _) hp upd_same
end
end Sh

set_option Elab.async false
set_option linter.all false
set_option maxRecDepth 100000
set_option maxHeartbeats 4000000
namespace Sh
open PySem PySem.Spec PyProof.Rows L2 LamX NdefX
/-! ### a dict of pairs of numbers -/
theorem look_put (kvs : List DEnt) (k : DKey) (b : Addr) (v : V) (k' : DKey) : lookD (putD kvs k b v) k' = if k = k' then some v else lookD kvs k' := by
  unfold putD
  by_cases h : (lookD kvs k).isSome = true
  · rw [if_pos h]
    have e : lookD (kvs.map fun x => if x.1 = k then (x.1, x.2.1, v) else x) k' = ((kvs.find? fun x => decide (x.1 = k')).map fun x : DEnt => if x.1 = k then ((x.1, x.2.1, v) : DEnt) else x).map (·.2.2) := by
      unfold lookD
      rw [List.find?_map]
      have ef : ((fun x : DEnt => decide (x.1 = k')) ∘ fun x : DEnt => if x.1 = k then ((x.1, x.2.1, v) : DEnt) else x) = fun x : DEnt => decide (x.1 = k') := by
        funext x
        show decide ((if x.1 = k then ((x.1, x.2.1, v) : DEnt) else x).1 = k') = _
        split <;> rfl
      rw [ef]
    rw [e]
    cases hf : kvs.find? fun x => decide (x.1 = k') with
    | none =>
      by_cases e1 : k = k'
      · subst e1
        unfold lookD at h
        rw [hf] at h
        cases h
      · rw [if_neg e1]
        unfold lookD
        rw [hf]
        rfl
    | some x =>
      have hx : x.1 = k' := of_decide_eq_true (List.find?_some (p := fun x : DEnt => decide (x.1 = k')) hf)
      by_cases e1 : k = k'
      · rw [if_pos e1]
        show some ((if x.1 = k then ((x.1, x.2.1, v) : DEnt) else x).2.2) = some v
        rw [if_pos (hx.trans e1.symm)]
      · rw [if_neg e1]
        unfold lookD
        rw [hf]
        show some ((if x.1 = k then ((x.1, x.2.1, v) : DEnt) else x).2.2) = some x.2.2
        rw [if_neg (fun z => e1 (z.symm.trans hx))]
  · rw [if_neg h]
    unfold lookD at h ⊢
    rw [List.find?_append]
    cases hf : kvs.find? fun x => decide (x.1 = k') with
    | none =>
      by_cases e1 : k = k'
      · rw [if_pos e1]
        simp [List.find?_cons, e1]
      · rw [if_neg e1]
        simp [List.find?_cons, e1]
    | some x =>
      by_cases e1 : k = k'
      · subst e1
        rw [hf] at h
        exact absurd rfl h
      · rw [if_neg e1]
        rfl
def pkey (i j : Nat) : DKey := [Sum.inl (i : Int), Sum.inl (j : Int)]
theorem pkey_inj {i j a b : Nat} (h : pkey i j = pkey a b) : i = a ∧ j = b := by
  unfold pkey at h
  injection h with h1 h2
  injection h2 with h2 _
  injection h1 with h1
  injection h2 with h2
  exact ⟨by omega, by omega⟩
theorem pkey_at {H : Hp} {t : Addr} {i j : Nat} (h : H t = some (.tup [nv i, nv j])) : KeyAt H (pkey i j) t := ⟨_, h, .cons rfl (.cons rfl .nil)⟩
def TabD (n : Nat) (kvs : List DEnt) (tab : Nat → Nat → Bool) : Prop := ∀ i j, i < n → j < n → lookD kvs (pkey i j) = some (.bl (tab i j))
theorem TabD.put {n : Nat} {kvs : List DEnt} {tab : Nat → Nat → Bool} (t : TabD n kvs tab) (i j : Nat) (b : Addr) : TabD n (putD kvs (pkey i j) b (.bl true)) (putT tab i j) := fun a c ha hc => by
  rw [look_put]
  unfold putT
  by_cases e : a = i ∧ c = j
  · obtain ⟨rfl, rfl⟩ := e
    rw [if_pos rfl, if_pos ⟨rfl, rfl⟩]
  · rw [if_neg (fun z => e (by have := pkey_inj z; exact ⟨this.1.symm, this.2.symm⟩)), if_neg e]
    exact t a c ha hc
/-! ### what is followed at once -/
def fromO (i j : Ag13.Op) : Bool := i.op == 1 && (j.op == 0 && (i.thing == j.thing && match j.ended with
  | some e => e.2 == (i.a : Int)
  | none => false))
def directO (q r : Nat × Ag13.Op) : Bool := clientR q r || fromO q.2 r.2
theorem direct_eq (s : Ag13.State) (i j : Nat) : Ag13.direct s i j = directO (at_ s i) (at_ s j) := rfl
theorem direct_lt {s : Ag13.State} {i j : Nat} (h : Ag13.direct s i j = true) : j < s.ops.length := by
  rcases Nat.lt_or_ge j s.ops.length with hj | hj
  · exact hj
  · have e : Ag13.op s j = Ag13.nobody := by
      unfold Ag13.op
      rw [List.getD, List.getElem?_eq_none hj]
      rfl
    unfold Ag13.direct Ag13.byClient Ag13.from_ at h
    rw [e] at h
    simp [Ag13.nobody] at h
section
variable {P : Program} {w : World} {K : PySem.W.Frag} {mg : Str → Option Value} {base : Heap} {d : Ad}
def spIsWrite (d : Ad) : Sp := fun vs H Q _ => ∃ (p : Addr) (n : Nat) (o : Ag13.Op), vs = [.ref p] ∧ OpAt d H p n o ∧ Q (.bl (o.op == 1)) H
theorem dec_nv (a b : Nat) : decide (nv a = nv b) = (a == b) := by rw [eq_nv]; rfl
theorem ok_is_write {f : Addr} {fd : FuncData} (F : Fun K "is_write" "is_write" s_is_write f fd) (T : Tx K mg d) (C : Tc K d) : FnOk P w K mg base CX0 1 f fd ["operation"] (spIsWrite d) := by
  refine F.ok sc_is_write (fun vs H Q E h => ?_) (fun cdv A outer s H vs Q E hr h => ?_)
  · obtain ⟨p, n, o, rfl, _⟩ := h; rfl
  obtain ⟨p, n, o, rfl, O, k⟩ := h
  refine ⟨_, (pss_one (ps_ret (pe_cmpR op_eq (pe_fld (pv 0) rfl) (pe_gi T.g_WRITE) (nomark _)))), ?_⟩
  refine ⟨_, rfl, (O.action C).to ⟨rfl, ?_⟩⟩
  have e : decide (nv o.op = V.int 1) = (o.op == 1) := dec_nv o.op 1
  rw [e]
  exact k
def spSeen (d : Ad) : Sp := fun vs H Q _ => ∃ (p p' : Addr) (n n' : Nat) (o o' : Ag13.Op), vs = [.ref p, .ref p'] ∧ OpAt d H p n o ∧ OpAt d H p' n' o' ∧ Q (.bl (fromO o' o)) H
theorem ok_has_seen {f f1 : Addr} {fd d1 : FuncData} (F : Fun K "has_seen" "has_seen" s_has_seen f fd) (T : Tx K mg d) (C : Tc K d) (o_is_write : OkD P w K mg base 1 "is_write" ["operation"] (spIsWrite d) f1 d1) : FnOk P w K mg base CX0 2 f fd ["read", "write"] (spSeen d) := by
  refine F.ok sc_has_seen (fun vs H Q E h => ?_) (fun cdv A outer s H vs Q E hr h => ?_)
  · obtain ⟨p, p', n, n', o, o', rfl, _⟩ := h; rfl
  obtain ⟨p, p', n, n', o, o', rfl, O, O', k⟩ := h
  refine ⟨_, (pss_cons (ps_if (PW.pt (pw_or (pt_cmpR op_ne (pe_fld (pv 0) rfl) (pe_gi T.g_READ) (nomark _)) (pw_or1 (pt_not (pt_val (pe_cd o_is_write (hr.mono (by omega)) (pa_cons (pv 1) pa_nil))))))) (pss_one (ps_ret pe_bl)) pss_nil) (pss_one (ps_ret (pe_and (pe_cmpR op_notN (pe_fld (pv 0) rfl) pe_non (nomark _)) (pe_and (pe_cmpR op_eq (pe_fld (pv 0) rfl) (pe_fld (pv 1) rfl) (nomark _)) (pe_one (pe_cmpR op_eq (pe_fld (pv 0) rfl) (pe_fld (pv 1) rfl) (nomark _)))))))), ?_⟩
  refine ⟨_, rfl, (O.action C).to ⟨rfl, _, rfl, ?_⟩⟩
  have e : decide (nv o.op = V.int 0) = (o.op == 0) := dec_nv o.op 0
  rw [e]
  cases h0 : (o.op == 0) with
  | false =>
    have z : fromO o' o = false := by unfold fromO; rw [h0]; simp
    rw [z] at k
    exact iteT k
  | true =>
    refine iteF ⟨_, rfl, p', n', o', rfl, O', _, rfl, ?_⟩
    cases h1 : (o'.op == 1) with
    | false =>
      have z : fromO o' o = false := by unfold fromO; rw [h1]; simp
      rw [z] at k
      exact iteT k
    | true =>
      refine iteF ⟨_, rfl, (O.ended C).to ⟨rfl, _, rfl, ?_⟩⟩
      cases he : o.ended with
      | none =>
        have z1 : endV o = .non := by unfold endV; rw [he]
        have z : fromO o' o = false := by unfold fromO; rw [he]; simp
        rw [z] at k
        rw [z1]
        exact iteF k
      | some x =>
        have z1 : endV o = nv x.1 := by unfold endV; rw [he]
        have z2 : ansV o = .int x.2 := by unfold ansV; rw [he]
        rw [z1]
        refine iteT ⟨_, rfl, (O.thing C).to ⟨_, rfl, (O'.thing C).to ⟨rfl, _, rfl, ?_⟩⟩⟩
        rw [dec_nv]
        cases h2 : (o.thing == o'.thing) with
        | false =>
          have h3 : (o'.thing == o.thing) = false := by
            rw [beq_eq_false_iff_ne] at h2 ⊢
            exact fun z => h2 z.symm
          have z : fromO o' o = false := by unfold fromO; rw [h3]; simp
          rw [z] at k
          exact iteF k
        | true =>
          have h3 : (o'.thing == o.thing) = true := by
            rw [beq_iff_eq] at h2 ⊢
            exact h2.symm
          refine iteT ⟨_, rfl, (O.answer C).to ?_⟩
          rw [z2]
          refine ⟨_, rfl, (O'.fa C).to ⟨rfl, ?_⟩⟩
          have z : fromO o' o = decide (V.int x.2 = nv o'.a) := by
            unfold fromO
            rw [he, h0, h1, h3]
            simp only [Bool.true_and]
            rw [Bool.eq_iff_iff, beq_iff_eq, decide_eq_true_iff]
            exact ⟨fun q => by rw [q], fun q => by injection q⟩
          rw [z] at k
          exact k
theorem ok_followed_at_once {f f1 f2 : Addr} {fd d1 d2 : FuncData} (F : Fun K "followed_at_once" "followed_at_once" s_followed_at_once f fd) (o_first_in_clients_order : OkD P w K mg base 1 "first_in_clients_order" ["one", "other"] (spRule0 d clientR) f1 d1)
    (o_has_seen : OkD P w K mg base 2 "has_seen" ["read", "write"] (spSeen d) f2 d2) : FnOk P w K mg base CX0 3 f fd ["one", "other"] (spRule0 d directO) := by
  refine F.ok sc_followed_at_once (fun vs H Q E h => ?_) (fun cdv A outer s H vs Q E hr h => ?_)
  · obtain ⟨p, p', n, n', o, o', rfl, _⟩ := h; rfl
  obtain ⟨p, p', n, n', o, o', rfl, O, O', k⟩ := h
  refine ⟨_, (pss_one (ps_ret (pe_or (pe_cd o_first_in_clients_order (hr.mono (by omega)) (pa_cons (pv 0) (pa_cons (pv 1) pa_nil))) (pe_one (pe_cd o_has_seen (hr.mono (by omega)) (pa_cons (pv 1) (pa_cons (pv 0) pa_nil))))))), ?_⟩
  refine ⟨_, rfl, _, rfl, p, p', n, n', o, o', rfl, O, O', _, rfl, ?_⟩
  cases hc : clientR (n, o) (n', o') with
  | true =>
    have z : directO (n, o) (n', o') = true := by simp only [directO, hc, Bool.true_or]
    rw [z] at k
    exact iteT k
  | false =>
    have z : directO (n, o) (n', o') = fromO o o' := by simp only [directO, hc, Bool.false_or]
    rw [z] at k
    exact iteF ⟨_, rfl, _, rfl, p', p, n', n, o', o, rfl, O', O, k⟩
/-! ### over several steps -/
def spFollowed (P : Program) (w : World) (d : Ad) : Sp := fun vs H Q _ => ∃ (ol : Addr) (s : Ag13.State) (ad : List Addr), vs = [.ref ol] ∧ H ol = some (.lst (ad.map V.ref)) ∧ OpsIn d H s (Ag13.all s) ad ∧ s.ops.length ≤ 9 ∧
  ∀ (H' : Hp) (rd : Addr) (kvs : List DEnt), Same H H' → DictAt P w H' rd kvs → TabD s.ops.length kvs (reachB s) → Q (.ref rd) H'
theorem all_len (s : Ag13.State) : (Ag13.all s).length = s.ops.length := by unfold Ag13.all; rw [List.length_range]
theorem all_at {s : Ag13.State} {i m : Nat} (h : (Ag13.all s)[i]? = some m) : m = i ∧ i < s.ops.length := by
  unfold Ag13.all at h
  obtain ⟨h1, h2⟩ := List.getElem?_eq_some_iff.mp h
  rw [List.length_range] at h1
  simp at h2
  exact ⟨h2.symm, h1⟩
theorem ok_followed {f f1 : Addr} {fd d1 : FuncData} (F : Fun K "followed" "followed" s_followed f fd) (T : Tx K mg d) (C : Tc K d) (o_followed_at_once : OkD P w K mg base 3 "followed_at_once" ["one", "other"] (spRule0 d directO) f1 d1) :
    FnOk P w K mg base CX0 4 f fd ["operations"] (spFollowed P w d) := by
  refine F.ok sc_followed (fun vs H Q E h => ?_) (fun cdv A outer s H vs Q E hr h => ?_)
  · obtain ⟨ol, s, ad, rfl, _⟩ := h; rfl
  obtain ⟨ol, s, ad, rfl, hol, hops, h9, k⟩ := h
  refine ⟨_, (pss_cons (ps_set (i := 1) sc_followed.nd rfl (by first | exact Or.inl rfl | exact Or.inr rfl) pe_ddnew) (pss_cons (ps_for PassesOwn.never rfl (pi_list (pv 0)) (pg_name (i := 2) sc_followed.nd rfl (by first | exact Or.inl rfl | exact Or.inr rfl)) (pss_one (ps_for PassesOwn.never rfl (pi_list (pv 0)) (pg_name (i := 3) sc_followed.nd rfl (by first | exact Or.inl rfl | exact Or.inr rfl)) (pss_one (ps_ddput (hu4 hr) (pv 1) (pe_tup (pa_cons (pe_fld (pv 2) rfl) (pa_cons (pe_fld (pv 3) rfl) pa_nil))) (pe_cd o_followed_at_once (hr.mono (by omega)) (pa_cons (pv 2) (pa_cons (pv 3) pa_nil))) rfl))))) (pss_cons (ps_setLc (i := 4) (own := [("operation", 6)]) (g := gName 6) (te := (tFld K (tVar 6) "number")) (by rfl) sc_followed.nd rfl rfl (sw_true rfl rfl rfl (by decide +kernel)) (pi_list (pv 0)) (blkOk_by (own := [("operation", 6)]) (N := ["operations", "reached", "one", "other", "numbers", "between", "operation"]) (sc := defScope s_followed) (by decide +kernel)) (fun _ _ _ _ _ => pg_name (i := 6) sc_followed.nd rfl (Or.inl rfl)) (fun _ _ _ _ _ => by exact pts_nil) (fun _ _ _ _ _ => by exact (pe_fld (pv 6) rfl))) (pss_cons (ps_for PassesOwn.never rfl (pi_list (pv 4)) (pg_name (i := 5) sc_followed.nd rfl (by first | exact Or.inl rfl | exact Or.inr rfl)) (pss_one (ps_for PassesOwn.never rfl (pi_list (pv 4)) (pg_name (i := 2) sc_followed.nd rfl (by first | exact Or.inl rfl | exact Or.inr rfl)) (pss_one (ps_for PassesOwn.never rfl (pi_list (pv 4)) (pg_name (i := 3) sc_followed.nd rfl (by first | exact Or.inl rfl | exact Or.inr rfl)) (pss_one (ps_if (PW.pt (pw_and (pt_val (pe_ddget (hu4 hr) (pv 1) (pe_tup (pa_cons (pv 2) (pa_cons (pv 5) pa_nil))) (fun _ _ => rfl))) (pw_and1 (pt_val (pe_ddget (hu4 hr) (pv 1) (pe_tup (pa_cons (pv 5) (pa_cons (pv 3) pa_nil))) (fun _ _ => rfl)))))) (pss_one (ps_ddput (hu4 hr) (pv 1) (pe_tup (pa_cons (pv 2) (pa_cons (pv 3) pa_nil))) pe_bl rfl)) pss_nil))))))) (pss_one (ps_ret (pv 1))))))), ?_⟩
  intro rd hrd
  have e0 := same_new hrd (DdO P w rd [])
  have D0 : DictAt P w (upd H rd (DdO P w rd [])) rd [] := ⟨upd_same, fun e he => by simp at he⟩
  have lad : s.ops.length = ad.length := by rw [← all_len]; exact Paired.length hops
  have lxs : (ad.map V.ref).length = s.ops.length := by rw [List.length_map, lad]
  have keep : ∀ {H1 : Hp} {t : Addr} {u : HO} {kvs : List DEnt} {v : HO}, Same H H1 → H1 t = none → DictAt P w H1 rd kvs → Same H (upd (upd H1 t u) rd v) := fun e ht D b o q => by
    rw [upd_ne (ne_of_none q hrd), upd_ne (ne_of_none (e _ _ q) ht)]
    exact e _ _ q
  refine ⟨_, rfl, ol, rfl, ⟨_, SqL.of (e0 _ _ hol)⟩, for_list (K := K) (a := ol) (xs := ad.map V.ref)
    (fun i σ H' => ∃ (v2 v3 : Option V) (kvs : List DEnt), σ = [some (.ref ol), some (.ref rd), v2, v3, none, none, none] ∧ Same H H' ∧ DictAt P w H' rd kvs ∧ kvs.length ≤ 9 * i ∧ ∀ a b, a < i → b < s.ops.length → lookD kvs (pkey a b) = some (.bl (Ag13.direct s a b)))
    ⟨none, none, [], rfl, e0, D0, Nat.zero_le _, fun a b ha => absurd ha (by omega)⟩ (fun i σ H' _ ⟨_, _, _, _, e, _⟩ => SqL.of (e _ _ hol)) ?_ ?_⟩
  · rintro i y σ H1 hi ⟨v2, v3, kvs, rfl, e1, D1, hl1, tab1⟩
    rw [List.getElem?_map] at hi
    obtain ⟨p, hp, rfl⟩ := Option.map_eq_some_iff.mp hi
    obtain ⟨m, hm, O⟩ := Paired.getL hops hp
    obtain ⟨em, hin⟩ := all_at hm
    rw [em] at O
    refine ⟨_, rfl, ol, rfl, ⟨_, SqL.of (e1 _ _ hol)⟩, for_list (K := K) (a := ol) (xs := ad.map V.ref)
      (fun j σ H' => ∃ (v3 : Option V) (kvs : List DEnt), σ = [some (.ref ol), some (.ref rd), some (.ref p), v3, none, none, none] ∧ Same H H' ∧ DictAt P w H' rd kvs ∧ kvs.length ≤ 9 * i + j ∧ ∀ a b, (a < i ∧ b < s.ops.length) ∨ (a = i ∧ b < j) → lookD kvs (pkey a b) = some (.bl (Ag13.direct s a b)))
      ⟨v3, kvs, rfl, e1, D1, hl1, fun a b hab => tab1 a b (by omega) (by omega)⟩ (fun j σ H' _ ⟨_, _, _, e, _⟩ => SqL.of (e _ _ hol)) ?_ ?_⟩
    · rintro j y σ H2 hj ⟨v3, kvs, rfl, e2, D2, hl2, tab2⟩
      rw [List.getElem?_map] at hj
      obtain ⟨q, hq, rfl⟩ := Option.map_eq_some_iff.mp hj
      obtain ⟨m', hm', O'⟩ := Paired.getL hops hq
      obtain ⟨em', hjn⟩ := all_at hm'
      rw [em'] at O'
      refine ⟨_, rfl, _, rfl, p, q, i, j, _, _, rfl, O.same e2, O'.same e2, _, rfl, _, rfl, ((O.same e2).number C).to ⟨_, rfl, ((O'.same e2).number C).to ⟨two_sz, fun t ht => ?_⟩⟩⟩
      have e3 := same_new ht (.tup [nv i, nv j])
      refine ⟨rd, t, pkey i j, kvs, rfl, rfl, D2.same e3, pkey_at upd_same, szl (by omega), ?_⟩
      refine ⟨_, _, rfl, keep e2 ht D2, (D2.same e3).put (pkey_at upd_same) _, Nat.le_trans (length_putD ..) (by omega), fun a b hab => ?_⟩
      rw [look_put]
      by_cases e : pkey i j = pkey a b
      · rw [if_pos e]
        obtain ⟨rfl, rfl⟩ := pkey_inj e
        rfl
      · rw [if_neg e]
        refine tab2 a b ?_
        rcases hab with hab | ⟨h1, h2⟩
        · exact .inl hab
        · refine .inr ⟨h1, ?_⟩
          rcases Nat.lt_or_eq_of_le (Nat.le_of_lt_succ h2) with h3 | h3
          · exact h3
          · exact absurd (by rw [h1, h3]) e
    · rintro σ H2 ⟨v3, kvs, rfl, e2, D2, hl2, tab2⟩
      rw [lxs] at hl2 tab2
      refine ⟨_, _, _, rfl, e2, D2, by omega, fun a b ha hb => tab2 a b ?_⟩
      omega
  · rintro σ H1 ⟨v2, v3, kvs, rfl, e1, D1, hl1, tab1⟩
    rw [lxs] at hl1 tab1
    have tabD : TabD s.ops.length kvs (Ag13.direct s) := fun a b ha hb => tab1 a b ha hb
    dsimp only
    refine go_seq (go_asg ?_)
    refine comp_list (K := K) (a := ol) (l := (Ag13.all s).zip ad) (g := fun z => V.ref z.2) (p := fun _ => true) (R := fun z y _ => y = nv z.1) (by rw [zip_refs ((all_len s).trans lad)]; exact SqL.of (e1 _ _ hol)) ⟨_, rfl, rfl, rfl⟩ mono_var
      ⟨Firm.eq _, by rw [List.length_zip, all_len]; omega, fun z hz H' e kk q => q _ (Same.refl _), fun z hz hp H' e kk q => ?_⟩ ?_
    · have O : OpAt d H' z.2 z.1 (Ag13.op s z.1) := (paired_zip hops z hz).same (e1.trans e)
      exact ⟨_, rfl, (O.number C).to (q _ _ (Same.refl _) rfl)⟩
    · intro nl ys H2 e2 hnl0 hnl pr
      have ey := paired_map pr
      rw [List.filter_eq_self.mpr (fun _ _ => rfl)] at ey
      have ey2 : ys = (Ag13.all s).map nv := by
        rw [ey]
        have := filt_zip (fun _ : Nat => true) (xs := Ag13.all s) (ys := ad) ((all_len s).trans lad)
        rw [List.filter_eq_self.mpr (fun _ _ => rfl), List.filter_eq_self.mpr (fun _ _ => rfl)] at this
        conv => rhs; rw [← this]
        rw [List.map_map]
        rfl
      subst ey2
      have lns : ((Ag13.all s).map nv).length = s.ops.length := by rw [List.length_map, all_len]
      have D2 := D1.same e2
      have hnr : nl ≠ rd := ne_of hnl D2.1 (fun z => nomatch z)
      have atN : ∀ {i : Nat} {y : V}, ((Ag13.all s).map nv)[i]? = some y → y = nv i ∧ i < s.ops.length := fun {i y} h => by
        rw [List.getElem?_map] at h
        obtain ⟨m, hm, rfl⟩ := Option.map_eq_some_iff.mp h
        obtain ⟨rfl, hi⟩ := all_at hm
        exact ⟨rfl, hi⟩
      refine ⟨_, rfl, nl, rfl, ⟨_, SqL.of hnl⟩, for_list (K := K) (a := nl) (xs := (Ag13.all s).map nv)
        (fun b σ H' => ∃ (v2 v3 v5 : Option V) (kvs : List DEnt) (tab : Nat → Nat → Bool), σ = [some (.ref ol), some (.ref rd), v2, v3, some (.ref nl), v5, none] ∧ Same H H' ∧ H' nl = some (.lst ((Ag13.all s).map nv)) ∧ DictAt P w H' rd kvs ∧ kvs.length ≤ 81 + 81 * b ∧
          TabD s.ops.length kvs tab ∧ (∀ x y, tab x y = true → y < s.ops.length) ∧ TabOkW s b tab)
        ⟨_, _, none, kvs, Ag13.direct s, rfl, e1.trans e2, hnl, D2, by omega, tabD, fun x y h => direct_lt h, tab_start s⟩ (fun b σ H' _ ⟨_, _, _, _, _, _, _, h, _⟩ => SqL.of h) ?_ ?_⟩
      · rintro b y σ H3 hb ⟨v2, v3, v5, kvs, tab, rfl, e3, hn3, D3, hl3, t3, lim3, ok3⟩
        obtain ⟨rfl, hbn⟩ := atN hb
        refine ⟨_, rfl, nl, rfl, ⟨_, SqL.of hn3⟩, for_list (K := K) (a := nl) (xs := (Ag13.all s).map nv)
          (fun i σ H' => ∃ (v2 v3 : Option V) (kvs : List DEnt) (tab1 : Nat → Nat → Bool), σ = [some (.ref ol), some (.ref rd), v2, v3, some (.ref nl), some (nv b), none] ∧ Same H H' ∧ H' nl = some (.lst ((Ag13.all s).map nv)) ∧ DictAt P w H' rd kvs ∧ kvs.length ≤ 81 + 81 * b + 9 * i ∧
            TabD s.ops.length kvs tab1 ∧ (∀ x y, tab1 x y = true → y < s.ops.length) ∧ TabIn s b tab tab1 i 0)
          ⟨v2, v3, kvs, tab, rfl, e3, hn3, D3, hl3, t3, lim3, tabIn_start ok3⟩ (fun i σ H' _ ⟨_, _, _, _, _, _, h, _⟩ => SqL.of h) ?_ ?_⟩
        · rintro i y σ H4 hi ⟨v2, v3, kvs, tab1, rfl, e4, hn4, D4, hl4, t4, lim4, in4⟩
          obtain ⟨rfl, hin⟩ := atN hi
          refine ⟨_, rfl, nl, rfl, ⟨_, SqL.of hn4⟩, for_list (K := K) (a := nl) (xs := (Ag13.all s).map nv)
            (fun j σ H' => ∃ (v3 : Option V) (kvs : List DEnt) (tab1 : Nat → Nat → Bool), σ = [some (.ref ol), some (.ref rd), some (nv i), v3, some (.ref nl), some (nv b), none] ∧ Same H H' ∧ H' nl = some (.lst ((Ag13.all s).map nv)) ∧ DictAt P w H' rd kvs ∧ kvs.length ≤ 81 + 81 * b + 9 * i + j ∧
              TabD s.ops.length kvs tab1 ∧ (∀ x y, tab1 x y = true → y < s.ops.length) ∧ TabIn s b tab tab1 i j)
            ⟨v3, kvs, tab1, rfl, e4, hn4, D4, hl4, t4, lim4, in4⟩ (fun j σ H' _ ⟨_, _, _, _, _, h, _⟩ => SqL.of h) ?_ ?_⟩
          · rintro j y σ H5 hj ⟨v3, kvs, tab1, rfl, e5, hn5, D5, hl5, t5, lim5, in5⟩
            obtain ⟨rfl, hjn⟩ := atN hj
            refine ⟨_, rfl, _, rfl, _, rfl, two_sz, fun t ht => ?_⟩
            have s1 := same_new ht (.tup [nv i, nv b])
            refine ⟨rd, _, rfl, ⟨kvs, pkey i b, t, D5.same s1, rfl, pkey_at upd_same, (t5 i b hin hbn).symm⟩, _, rfl, ?_⟩
            cases hA : tab1 i b with
            | false =>
              exact iteF (iteF ⟨_, kvs, tab1, rfl, e5.trans s1, s1 _ _ hn5, D5.same s1, by omega, t5, lim5, in5.skip (by rw [hA]; rfl)⟩)
            | true =>
              refine iteT ⟨_, rfl, _, rfl, _, rfl, two_sz, fun t' ht' => ?_⟩
              have s2 := same_new ht' (.tup [nv b, nv j])
              refine ⟨rd, _, rfl, ⟨kvs, pkey b j, t', (D5.same s1).same s2, rfl, pkey_at upd_same, (t5 b j hbn hjn).symm⟩, _, rfl, ?_⟩
              cases hB : tab1 b j with
              | false =>
                exact iteF ⟨_, kvs, tab1, rfl, (e5.trans s1).trans s2, s2 _ _ (s1 _ _ hn5), (D5.same s1).same s2, by omega, t5, lim5, in5.skip (by rw [hA, hB]; rfl)⟩
              | true =>
                have s12 := s1.trans s2
                generalize upd (upd H5 t (.tup [nv i, nv b])) t' (.tup [nv b, nv j]) = H6 at s12
                refine iteT ⟨_, rfl, _, rfl, _, rfl, two_sz, fun u hu => ?_⟩
                have s3 := same_new hu (.tup [nv i, nv j])
                have D6 := D5.same s12
                refine ⟨rd, u, pkey i j, kvs, rfl, rfl, D6.same s3, pkey_at upd_same, szl (by omega), ?_⟩
                refine ⟨_, _, _, rfl, keep (e5.trans s12) hu D6, ?_, (D6.same s3).put (pkey_at upd_same) _, Nat.le_trans (length_putD ..) (by omega), t5.put i j u, fun x y h => ?_, in5.put hin hbn hjn (by rw [hA, hB]; rfl)⟩
                · rw [upd_ne hnr]; exact s3 _ _ (s12 _ _ hn5)
                · unfold putT at h
                  by_cases e : x = i ∧ y = j
                  · rw [e.2]; exact hjn
                  · rw [if_neg e] at h; exact lim5 x y h
          · rintro σ H5 ⟨v3, kvs, tab1, rfl, e5, hn5, D5, hl5, t5, lim5, in5⟩
            rw [lns] at hl5 in5
            exact ⟨_, _, kvs, tab1, rfl, e5, hn5, D5, by omega, t5, lim5, in5.row fun y h => lim3 b y h⟩
        · rintro σ H4 ⟨v2, v3, kvs, tab1, rfl, e4, hn4, D4, hl4, t4, lim4, in4⟩
          rw [lns] at hl4 in4
          exact ⟨_, _, _, kvs, tab1, rfl, e4, hn4, D4, by omega, t4, lim4, in4.next ok3 hbn⟩
      · rintro σ H3 ⟨v2, v3, v5, kvs, tab, rfl, e3, hn3, D3, hl3, t3, lim3, ok3⟩
        rw [lns] at ok3
        refine ⟨_, rfl, k H3 rd kvs e3 D3 fun i j hi hj => ?_⟩
        rw [t3 i j hi hj, tab_end ok3 hi hj]
end
end Sh

set_option Elab.async false
set_option linter.all false
set_option maxRecDepth 100000
set_option maxHeartbeats 4000000
namespace Sh
open PySem PySem.Spec PyProof.Rows L2 LamX NdefX
theorem go_ifs {c : TT} {t u : TS} {D : Ends} {σ : L2.St} {H : Hp} (h : c σ H fun b H1 => if b = true then t D σ H1 else u D σ H1) : tIfS c t u D σ H := h
theorem go_b {t : TE} {σ : L2.St} {H : Hp} {Q : Bool → Hp → Prop} (h : t σ H fun x H1 => ∃ c, x = .bl c ∧ Q c H1) : tB t σ H Q := h
theorem go_ret {te : TE} {D : Ends} {σ : L2.St} {H : Hp} (h : te σ H D.rt) : tRet te D σ H := h
theorem go_andv {ta tb : TE} {σ : L2.St} {H : Hp} {Q : VK} (h : ta σ H fun x H1 => ∃ c, x = .bl c ∧ if c = true then tb σ H1 Q else Q (.bl false) H1) : tAndV ta tb σ H Q := h
section
variable {α : Type} {K : PySem.W.Frag} {a : Addr} {i : Nat} {te : TE} {σ : L2.St} {H : Hp} {Q : VK} {l : List α} {g : α → V} {b : α → Bool}
theorem all_comp {tl : TE} (hS : SqL K H a (l.map g)) (htl : tl σ H fun x H1 => x = .ref a ∧ H1 = H) (mono : ∀ (k1 k2 : VK), (∀ v H', k1 v H' → k2 v H') → tl σ H k1 → tl σ H k2) (few : l.length < 100000)
    (elt : ∀ x ∈ l, ∀ H', Same H H' → ∀ k : VK, (∀ H'', Same H' H'' → k (.bl (b x)) H'') → te ((wipe σ [i]).set i (some (g x))) H' k)
    (hq : ∀ H', Same H H' → Q (.bl (l.all b)) H') : tCB (rAll K) (tCons (tLc (iList K tl) (gName i) tYes te [i]) tNil) σ H Q := by
  refine go_cb ?_
  refine comp_list (K := K) (a := a) (l := l) (g := g) (p := fun _ => true) (R := fun x y _ => y = V.bl (b x)) hS htl mono ⟨Firm.eq _, few, fun x hx H' e kk q => q _ (Same.refl _), fun x hx _ H' e kk q => elt x hx H' e kk fun H'' e2 => q _ _ e2 rfl⟩ ?_
  intro D ys H' e hD hy pr
  have ey := paired_map pr
  rw [List.filter_eq_self.mpr (fun _ _ => rfl)] at ey
  subst ey
  refine ⟨D, l.map b, rfl, SqL.of (by rw [hy, List.map_map]; rfl), ?_⟩
  rw [List.all_map]
  exact hq H' e
theorem any_comp {tl : TE} (hS : SqL K H a (l.map g)) (htl : tl σ H fun x H1 => x = .ref a ∧ H1 = H) (mono : ∀ (k1 k2 : VK), (∀ v H', k1 v H' → k2 v H') → tl σ H k1 → tl σ H k2) (few : l.length < 100000)
    (elt : ∀ x ∈ l, ∀ H', Same H H' → ∀ k : VK, (∀ H'', Same H' H'' → k (.bl (b x)) H'') → te ((wipe σ [i]).set i (some (g x))) H' k)
    (hq : ∀ H', Same H H' → Q (.bl (l.any b)) H') : tCB (rAny K) (tCons (tLc (iList K tl) (gName i) tYes te [i]) tNil) σ H Q := by
  refine go_cb ?_
  refine comp_list (K := K) (a := a) (l := l) (g := g) (p := fun _ => true) (R := fun x y _ => y = V.bl (b x)) hS htl mono ⟨Firm.eq _, few, fun x hx H' e kk q => q _ (Same.refl _), fun x hx _ H' e kk q => elt x hx H' e kk fun H'' e2 => q _ _ e2 rfl⟩ ?_
  intro D ys H' e hD hy pr
  have ey := paired_map pr
  rw [List.filter_eq_self.mpr (fun _ _ => rfl)] at ey
  subst ey
  refine ⟨D, l.map b, rfl, SqL.of (by rw [hy, List.map_map]; rfl), ?_⟩
  rw [List.any_map]
  exact hq H' e
theorem any_compT {tl : TE} (hS : SqT K H a (l.map g)) (htl : tl σ H fun x H1 => x = .ref a ∧ H1 = H) (mono : ∀ (k1 k2 : VK), (∀ v H', k1 v H' → k2 v H') → tl σ H k1 → tl σ H k2) (few : l.length < 100000)
    (elt : ∀ x ∈ l, ∀ H', Same H H' → ∀ k : VK, (∀ H'', Same H' H'' → k (.bl (b x)) H'') → te ((wipe σ [i]).set i (some (g x))) H' k)
    (hq : ∀ H', Same H H' → Q (.bl (l.any b)) H') : tCB (rAny K) (tCons (tLc (iTup K tl) (gName i) tYes te [i]) tNil) σ H Q := by
  refine go_cb ?_
  refine comp_tup (K := K) (a := a) (l := l) (g := g) (p := fun _ => true) (R := fun x y _ => y = V.bl (b x)) hS htl mono ⟨Firm.eq _, few, fun x hx H' e kk q => q _ (Same.refl _), fun x hx _ H' e kk q => elt x hx H' e kk fun H'' e2 => q _ _ e2 rfl⟩ ?_
  intro D ys H' e hD hy pr
  have ey := paired_map pr
  rw [List.filter_eq_self.mpr (fun _ _ => rfl)] at ey
  subst ey
  refine ⟨D, l.map b, rfl, SqL.of (by rw [hy, List.map_map]; rfl), ?_⟩
  rw [List.any_map]
  exact hq H' e
end
theorem paired_split {α : Type} {R : α → Addr → Prop} : ∀ {xs : List α} {ys : List V}, Paired (fun x y => ∃ p, y = V.ref p ∧ R x p) xs ys → ∃ ws : List (α × Addr), ws.map (·.1) = xs ∧ ys = ws.map (fun z => V.ref z.2) ∧ ∀ z ∈ ws, R z.1 z.2
  | _, _, .nil => ⟨[], rfl, rfl, fun z hz => by simp at hz⟩
  | x :: xs, _, .cons ⟨p, e, r⟩ t => by
    obtain ⟨ws, h1, h2, h3⟩ := paired_split t
    refine ⟨(x, p) :: ws, by rw [List.map_cons, h1], by rw [e, h2]; rfl, fun z hz => ?_⟩
    rcases List.mem_cons.mp hz with rfl | hz
    · exact r
    · exact h3 z hz
theorem zip_any {ad : List Addr} {xs : List Nat} (f : Nat → Bool) (h : xs.length = ad.length) : (xs.zip ad).any (fun z => f z.1) = xs.any f := by
  have : (xs.zip ad).map (·.1) = xs := by
    have := filt_zip (fun _ : Nat => true) h
    rwa [List.filter_eq_self.mpr (fun _ _ => rfl), List.filter_eq_self.mpr (fun _ _ => rfl)] at this
  conv => rhs; rw [← this, List.any_map]
  rfl
theorem zip_all {ad : List Addr} {xs : List Nat} (f : Nat → Bool) (h : xs.length = ad.length) : (xs.zip ad).all (fun z => f z.1) = xs.all f := by
  have : (xs.zip ad).map (·.1) = xs := by
    have := filt_zip (fun _ : Nat => true) h
    rwa [List.filter_eq_self.mpr (fun _ _ => rfl), List.filter_eq_self.mpr (fun _ _ => rfl)] at this
  conv => rhs; rw [← this, List.all_map]
  rfl
theorem any_not {α : Type} (f : α → Bool) (l : List α) : (l.any fun x => !(f x)) = !(l.all f) := by
  induction l with
  | nil => rfl
  | cons x l ih => rw [List.any_cons, List.all_cons, ih, Bool.not_and]
theorem in_two (n : Nat) : inV (nv n) [V.int 0, V.int 1] = decide (n ≤ 1) := by
  have h := inV_nv n [0, 1]
  have e : ([0, 1] : List Nat).map nv = [V.int 0, V.int 1] := rfl
  rw [e] at h
  rw [h, Bool.eq_iff_iff]
  simp
  omega
section
variable {P : Program} {w : World} {K : PySem.W.Frag} {mg : Str → Option Value} {base : Heap} {d : Ad} {T0 : List (Addr × Str)} {c1 c2 : Addr}
def spIsAsked (d : Ad) : Sp := fun vs H Q _ => ∃ (a : Addr) (s : Ag13.State) (tm : Nat) (kt ol : Addr) (ad : List Addr), vs = [.ref a] ∧ HistN d H a s (Ag13.all s) tm kt ol ad ∧ Good s (Ag13.all s) ∧ ∀ H', Same H H' → Q (.bl (Ag13.simple s)) H'
theorem ok_is_asked {f f1 : Addr} {fd d1 : FuncData} (F : Fun K "is_asked" "is_asked" s_is_asked f fd) (T : Tx K mg d) (C : Tc K d) (o_is_write : OkD P w K mg base 1 "is_write" ["operation"] (spIsWrite d) f1 d1) : FnOk P w K mg base CX0 2 f fd ["history"] (spIsAsked d) := by
  refine F.ok sc_is_asked (fun vs H Q E h => ?_) (fun cdv A outer s H vs Q E hr h => ?_)
  · obtain ⟨a, s, tm, kt, ol, ad, rfl, _⟩ := h; rfl
  obtain ⟨a, s, tm, kt, ol, ad, rfl, X, g, k⟩ := h
  refine ⟨_, (pss_cons (ps_if (pt_val (pe_callB (cr_any rfl) (by rfl) T.any (by decide +kernel) (pa_cons (by exact (pe_lc (own := [("kind", 3)]) (g := gName 3) (by rfl) sc_is_asked.nd (pi_tup (pe_fld (pv 0) rfl)) (blkOk_by (own := [("kind", 3)]) (N := ["history", "written", "operation", "kind", "pair"]) (sc := defScope s_is_asked) (by decide +kernel)) (fun _ _ _ _ _ => pg_name (i := 3) sc_is_asked.nd rfl (Or.inl rfl)) (fun _ _ _ _ _ => by exact pts_nil) (fun _ _ _ _ _ => by exact (pe_cmpR op_ne (pv 3) (pe_gi T.g_CELL) (nomark _))))) pa_nil))) (pss_one (ps_ret pe_bl)) pss_nil) (pss_cons (ps_if (pt_val (pe_callB (cr_any rfl) (by rfl) T.any (by decide +kernel) (pa_cons (by exact (pe_lc (own := [("operation", 2)]) (g := gName 2) (te := (tOp (rIn K true) (tFld K (tVar 2) "action") (tTup (tCons (tC _) (tCons (tC _) tNil))))) (by rfl) sc_is_asked.nd (pi_list (pe_fld (pv 0) rfl)) (blkOk_by (own := [("operation", 2)]) (N := ["history", "written", "operation", "kind", "pair"]) (sc := defScope s_is_asked) (by decide +kernel)) (fun _ _ _ _ _ => pg_name (i := 2) sc_is_asked.nd rfl (Or.inl rfl)) (fun _ _ _ _ _ => by exact pts_nil) (fun _ _ _ _ _ => by exact (pe_cmpR op_notIn_seq (pe_fld (pv 2) rfl) (pe_tup (pa_cons (pe_gi T.g_READ) (pa_cons (pe_gi T.g_WRITE) pa_nil))) (by rfl))))) pa_nil))) (pss_one (ps_ret pe_bl)) pss_nil) (pss_cons (ps_setLc (i := 1) (own := [("operation", 2)]) (g := gName 2) (te := (tTup (tCons (tFld K (tVar 2) "thing") (tCons (tFld K (tVar 2) "a") tNil)))) (by rfl) sc_is_asked.nd rfl rfl (sw_true rfl rfl rfl (by decide +kernel)) (pi_list (pe_fld (pv 0) rfl)) (blkOk_by (own := [("operation", 2)]) (N := ["history", "written", "operation", "kind", "pair"]) (sc := defScope s_is_asked) (by decide +kernel)) (fun _ _ _ _ _ => pg_name (i := 2) sc_is_asked.nd rfl (Or.inl rfl)) (fun _ _ _ _ _ => by exact (pts_one (pt_val (pe_cd o_is_write (hr.mono (by omega)) (pa_cons (pv 2) pa_nil))))) (fun _ _ _ _ _ => by exact (pe_tup (pa_cons (pe_fld (pv 2) rfl) (pa_cons (pe_fld (pv 2) rfl) pa_nil))))) (pss_one (ps_ret (pe_and (pe_callB (cr_all rfl) (by rfl) T.all (by decide +kernel) (pa_cons (by exact (pe_lc (own := [("pair", 4)]) (g := gName 4) (te := (tOp _ (tOp (rIxT K) (tVar 4) (tC (.int 1))) (tC (.int 0)))) (by rfl) sc_is_asked.nd (pi_list (pv 1)) (blkOk_by (own := [("pair", 4)]) (N := ["history", "written", "operation", "kind", "pair"]) (sc := defScope s_is_asked) (by decide +kernel)) (fun _ _ _ _ _ => pg_name (i := 4) sc_is_asked.nd rfl (Or.inl rfl)) (fun _ _ _ _ _ => by exact pts_nil) (fun _ _ _ _ _ => by exact (pe_cmpR op_ne (pe_ix ix_tup (pv 4) pe_int (fun _ _ => rfl)) pe_int (nomark _))))) pa_nil)) (pe_one (pe_cmpR op_eq (pe_lenST hr.units rfl (by rfl) T.len (by rfl) T.set (pv 1)) (pe_callB call_len_seq (by rfl) T.len PySem.boot_len (pa_cons (pv 1) pa_nil)) (nomark _))))))))), ?_⟩
  have lad : (Ag13.all s).length = ad.length := Paired.length X.opsIn
  have few : ((Ag13.all s).zip ad).length < 100000 := by rw [List.length_zip]; have := g.len; omega
  rw [simple_eq] at k
  -- the kinds
  refine go_seq (go_ifs (go_b ?_))
  refine any_compT (l := s.kinds) (g := nv) (b := fun n => !(n == 0)) (SqT.of X.kt) ⟨_, rfl, (X.fKinds C).to ⟨rfl, rfl⟩⟩ (mono_fld mono_var) (by have := g.few; omega) (fun x hx H' e kk q => ?_) fun H1 e1 => ⟨_, rfl, ?_⟩
  · refine ⟨_, rfl, rfl, ?_⟩
    have ed : decide (nv x = V.int 0) = (x == 0) := dec_nv x 0
    rw [ed]
    exact q _ (Same.refl _)
  rw [any_not]
  cases h1 : s.kinds.all fun n => n == 0 with
  | false =>
    rw [h1, Bool.false_and] at k
    exact iteT (k _ e1)
  | true =>
  rw [h1, Bool.true_and] at k
  refine iteF (go_nx ?_)
  have X1 : HistN d H1 a s (Ag13.all s) tm kt ol ad := X.same e1
  -- the operations
  dsimp only
  refine go_seq (go_ifs (go_b ?_))
  refine any_comp (l := (Ag13.all s).zip ad) (g := fun z => V.ref z.2) (b := fun z => !(decide ((Ag13.op s z.1).op ≤ 1))) (by rw [zip_refs lad]; exact SqL.of X1.ol) ⟨_, rfl, (X1.fOps C).to ⟨rfl, rfl⟩⟩ (mono_fld mono_var) few (fun z hz H' e kk q => ?_) fun H2 e2 => ⟨_, rfl, ?_⟩
  · have O : OpAt d H' z.2 z.1 (Ag13.op s z.1) := (paired_zip X1.opsIn z hz).same e
    refine ⟨_, rfl, (O.action C).to ⟨two_sz, fun p hp => ⟨p, _, rfl, .inr (SqT.of upd_same), rfl, rfl, ?_⟩⟩⟩
    have ed : (!inV (nv (Ag13.op s z.1).op) [V.int 0, V.int 1]) = !(decide ((Ag13.op s z.1).op ≤ 1)) := by rw [in_two]
    rw [if_pos rfl, ed]
    exact q _ (same_new hp _)
  rw [zip_any (fun n => !(decide ((Ag13.op s n).op ≤ 1))) lad, any_not]
  have e12 := e1.trans e2
  cases h2 : (Ag13.all s).all fun n => decide ((Ag13.op s n).op ≤ 1) with
  | false =>
    rw [h2, Bool.false_and] at k
    exact iteT (k _ e12)
  | true =>
  rw [h2, Bool.true_and] at k
  refine iteF (go_nx ?_)
  have X2 : HistN d H2 a s (Ag13.all s) tm kt ol ad := X1.same e2
  -- what is written
  dsimp only
  refine go_seq (go_asg ?_)
  refine comp_list (K := K) (a := ol) (l := (Ag13.all s).zip ad) (g := fun z => V.ref z.2) (p := fun z => (Ag13.op s z.1).op == 1) (R := fun z y H' => ∃ p, y = V.ref p ∧ H' p = some (.tup [nv (Ag13.op s z.1).thing, nv (Ag13.op s z.1).a])) (by rw [zip_refs lad]; exact SqL.of X2.ol) ⟨_, rfl, (X2.fOps C).to ⟨rfl, rfl⟩⟩ (mono_fld mono_var)
    ⟨fun x y D acc G1 G2 hD hk ⟨p, e, hp⟩ => ⟨p, e, hk _ _ (ne_of hp hD (fun z => nomatch z)) hp⟩, few, fun z hz H' e kk q => ?_, fun z hz hp H' e kk q => ?_⟩ ?_
  · have O : OpAt d H' z.2 z.1 (Ag13.op s z.1) := (paired_zip X2.opsIn z hz).same e
    exact ⟨_, rfl, z.2, z.1, _, rfl, O, _, rfl, q _ (Same.refl _)⟩
  · have O : OpAt d H' z.2 z.1 (Ag13.op s z.1) := (paired_zip X2.opsIn z hz).same e
    exact ⟨_, rfl, (O.thing C).to ⟨_, rfl, (O.fa C).to ⟨two_sz, fun p hp => q _ _ (same_new hp _) ⟨p, rfl, upd_same⟩⟩⟩⟩
  intro wr ys H3 e3 hwr0 hwr pr
  obtain ⟨ws, hw1, rfl, hw3⟩ := paired_split (R := fun (z : Nat × Addr) p => H3 p = some (.tup [nv (Ag13.op s z.1).thing, nv (Ag13.op s z.1).a])) pr
  have hwo : writesOf s = ws.map fun z => z.1.1 := by
    unfold writesOf
    rw [← filt_zip (fun i => (Ag13.op s i).op == 1) lad, ← hw1, List.map_map]
    rfl
  have lws : ws.length ≤ 9 := by
    have z := congrArg List.length hwo
    rw [List.length_map] at z
    rw [← z]
    exact Nat.le_trans (List.length_filter_le ..) g.len
  have e123 := e12.trans e3
  dsimp only
  refine go_ret (go_andv ?_)
  refine all_comp (l := ws) (g := fun z => V.ref z.2) (b := fun z => (Ag13.op s z.1.1).a != 0) (SqL.of hwr) ⟨_, rfl, rfl, rfl⟩ mono_var (by omega) (fun z hz H' e kk q => ?_) fun H4 e4 => ⟨_, rfl, ?_⟩
  · refine ⟨_, rfl, z.2, _, _, nv (Ag13.op s z.1.1).a, rfl, rfl, SqT.of (e _ _ (hw3 z hz)), rfl, rfl, ?_⟩
    have ed : decide (nv (Ag13.op s z.1.1).a = V.int 0) = ((Ag13.op s z.1.1).a == 0) := dec_nv _ 0
    rw [ed]
    exact q _ (Same.refl _)
  have hA : ((writesOf s).all fun i => (Ag13.op s i).a != 0) = ws.all fun z => (Ag13.op s z.1.1).a != 0 := by
    rw [hwo, List.all_map]
    rfl
  rw [hA] at k
  cases h3 : ws.all fun z => (Ag13.op s z.1.1).a != 0 with
  | false =>
    rw [h3, Bool.false_and] at k
    exact iteF (k _ (e123.trans e4))
  | true =>
  rw [h3, Bool.true_and] at k
  have hwr4 := e4 _ _ hwr
  refine iteT ⟨_, rfl, wr, ws.map fun z => (z.2, wPair s z.1.1), rfl, ?_, ?_, by rw [List.length_map]; omega, fun m hm => ?_⟩
  · rw [List.map_map]; exact SqL.of hwr4
  · intro p hp
    obtain ⟨z, hz, rfl⟩ := List.mem_map.mp hp
    exact SqT.of (e4 _ _ (hw3 z hz))
  refine ⟨_, rfl, wr, _, rfl, .inl (SqL.of hwr4), rfl, ?_⟩
  have ed : decide (V.int (m : Int) = V.int ((ws.map fun z => V.ref z.2).length : Int)) = decide (((writesOf s).map (wPair s)).Nodup) := by
    refine decide_eq_decide.mpr ?_
    rw [hwo, List.map_map, List.length_map]
    rw [List.length_map, List.map_map] at hm
    refine Iff.trans ⟨fun z => ?_, fun z => by rw [z]⟩ hm
    injection z with z
    omega
  rw [ed]
  exact k _ (e123.trans e4)
end
end Sh

set_option Elab.async false
set_option linter.all false
set_option maxRecDepth 100000
set_option maxHeartbeats 4000000
namespace Sh
open PySem PySem.Spec PyProof.Rows L2 LamX NdefX
theorem scLam2 : NScope ["one", "other", "reached"] ["one", "other"] ["reached"] { kind := .function, names := [("one", .local), ("other", .local), ("reached", .free)], isGenerator := false, isCoroutine := false } := nscope_by (by decide +kernel)
theorem KeyAt.ext {H H' : Hp} {k : DKey} {b : Addr} (e : ExtN H H') (x : KeyAt H k b) : KeyAt H' k b := x.keeps fun b ys q => e _ _ q (fun _ z => nomatch z)
theorem DictAt.ext {P : Program} {w : World} {H H' : Hp} {a : Addr} {kvs : List DEnt} (e : ExtN H H') (x : DictAt P w H a kvs) : DictAt P w H' a kvs := ⟨e _ _ x.1 (fun _ z => nomatch z), fun y hy => (x.2 y hy).ext e⟩
section
variable {P : Program} {w : World} {K : PySem.W.Frag} {mg : Str → Option Value} {base : Heap} {d : Ad} {T0 : List (Addr × Str)} {c1 c2 : Addr}
def writesAnd (s : Ag13.State) (c : Nat) : List Nat := (Ag13.all s).filter fun i => (Ag13.op s i).op == 1 || (Ag13.op s i).client == c
def cameB (s : Ag13.State) (c : Nat) : Bool := (Ag13.explained s (reachB s) (fun i => [c].contains (Ag13.op s i).client) (writesAnd s c)).isSome
def spCame (P : Program) (w : World) (T0 : List (Addr × Str)) (d : Ad) : Sp := fun vs H Q _ => ∃ (a rd : Addr) (c : Nat) (s : Ag13.State) (tm : Nat) (kt ol : Addr) (ad : List Addr) (kvs : List DEnt), vs = [.ref a, nv c, .ref rd] ∧ HistN d H a s (Ag13.all s) tm kt ol ad ∧ Good s (Ag13.all s) ∧ DictAt P w H rd kvs ∧ TabD s.ops.length kvs (reachB s) ∧ Tabs T0 H ∧
  ∀ H', ExtN H H' → Tabs T0 H' → Q (.bl (cameB s c)) H'
theorem ok_came {f f1 f2 : Addr} {fd d1 d2 : FuncData} (F : FunC K "came_about_for" "came_about_for" s_came_about_for f fd c2) (T : Tx K mg d) (C : Tc K d) (TO : TabsOk base mg T0 c1 c2)
    (o_first_row : OkD P w K mg base 23 "first_row" ["kinds", "given", "rule", "counted"] (spRow P w K mg base d) f1 d1) (o_is_write : OkD P w K mg base 1 "is_write" ["operation"] (spIsWrite d) f2 d2) :
    FnOk P w K mg base CX0 24 f fd ["history", "client", "reached"] (spCame P w T0 d) := by
  obtain ⟨P1, TB, hTm, hTu⟩ := TO.ex2
  refine F.ok sc_came_about_for (fun vs H Q E h => ?_) (fun A outer s H vs Q E hr h => ?_)
  · obtain ⟨a, rd, c, s, tm, kt, ol, ad, kvs, rfl, _⟩ := h; rfl
  obtain ⟨a, rd, cl, s, tm, kt, ol, ad, kvs, rfl, X, g, D, tabD, hT, k⟩ := h
  refine ⟨_, (pss_cons (ps_setLc (i := 3) (own := [("operation", 5)]) (g := gName 5) (tt := (tOr (tB (tCall _ [] E0 (tCons (tVar 5) tNil))) (tTest (tOp _ (tFld K (tVar 5) "client") (tVar 1))))) (by rfl) sc_came_about_for.nd rfl rfl (sw_true rfl rfl rfl (by decide +kernel)) (pi_list (pe_fld (pv 0) rfl)) (blkOk_by (own := [("operation", 5)]) (N := ["history", "client", "reached", "given", "row", "operation"]) (sc := defScope s_came_about_for) (by decide +kernel)) (fun _ _ _ _ _ => pg_name (i := 5) sc_came_about_for.nd rfl (Or.inl rfl)) (fun _ _ _ _ _ => by exact (pts_one (PW.pt (pw_or (pt_val (pe_cd o_is_write (hr.mono (by omega)) (pa_cons (pv 5) pa_nil))) (pw_or1 (pt_cmpR op_eq (pe_fld (pv 5) rfl) (pv 1) (nomark _))))))) (fun _ _ _ _ _ => by exact (pv 5))) (pss_cons (ps_set (i := 4) sc_came_about_for.nd rfl (by first | exact Or.inl rfl | exact Or.inr rfl) (pe_cdC (y := "reached") (j := 2) o_first_row (hr.mono (by omega)) (pa_cons (pe_fld (pv 0) rfl) (pa_cons (pv 3) (pa_cons (pe_lam TB rfl hTm hTu (ndef_free (sc := defScope s_came_about_for) (fr := ["reached"]) (by decide +kernel))) (pa_cons (pe_tup (pa_cons (pv 1) pa_nil)) pa_nil)))) rfl rfl rfl)) (pss_one (ps_ret (pe_cmpR op_notN (pv 4) pe_non (nomark _)))))), ?_⟩
  have lad : (Ag13.all s).length = ad.length := Paired.length X.opsIn
  refine go_seq (go_asg ?_)
  refine comp_list (K := K) (a := ol) (l := (Ag13.all s).zip ad) (g := fun z => V.ref z.2) (p := fun z => (Ag13.op s z.1).op == 1 || (Ag13.op s z.1).client == cl) (R := fun z y _ => y = V.ref z.2) (by rw [zip_refs lad]; exact SqL.of X.ol) ⟨_, rfl, (X.fOps C).to ⟨rfl, rfl⟩⟩ (mono_fld mono_var)
    ⟨Firm.eq _, by rw [List.length_zip]; have := g.len; omega, fun z hz H' e kk q => ?_, fun z hz hp H' e kk q => ⟨_, rfl, q _ _ (Same.refl _) rfl⟩⟩ ?_
  · have O : OpAt d H' z.2 z.1 (Ag13.op s z.1) := (paired_zip X.opsIn z hz).same e
    refine ⟨_, rfl, z.2, z.1, _, rfl, O, _, rfl, ?_⟩
    have q2 := q _ (Same.refl _)
    cases h1 : ((Ag13.op s z.1).op == 1) with
    | true => rw [h1, Bool.true_or] at q2; exact iteT q2
    | false =>
      rw [h1, Bool.false_or] at q2
      refine iteF ⟨_, rfl, (O.client C).to ⟨_, rfl, rfl, _, rfl, ?_⟩⟩
      rw [dec_nv]
      exact q2
  intro gl ys H1 e1 hgl0 hgl pr
  have ey := paired_map pr
  subst ey
  have X1 : HistN d H1 a s (Ag13.all s) tm kt ol ad := X.same e1
  refine ⟨_, rfl, (X1.fKinds C).to ⟨_, rfl, hT.ext e1, fun fl c' H2 eN T2 f0 l1 cc1 => ⟨_, rfl, one_sz, fun ct hct => ?_⟩⟩⟩
  have e3 := same_new hct (.tup [nv cl])
  have hct3 : upd H2 ct (.tup [nv cl]) ct = some (.tup [nv cl]) := upd_same
  generalize upd H2 ct (.tup [nv cl]) = H3 at e3 hct3
  have e13 : ExtN H1 H3 := eN.trans (ExtN.of e3)
  have eH3 : ExtN H H3 := (ExtN.of e1).trans e13
  refine ⟨_, rfl, fun c o u hc hn ru hd => ?_⟩
  have up : Same H3 (upd H3 c (cellO o)) := same_new hn _
  have e14 : ExtN H1 (upd H3 c (cellO o)) := e13.trans (ExtN.of up)
  have hops : OpsIn d (upd H3 c (cellO o)) s (writesAnd s cl) (((((Ag13.all s).zip ad).filter fun z => (Ag13.op s z.1).op == 1 || (Ag13.op s z.1).client == cl)).map (·.2)) := by
    have := paired_of_zip (R := fun (n : Nat) (p : Addr) => OpAt d (upd H3 c (cellO o)) p n (Ag13.op s n)) (f := fun z : Nat × Addr => z.1) (g := fun z => z.2) (zs := ((Ag13.all s).zip ad).filter fun z => (Ag13.op s z.1).op == 1 || (Ag13.op s z.1).client == cl) fun z hz => (paired_zip X1.opsIn z (List.mem_filter.mp hz).1).ext e14
    rwa [filt_zip (fun i => (Ag13.op s i).op == 1 || (Ag13.op s i).client == cl) lad] at this
  have g2 : Good s (writesAnd s cl) := g.sub List.filter_sublist
  have hsub : ∀ n ∈ writesAnd s cl, n < s.ops.length := fun n hn => List.mem_range.mp (List.mem_filter.mp hn).1
  refine ⟨kt, gl, fl, ct, lamG fl c o _ (fun H' => DictAt P w H' rd kvs), s, _, ⟨fun q r => reachB s q.1 r.1, [cl]⟩, _, rfl, ?rule, ⟨up _ _ (e3 _ _ l1), up _ _ (e3 _ _ cc1), upd_same, (D.ext eH3).same up⟩, SqT.of (up _ _ hct3), e14 _ _ X1.kt (fun _ z => nomatch z), (e14 _ _ hgl (fun _ z => nomatch z)).trans (by rw [List.map_map]; rfl), hops, g2, fun H5 e5 => ?_⟩
  case rule =>
    have clo := clo_one (names := [((("one" : Str), NameKind.local)), ("other", NameKind.local), ("reached", NameKind.free)]) (by decide +kernel) (by decide +kernel) hc
    refine rule_lam (k := 2) (N := ["one", "other", "reached"]) (ps := ["one", "other"]) (y := "reached") (v := .ref rd) scLam2 (fun _ _ us hl => match us, hl with | [_, _], _ => rfl) (fun vs H Q h => ?_) clo.1 clo.2 ru hd (fun hst D => ⟨hst _ _ D.1 (fun _ _ _ z => nomatch z), fun y hy => (D.2 y hy).keeps fun b ys q => hst _ _ q (fun _ _ _ z => nomatch z)⟩) fun A outer s1 H vs Q hr hcc D h => ?_
    · obtain ⟨_, _, _, _, _, _, rfl, _⟩ := h; rfl
    · obtain ⟨p, p', n, n', o1, o2, rfl, hn1, hn2, O1, O2, kk⟩ := h
      refine ⟨_, (pe_ddget (hu4 hr) (pv 2) (pe_tup (pa_cons (pe_fld (pv 0) rfl) (pa_cons (pe_fld (pv 1) rfl) pa_nil))) (fun _ _ => rfl)), ?_⟩
      have dD : DictAt P w (drop c H) rd kvs := D.keeps (drop_ne (ne_of D.1 hcc (fun z => nomatch z))) fun b ys q => (drop_ne (ne_of q hcc (fun z => nomatch z))).trans q
      refine ⟨_, rfl, _, rfl, ((opAt_drop O1 hcc).number C).to ⟨_, rfl, ((opAt_drop O2 hcc).number C).to ⟨two_sz, fun t ht => ?_⟩⟩⟩
      refine ⟨rd, _, rfl, ⟨kvs, pkey n n', t, dD.same (same_new ht _), rfl, pkey_at upd_same, (tabD n n' (hsub n hn1) (hsub n' hn2)).symm⟩, ?_⟩
      refine kk _ fun b u q => ?_
      by_cases hb : b = c
      · subst hb
        rw [upd_same, ← hcc]
        exact q
      · have q' : drop c H b = some u := (drop_ne hb).trans q
        rw [upd_ne hb, upd_ne (ne_of_none q' ht)]
        exact q'
  have eF : ExtN H (drop c H5) := fun b u z n => by
    have z2 := eH3 _ _ z n
    rw [drop_ne (ne_of_none z2 hn)]
    exact e5 _ _ (up _ _ z2)
  have TF : Tabs T0 (drop c H5) := (T2.ext e3).ext fun b u z => by
    rw [drop_ne (ne_of_none z hn)]
    exact e5 _ _ (up _ _ z)
  have kf := k _ eF TF
  unfold cameB at kf
  show Told _ H5 [] (Ag13.explained s (reachB s) (fun i => [cl].contains (Ag13.op s i).client) (writesAnd s cl))
  cases hx : Ag13.explained s (reachB s) (fun i => [cl].contains (Ag13.op s i).client) (writesAnd s cl) with
  | none => rw [hx] at kf; exact fun _ => ⟨_, rfl, rfl, kf⟩
  | some l => rw [hx] at kf; exact fun r' hr' _ => ⟨_, rfl, rfl, kf⟩
theorem causal_four (s : Ag13.State) : Ag13.causal s = (List.range 4).all (cameB s) := causal_eq s
def spCausal (T0 : List (Addr × Str)) (d : Ad) : Sp := fun vs H Q _ => ∃ (a : Addr) (s : Ag13.State) (tm : Nat) (kt ol : Addr) (ad : List Addr), vs = [.ref a] ∧ HistN d H a s (Ag13.all s) tm kt ol ad ∧ Good s (Ag13.all s) ∧ Tabs T0 H ∧
  ∀ H', ExtN H H' → Tabs T0 H' → Q (.int (if Ag13.simple s = true then bitV (Ag13.causal s) else -6)) H'
theorem four_at {i : Nat} {x : V} (h : (([0, 1, 2, 3] : List Int).map V.int)[i]? = some x) : x = nv i ∧ i < 4 := by
  match i, h with
  | 0, h => exact ⟨(Option.some.inj h).symm, by decide⟩
  | 1, h => exact ⟨(Option.some.inj h).symm, by decide⟩
  | 2, h => exact ⟨(Option.some.inj h).symm, by decide⟩
  | 3, h => exact ⟨(Option.some.inj h).symm, by decide⟩
  | i + 4, h => cases h
theorem ok_causal {f f1 f2 f3 : Addr} {fd d1 d2 d3 : FuncData} (F : Fun K "causal" "causal" s_causal f fd) (T : Tx K mg d) (C : Tc K d) (o_is_asked : OkD P w K mg base 2 "is_asked" ["history"] (spIsAsked d) f1 d1)
    (o_followed : OkD P w K mg base 4 "followed" ["operations"] (spFollowed P w d) f2 d2) (o_came_about_for : OkD P w K mg base 24 "came_about_for" ["history", "client", "reached"] (spCame P w T0 d) f3 d3) :
    FnOk P w K mg base CX0 25 f fd ["history"] (spCausal T0 d) := by
  refine F.ok sc_causal (fun vs H Q E h => ?_) (fun cdv A outer s H vs Q E hr h => ?_)
  · obtain ⟨a, s, tm, kt, ol, ad, rfl, _⟩ := h; rfl
  obtain ⟨a, s, tm, kt, ol, ad, rfl, X, g, hT, k⟩ := h
  refine ⟨_, (pss_cons (ps_if (pt_not (pt_val (pe_cd o_is_asked (hr.mono (by omega)) (pa_cons (pv 0) pa_nil)))) (pss_one (ps_ret (pe_gi T.g_NOT_ASKED))) pss_nil) (pss_cons (ps_set (i := 1) sc_causal.nd rfl (by first | exact Or.inl rfl | exact Or.inr rfl) (pe_cd o_followed (hr.mono (by omega)) (pa_cons (pe_fld (pv 0) rfl) pa_nil))) (pss_cons (ps_for PassesOwn.never rfl (pi_tup (pe_gt T.g_CLIENTS)) (pg_name (i := 2) sc_causal.nd rfl (by first | exact Or.inl rfl | exact Or.inr rfl)) (pss_one (ps_if (pt_not (pt_val (pe_cd o_came_about_for (hr.mono (by omega)) (pa_cons (pv 0) (pa_cons (pv 2) (pa_cons (pv 1) pa_nil)))))) (pss_one (ps_ret pe_int)) pss_nil))) (pss_one (ps_ret pe_int))))), ?_⟩
  refine ⟨_, rfl, a, s, tm, kt, ol, ad, rfl, X, g, fun H1 e1 => ⟨_, rfl, ?_⟩⟩
  cases hs : Ag13.simple s with
  | false =>
    have k2 := k _ (ExtN.of e1) (hT.ext e1)
    rw [hs] at k2
    exact iteT k2
  | true =>
    rw [hs] at k
    have X1 : HistN d H1 a s (Ag13.all s) tm kt ol ad := X.same e1
    refine iteF ⟨_, rfl, (X1.fOps C).to ⟨ol, s, ad, rfl, X1.ol, X1.opsIn, by rw [← all_len]; exact g.len, fun H2 rd kvs e2 D2 tab2 => ?_⟩⟩
    have eH := ExtN.of (e1.trans e2)
    have kf : ∀ H', ExtN H H' → Tabs T0 H' → Q (.int (bitV ((List.range 4).all (cameB s)))) H' := fun H' e t => by
      have k2 := k H' e t
      rw [if_pos rfl, causal_four] at k2
      exact k2
    refine ⟨d.aC, rfl, ⟨_, T.g_CLIENTS.sq _⟩, for_tup (K := K) (a := d.aC) (xs := ([0, 1, 2, 3] : List Int).map V.int)
      (fun i σ H' => ∃ v : Option V, σ = [some (.ref a), some (.ref rd), v] ∧ ExtN H2 H' ∧ Tabs T0 H' ∧ ∀ j, j < i → cameB s j = true)
      ⟨none, rfl, ExtN.refl _, (hT.ext e1).ext e2, fun j hj => absurd hj (by omega)⟩ (fun i σ H' _ _ => T.g_CLIENTS.sq _) ?_ ?_⟩
    · rintro i x σ H3 hi ⟨v, rfl, e3, t3, hall⟩
      obtain ⟨rfl, hi4⟩ := four_at hi
      refine ⟨_, rfl, _, rfl, _, rfl, a, rd, i, s, tm, kt, ol, ad, kvs, rfl, (X.ext eH).ext e3, g, D2.ext e3, tab2, t3, fun H4 e4 t4 => ⟨_, rfl, ?_⟩⟩
      cases hx : cameB s i with
      | true =>
        refine iteF ⟨_, rfl, e3.trans e4, t4, fun j hj => ?_⟩
        rcases Nat.lt_or_eq_of_le (Nat.le_of_lt_succ hj) with hj | rfl
        · exact hall j hj
        · exact hx
      | false =>
        have z : (List.range 4).all (cameB s) = false := by
          rw [Bool.eq_false_iff]
          intro z
          have := List.all_eq_true.mp z i (List.mem_range.mpr hi4)
          rw [hx] at this; cases this
        have k2 := kf H4 ((eH.trans e3).trans e4) t4
        rw [z] at k2
        exact iteT k2
    · rintro σ H3 ⟨v, rfl, e3, t3, hall⟩
      have z : (List.range 4).all (cameB s) = true := by
        rw [List.all_eq_true]
        intro x hx
        exact hall x (List.mem_range.mp hx)
      have k2 := kf H3 (eH.trans e3) t3
      rw [z] at k2
      exact k2
end
end Sh

set_option Elab.async false
set_option linter.all false
set_option maxRecDepth 100000
set_option maxHeartbeats 4000000
namespace Sh
open PySem PySem.Spec PyProof.Rows L2 LamX NdefX
theorem for_enum {K : PySem.W.Frag} {a : Addr} {xs : List V} {g : TG} {tb : TS} {D : Ends} {σ : L2.St} {H : Hp} (Pv : Nat → L2.St → Hp → Prop) (h0 : Pv 0 σ H) (hl : ∀ i σ H, i ≤ xs.length → Pv i σ H → SqL K H a xs)
    (hs : ∀ i x T σ H, xs[i]? = some x → H T = none → Pv i σ H → g (.ref T) σ (upd H T (.tup [nv i, x])) fun σ2 H2 => tb { D with nx := Pv (i + 1), ct := Pv (i + 1), bk := D.nx } σ2 H2) (hd : ∀ σ H, Pv xs.length σ H → D.nx σ H) :
    ∃ W : Nat → Nat → L2.St → Hp → Prop, (∃ m, W 0 m σ H) ∧ ∀ i m σ H, W i m σ H →
      ((Ite K a).stop i H ∧ D.nx σ H) ∨ ((Ite K a).go i H ∧ ∃ N : L2.St → Hp → Prop, (∀ σ' H', N σ' H' → ∃ m', m' < m ∧ W (i + 1) m' σ' H') ∧ ∀ x H', (Ite K a).yld i H x H' → g x σ H' fun σ2 H2 => tb { D with nx := N, ct := N, bk := D.nx } σ2 H2) := by
  refine ⟨fun i m σ H => m + i = xs.length ∧ Pv i σ H, ⟨xs.length, rfl, h0⟩, ?_⟩
  rintro i m σ H ⟨e, p⟩
  have q := hl i σ H (by omega) p
  cases m with
  | zero => exact .inl ⟨⟨xs, q, by omega⟩, hd σ H (by rw [← e, Nat.zero_add]; exact p)⟩
  | succ m =>
    refine .inr ⟨⟨xs, xs[i], q, List.getElem?_eq_getElem (by omega)⟩, Pv (i + 1), fun σ' H' z => ⟨m, Nat.lt_succ_self m, by omega, z⟩, ?_⟩
    rintro v H' ⟨t, x, rfl, ht, rfl, hx⟩
    exact hs i x t σ H (hx xs q) ht p
theorem heldAt_tups {H H' : Hp} {a : Addr} {hs : List HV} (e : ∀ b ys, H b = some (.tup ys) → H' b = some (.tup ys)) (h : HeldAt H a hs) : HeldAt H' a hs := by
  obtain ⟨vs, h1, h2⟩ := h
  refine ⟨vs, e _ _ h1, Paired.mapP h2 fun x v q => ?_⟩
  cases x with
  | num n => exact q
  | seq l => obtain ⟨b, rfl, z⟩ := q; exact ⟨b, rfl, e _ _ z⟩
theorem nodup_nums (l : List Nat) : (Ag13.nums l).Nodup ↔ l.Nodup := by
  unfold Ag13.nums List.Nodup
  rw [List.pairwise_map]
  constructor
  · intro h
    exact h.imp fun q z => q (by rw [z])
  · intro h
    exact h.imp fun q z => q (by omega)
theorem known_eq (s : Ag13.State) (row : List Nat) : Ag13.known s row = ((row.all fun i => decide (i < s.ops.length)) && decide row.Nodup) := by
  unfold Ag13.known
  rw [Bool.and_comm]
  congr 1
  rw [Bool.eq_iff_iff, once_iff, decide_eq_true_iff]
theorem known_lt {s : Ag13.State} {row : List Nat} (h : Ag13.known s row = true) : ∀ i ∈ row, i < s.ops.length := fun i hi => by
  rw [known_eq, Bool.and_eq_true] at h
  exact of_decide_eq_true (List.all_eq_true.mp h.1 i hi)
section
variable {P : Program} {w : World} {K : PySem.W.Frag} {mg : Str → Option Value} {base : Heap} {d : Ad}
/-! ### is_of, has_all_ended, stands_behind_all -/
def spIsOf (K : PySem.W.Frag) (d : Ad) : Sp := fun vs H Q _ => ∃ (a rl : Addr) (row : List Nat) (s : Ag13.State) (tm : Nat) (kt ol : Addr) (ad : List Addr), vs = [.ref a, .ref rl] ∧ HistN d H a s (Ag13.all s) tm kt ol ad ∧ SqL K H rl (row.map nv) ∧ row.length ≤ 12 ∧ ∀ H', Same H H' → Q (.bl (Ag13.known s row)) H'
theorem ok_is_of {f f1 : Addr} {fd d1 : FuncData} (F : Fun K "is_of" "is_of" s_is_of f fd) (T : Tx K mg d) (C : Tc K d) (o_History_has_operation : OkM P w K mg base 1 d.cH "has_operation" ["self", "number"] (spHasOp d) f1 d1) :
    FnOk P w K mg base CX0 2 f fd ["history", "row"] (spIsOf K d) := by
  refine F.ok sc_is_of (fun vs H Q E h => ?_) (fun cdv A outer s H vs Q E hr h => ?_)
  · obtain ⟨a, rl, row, s, tm, kt, ol, ad, rfl, _⟩ := h; rfl
  obtain ⟨a, rl, row, s, tm, kt, ol, ad, rfl, X, hl, h12, k⟩ := h
  refine ⟨_, (pss_one (ps_ret (pe_and (pe_callB (cr_all rfl) (by rfl) T.all (by decide +kernel) (pa_cons (by exact (pe_lc (own := [("number", 2)]) (g := gName 2) (te := (tMeth _ _ _ [] E0 (tVar 0) (tCons (tVar 2) tNil))) (by rfl) sc_is_of.nd (pi_list (pv 1)) (blkOk_by (own := [("number", 2)]) (N := ["history", "row", "number"]) (sc := defScope s_is_of) (by decide +kernel)) (fun _ _ _ _ _ => pg_name (i := 2) sc_is_of.nd rfl (Or.inl rfl)) (fun _ _ _ _ _ => by exact pts_nil) (fun _ _ _ _ _ => by exact (pe_md (pv 0) o_History_has_operation (hr.mono (by omega)) (pa_cons (pv 2) pa_nil))))) pa_nil)) (pe_one (pe_cmpR op_eq (pe_lenSI rfl (by rfl) T.len (by rfl) T.set (pv 1)) (pe_callB call_len_seq (by rfl) T.len PySem.boot_len (pa_cons (pv 1) pa_nil)) (nomark _)))))), ?_⟩
  obtain ⟨dx, hins⟩ := id X.ins
  have la : ((Ag13.all s).map (at_ s)).length = s.ops.length := by rw [List.length_map, all_len]
  rw [known_eq] at k
  refine go_ret (go_andv ?_)
  refine all_comp (l := row) (g := nv) (b := fun i => decide (i < s.ops.length)) hl ⟨_, rfl, rfl, rfl⟩ mono_var (by omega) (fun x hx H' e kk q => ?_) fun H1 e1 => ⟨_, rfl, ?_⟩
  · refine ⟨_, rfl, a, dx, _, rfl, e _ _ hins, look_no (by decide +kernel), _, rfl, a, x, s.kinds, _, tm, kt, ol, ad, rfl, X.same e, ?_⟩
    rw [la]
    exact q _ (Same.refl _)
  cases h1 : row.all fun i => decide (i < s.ops.length) with
  | false =>
    rw [h1, Bool.false_and] at k
    exact iteF (k _ e1)
  | true =>
    rw [h1, Bool.true_and] at k
    have hl1 : SqL K H1 rl ((Ag13.nums row).map V.int) := by
      have z := e1.seq hl
      rw [map_nv] at z
      exact z
    refine iteT ⟨_, rfl, rl, Ag13.nums row, rfl, hl1, by unfold Ag13.nums; rw [List.length_map]; omega, fun m hm => ⟨_, rfl, rl, _, rfl, .inl hl1, rfl, ?_⟩⟩
    have ed : decide (V.int (m : Int) = V.int ((((Ag13.nums row).map V.int).length : Nat) : Int)) = decide row.Nodup := by
      refine decide_eq_decide.mpr ?_
      rw [nodup_nums] at hm
      rw [List.length_map]
      refine Iff.trans ⟨fun z => ?_, fun z => by rw [z]⟩ hm
      injection z with z
      omega
    rw [ed]
    exact k _ e1
def spAllEnded (K : PySem.W.Frag) (d : Ad) : Sp := fun vs H Q _ => ∃ (a rl : Addr) (row : List Nat) (s : Ag13.State) (tm : Nat) (kt ol : Addr) (ad : List Addr), vs = [.ref a, .ref rl] ∧ HistN d H a s (Ag13.all s) tm kt ol ad ∧ s.ops.length ≤ 9 ∧ SqL K H rl (row.map nv) ∧
  ∀ H', Same H H' → Q (.bl (!((Ag13.all s).any fun i => Ag13.must s i && !(row.contains i)))) H'
theorem ended_isN (o : Ag13.Op) : decide (endV o = V.non) = o.ended.isNone := by
  unfold endV
  cases o.ended with
  | none => rfl
  | some e => rfl
theorem ok_all_ended {f : Addr} {fd : FuncData} (F : Fun K "has_all_ended" "has_all_ended" s_has_all_ended f fd) (T : Tx K mg d) (C : Tc K d) : FnOk P w K mg base CX0 1 f fd ["history", "row"] (spAllEnded K d) := by
  refine F.ok sc_has_all_ended (fun vs H Q E h => ?_) (fun cdv A outer s H vs Q E hr h => ?_)
  · obtain ⟨a, rl, row, s, tm, kt, ol, ad, rfl, _⟩ := h; rfl
  obtain ⟨a, rl, row, s, tm, kt, ol, ad, rfl, X, h9, hl, k⟩ := h
  refine ⟨_, (pss_one (ps_ret (pe_callB (cr_all rfl) (by rfl) T.all (by decide +kernel) (pa_cons (by exact (pe_lc (own := [("operation", 2)]) (g := gName 2) (te := (tOrV (tOp _ (tFld K (tVar 2) "ended") (tC .non)) (tOp (rIn K false) (tFld K (tVar 2) "number") (tVar 1)))) (by rfl) sc_has_all_ended.nd (pi_list (pe_fld (pv 0) rfl)) (blkOk_by (own := [("operation", 2)]) (N := ["history", "row", "operation"]) (sc := defScope s_has_all_ended) (by decide +kernel)) (fun _ _ _ _ _ => pg_name (i := 2) sc_has_all_ended.nd rfl (Or.inl rfl)) (fun _ _ _ _ _ => by exact pts_nil) (fun _ _ _ _ _ => by exact (pe_or (pe_cmpR op_isN (pe_fld (pv 2) rfl) pe_non (nomark _)) (pe_one (pe_cmpR op_in_seq (pe_fld (pv 2) rfl) (pv 1) (by rfl))))))) pa_nil)))), ?_⟩
  have lad : (Ag13.all s).length = ad.length := Paired.length X.opsIn
  refine go_ret ?_
  refine all_comp (l := (Ag13.all s).zip ad) (g := fun z => V.ref z.2) (b := fun z => !(Ag13.must s z.1 && !(row.contains z.1))) (by rw [zip_refs lad]; exact SqL.of X.ol) ⟨_, rfl, (X.fOps C).to ⟨rfl, rfl⟩⟩ (mono_fld mono_var) (by rw [List.length_zip, all_len]; omega) (fun z hz H' e kk q => ?_) fun H1 e1 => ?_
  · have O : OpAt d H' z.2 z.1 (Ag13.op s z.1) := (paired_zip X.opsIn z hz).same e
    refine ⟨_, rfl, (O.ended C).to ⟨rfl, _, rfl, ?_⟩⟩
    rw [ended_isN]
    have q2 := q _ (Same.refl _)
    cases he : (Ag13.op s z.1).ended with
    | none =>
      have hm : Ag13.must s z.1 = false := by unfold Ag13.must; rw [he]; rfl
      rw [hm] at q2
      exact iteT q2
    | some x =>
      have hm : Ag13.must s z.1 = true := by unfold Ag13.must; rw [he]; rfl
      rw [hm, Bool.true_and, Bool.not_not] at q2
      refine iteF ⟨_, rfl, (O.number C).to ⟨_, rfl, rl, _, rfl, .inl (e.seq hl), rfl, flat_nv row, ?_⟩⟩
      rw [if_neg Bool.false_ne_true, inV_nv]
      exact q2
  · have k2 := k _ e1
    rw [zip_all (fun i => !(Ag13.must s i && !(row.contains i))) lad]
    have ed : ((Ag13.all s).all fun i => !(Ag13.must s i && !(row.contains i))) = !((Ag13.all s).any fun i => Ag13.must s i && !(row.contains i)) := by
      have := any_not (fun i => !(Ag13.must s i && !(row.contains i))) (Ag13.all s)
      simp only [Bool.not_not] at this
      rw [this, Bool.not_not]
    rw [ed]
    exact k2
def spBehind (K : PySem.W.Frag) (d : Ad) : Sp := fun vs H Q _ => ∃ (a p bl : Addr) (i : Nat) (row : List Nat) (s : Ag13.State) (tm : Nat) (kt ol : Addr) (ad : List Addr), vs = [.ref a, .ref p, .ref bl] ∧ HistN d H a s (Ag13.all s) tm kt ol ad ∧ s.ops.length ≤ 9 ∧ OpAt d H p i (Ag13.op s i) ∧ SqL K H bl (row.map nv) ∧
  ∀ H', Same H H' → Q (.bl (!((leftA s row).any fun j => Ag13.byTime s 0 j i))) H'
theorem ok_behind {f f1 : Addr} {fd d1 : FuncData} (F : Fun K "stands_behind_all" "stands_behind_all" s_stands_behind_all f fd) (T : Tx K mg d) (C : Tc K d) (o_first_in_times_order : OkD P w K mg base 3 "first_in_times_order" ["one", "other"] (spRule0 d (butR 0)) f1 d1) :
    FnOk P w K mg base CX0 4 f fd ["history", "operation", "before"] (spBehind K d) := by
  refine F.ok sc_stands_behind_all (fun vs H Q E h => ?_) (fun cdv A outer s H vs Q E hr h => ?_)
  · obtain ⟨a, p, bl, i, row, s, tm, kt, ol, ad, rfl, _⟩ := h; rfl
  obtain ⟨a, p, bl, i, row, s, tm, kt, ol, ad, rfl, X, h9, O, hl, k⟩ := h
  refine ⟨_, (pss_cons (ps_setLc (i := 3) (own := [("other", 4)]) (g := gName 4) (by rfl) sc_stands_behind_all.nd rfl rfl (sw_true rfl rfl rfl (by decide +kernel)) (pi_list (pe_fld (pv 0) rfl)) (blkOk_by (own := [("other", 4)]) (N := ["history", "operation", "before", "must", "other"]) (sc := defScope s_stands_behind_all) (by decide +kernel)) (fun _ _ _ _ _ => pg_name (i := 4) sc_stands_behind_all.nd rfl (Or.inl rfl)) (fun _ _ _ _ _ => by exact (pts_one (pt_val (pe_cd o_first_in_times_order (hr.mono (by omega)) (pa_cons (pv 4) (pa_cons (pv 1) pa_nil)))))) (fun _ _ _ _ _ => by exact (pv 4))) (pss_one (ps_ret (pe_callB (cr_all rfl) (by rfl) T.all (by decide +kernel) (pa_cons (by exact (pe_lc (own := [("other", 4)]) (g := gName 4) (te := (tOp (rIn K false) (tFld K (tVar 4) "number") (tVar 2))) (by rfl) sc_stands_behind_all.nd (pi_list (pv 3)) (blkOk_by (own := [("other", 4)]) (N := ["history", "operation", "before", "must", "other"]) (sc := defScope s_stands_behind_all) (by decide +kernel)) (fun _ _ _ _ _ => pg_name (i := 4) sc_stands_behind_all.nd rfl (Or.inl rfl)) (fun _ _ _ _ _ => by exact pts_nil) (fun _ _ _ _ _ => by exact (pe_cmpR op_in_seq (pe_fld (pv 4) rfl) (pv 2) (by rfl))))) pa_nil))))), ?_⟩
  have lad : (Ag13.all s).length = ad.length := Paired.length X.opsIn
  have few : ((Ag13.all s).zip ad).length < 100000 := by rw [List.length_zip, all_len]; omega
  refine go_seq (go_asg ?_)
  refine comp_list (K := K) (a := ol) (l := (Ag13.all s).zip ad) (g := fun z => V.ref z.2) (p := fun z => Ag13.byTime s 0 z.1 i) (R := fun z y _ => y = V.ref z.2) (by rw [zip_refs lad]; exact SqL.of X.ol) ⟨_, rfl, (X.fOps C).to ⟨rfl, rfl⟩⟩ (mono_fld mono_var)
    ⟨Firm.eq _, few, fun z hz H' e kk q => ?_, fun z hz hp H' e kk q => ⟨_, rfl, q _ _ (Same.refl _) rfl⟩⟩ ?_
  · have O1 : OpAt d H' z.2 z.1 (Ag13.op s z.1) := (paired_zip X.opsIn z hz).same e
    exact ⟨_, rfl, _, rfl, z.2, p, z.1, i, _, _, rfl, O1, O.same e, _, rfl, q _ (Same.refl _)⟩
  intro ml ys H1 e1 hml0 hml pr
  have ey := paired_map pr
  subst ey
  dsimp only
  refine go_ret ?_
  refine all_comp (l := ((Ag13.all s).zip ad).filter fun z => Ag13.byTime s 0 z.1 i) (g := fun z => V.ref z.2) (b := fun z => row.contains z.1) (SqL.of hml) ⟨_, rfl, rfl, rfl⟩ mono_var (Nat.lt_of_le_of_lt (List.length_filter_le ..) few) (fun z hz H' e kk q => ?_) fun H2 e2 => ?_
  · have O1 : OpAt d H' z.2 z.1 (Ag13.op s z.1) := (paired_zip X.opsIn z (List.mem_filter.mp hz).1).same (e1.trans e)
    refine ⟨_, rfl, (O1.number C).to ⟨_, rfl, bl, _, rfl, .inl ((e1.trans e).seq hl), rfl, flat_nv row, ?_⟩⟩
    rw [if_neg Bool.false_ne_true, inV_nv]
    exact q _ (Same.refl _)
  · have k2 := k _ (e1.trans e2)
    rw [← behind_eq, ← filt_zip (fun j => Ag13.byTime s 0 j i) lad, List.all_map] at k2
    exact k2
/-! ### told_by, play, held -/
def spTold (K : PySem.W.Frag) (d : Ad) : Sp := fun vs H Q _ => ∃ (a rl : Addr) (row : List Nat) (s : Ag13.State) (tm : Nat) (kt ol : Addr) (ad : List Addr), vs = [.ref a, .ref rl] ∧ HistN d H a s (Ag13.all s) tm kt ol ad ∧ Good s (Ag13.all s) ∧ SqL K H rl (row.map nv) ∧ row.length ≤ 12 ∧ (∀ i ∈ row, i < s.ops.length) ∧
  NewL Q H (Ag13.play s row (Ag13.new s))
theorem ok_told {f f1 f2 : Addr} {fd d1 d2 : FuncData} (F : Fun K "told_by" "told_by" s_told_by f fd) (T : Tx K mg d) (C : Tc K d) (o_all_held_at_first : OkD P w K mg base 2 "all_held_at_first" ["kinds"] spAllHeld f1 d1)
    (o_do_operation : OkD P w K mg base 3 "do_operation" ["kinds", "held", "operation"] (spDoOp d) f2 d2) : FnOk P w K mg base CX0 4 f fd ["history", "row"] (spTold K d) := by
  refine F.ok sc_told_by (fun vs H Q E h => ?_) (fun cdv A outer s H vs Q E hr h => ?_)
  · obtain ⟨a, rl, row, s, tm, kt, ol, ad, rfl, _⟩ := h; rfl
  obtain ⟨a, rl, row, s, tm, kt, ol, ad, rfl, X, g, hl, h12, hin, k⟩ := h
  refine ⟨_, (pss_cons (ps_set (i := 2) sc_told_by.nd rfl (by first | exact Or.inl rfl | exact Or.inr rfl) (pe_lst pa_nil)) (pss_cons (ps_set (i := 3) sc_told_by.nd rfl (by first | exact Or.inl rfl | exact Or.inr rfl) (pe_cd o_all_held_at_first (hr.mono (by omega)) (pa_cons (pe_fld (pv 0) rfl) pa_nil))) (pss_cons (ps_for PassesOwn.never rfl (pi_list (pv 1)) (pg_name (i := 4) sc_told_by.nd rfl (by first | exact Or.inl rfl | exact Or.inr rfl)) (pss_cons (ps_set (i := 5) sc_told_by.nd rfl (by first | exact Or.inl rfl | exact Or.inr rfl) (pe_cd o_do_operation (hr.mono (by omega)) (pa_cons (pe_fld (pv 0) rfl) (pa_cons (pv 3) (pa_cons (pe_ix ix_list (pe_fld (pv 0) rfl) (pv 4) (fun _ _ => rfl)) pa_nil))))) (pss_cons (ps_expr (pe_bm PySem.F.plainAttrs_list PySem.F.slot_list_append PySem.F.type_list_append mt_append (pv 2) (pa_cons (pe_ix ix_tup (pv 5) pe_int (fun _ _ => rfl)) pa_nil))) (pss_one (ps_set (i := 3) sc_told_by.nd rfl (by first | exact Or.inl rfl | exact Or.inr rfl) (pe_ix ix_tup (pv 5) pe_int (fun _ _ => rfl))))))) (pss_one (ps_ret (pv 2)))))), ?_⟩
  refine ⟨Nat.zero_le _, fun tl htl => ?_⟩
  have e1 := same_new htl (.lst [])
  have X1 : HistN d _ a s (Ag13.all s) tm kt ol ad := X.same e1
  refine ⟨_, rfl, (X1.fKinds C).to ⟨kt, s, rfl, X1.kt, g.few, fun H2 st e2 hh2 => ?_⟩⟩
  have e12 := e1.trans e2
  have k5 : ∀ k ∈ s.kinds, k ≤ 5 := fun x hx => by have := g.kinds x hx; omega
  refine ⟨_, rfl, rl, rfl, ⟨_, e12.seq hl⟩, for_list (K := K) (a := rl) (xs := row.map nv)
    (fun i σ H' => ∃ (v4 v5 : Option V) (st : Addr) (hs : List HV), σ = [some (.ref a), some (.ref rl), some (.ref tl), some (.ref st), v4, v5] ∧ Same H H' ∧ H' tl = some (.lst ((Ag13.play s (row.take i) (Ag13.new s)).map V.int)) ∧ HeldAt H' st hs ∧ RepM s.kinds hs (memA s (row.take i) (Ag13.new s)) ∧ WfH s i hs)
    ⟨none, none, st, hvNew s, rfl, e12, e2 _ _ upd_same, hh2, repM_new s, wfH_new g⟩ (fun i σ H' _ ⟨_, _, _, _, _, e, _⟩ => e.seq hl) ?_ ?_⟩
  · rintro i y σ H3 hi ⟨v4, v5, st, hs, rfl, e3, htl3, hh3, rep3, wf3⟩
    rw [List.getElem?_map] at hi
    obtain ⟨n, hn, rfl⟩ := Option.map_eq_some_iff.mp hi
    have hnl : n < s.ops.length := hin n (List.mem_of_getElem? hn)
    have hir : i < row.length := (List.getElem?_eq_some_iff.mp hn).1
    have X3 : HistN d H3 a s (Ag13.all s) tm kt ol ad := X.same e3
    obtain ⟨p, hp, O⟩ := Paired.getR X3.opsIn (all_get hnl)
    have hix : atI (ad.map V.ref) (n : Int) = some (.ref p) := atI_nat (by rw [List.getElem?_map, hp]; rfl)
    have hna : n ∈ Ag13.all s := List.mem_range.mpr hnl
    refine ⟨_, rfl, (X3.fKinds C).to ⟨_, rfl, _, rfl, (X3.fOps C).to ⟨_, rfl, ol, _, _, _, rfl, rfl, SqL.of X3.ol, hix, kt, st, p, s, Ag13.all s, n, i, hs, rfl, X3.kt, hh3, O, g, hna, wf3, by omega, fun H4 q h' e4 hq hh4 => ?_⟩⟩⟩
    have htl4 := e4 _ _ htl3
    have hr := repM_one (i := n) k5 (g.fine n hna) rep3
    refine ⟨_, rfl, .inl ⟨rfl, _, SqL.of htl4⟩, _, rfl, q, _, _, V.int (hvOne s n hs).2, rfl, rfl, SqT.of hq, rfl, tl, _, _, rfl, rfl, htl4, szl (by rw [List.length_map, play_len, List.length_take]; omega), ?_⟩
    have far : ∀ b u, H4 b = some u → (∀ xs, u ≠ .lst xs) → ∀ v, upd H4 tl v b = some u := fun b u z hz v => by
      rw [upd_ne (ne_of z htl4 (fun y => hz _ y))]
      exact z
    have hq5 := fun v => far _ _ hq (fun _ z => nomatch z) v
    refine ⟨_, rfl, q, _, _, V.ref h', rfl, rfl, SqT.of (hq5 _), rfl, ?_⟩
    refine ⟨_, _, h', (hvOne s n hs).1, rfl, fun b u z => ?_, ?_, heldAt_tups (fun b ys z => far _ _ z (fun _ y => nomatch y) _) hh4, ?_, wfH_one g hna wf3⟩
    · rw [upd_ne (ne_of_none z htl)]
      exact e4 _ _ (e3 _ _ z)
    · rw [upd_same, take_one hn, play_snoc, List.map_append, hr.1]
      rfl
    · rw [take_one hn, memA_snoc]
      exact hr.2
  · rintro σ H3 ⟨v4, v5, st, hs, rfl, e3, htl3, hh3, rep3, wf3⟩
    rw [List.length_map, List.take_length] at htl3
    exact ⟨_, rfl, k H3 tl e3 htl htl3⟩
def playL (s : Ag13.State) (row : List Nat) : List Int := if Ag13.known s row = false then [-1] else Ag13.play s row (Ag13.new s)
def spPlay (K : PySem.W.Frag) (d : Ad) : Sp := fun vs H Q _ => ∃ (a rl : Addr) (row : List Nat) (s : Ag13.State) (tm : Nat) (kt ol : Addr) (ad : List Addr), vs = [.ref a, .ref rl] ∧ HistN d H a s (Ag13.all s) tm kt ol ad ∧ Good s (Ag13.all s) ∧ SqL K H rl (row.map nv) ∧ row.length ≤ 12 ∧ NewL Q H (playL s row)
theorem NewL.later {Q : VK} {H H1 : Hp} {ns : List Int} (e : Same H H1) (h : NewL Q H ns) : NewL Q H1 ns := fun H' l e' n q => h H' l (e.trans e') (e.free n) q
theorem ok_play {f f1 f2 : Addr} {fd d1 d2 : FuncData} (F : Fun K "play" "play" s_play f fd) (T : Tx K mg d) (o_is_of : OkD P w K mg base 2 "is_of" ["history", "row"] (spIsOf K d) f1 d1) (o_told_by : OkD P w K mg base 4 "told_by" ["history", "row"] (spTold K d) f2 d2) :
    FnOk P w K mg base CX0 5 f fd ["history", "row"] (spPlay K d) := by
  refine F.ok sc_play (fun vs H Q E h => ?_) (fun cdv A outer s H vs Q E hr h => ?_)
  · obtain ⟨a, rl, row, s, tm, kt, ol, ad, rfl, _⟩ := h; rfl
  obtain ⟨a, rl, row, s, tm, kt, ol, ad, rfl, X, g, hl, h12, k⟩ := h
  refine ⟨_, (pss_cons (ps_if (pt_not (pt_val (pe_cd o_is_of (hr.mono (by omega)) (pa_cons (pv 0) (pa_cons (pv 1) pa_nil))))) (pss_one (ps_ret (pe_lst (pa_cons (pe_gi T.g_NO_SUCH) pa_nil)))) pss_nil) (pss_one (ps_ret (pe_cd o_told_by (hr.mono (by omega)) (pa_cons (pv 0) (pa_cons (pv 1) pa_nil)))))), ?_⟩
  refine ⟨_, rfl, _, rfl, a, rl, row, s, tm, kt, ol, ad, rfl, X, hl, h12, fun H1 e1 => ⟨_, rfl, ?_⟩⟩
  unfold playL at k
  cases hk : Ag13.known s row with
  | false =>
    rw [if_pos hk] at k
    exact iteT ⟨one_sz, fun p hp => k _ p (e1.trans (same_new hp _)) (e1.free hp) upd_same⟩
  | true =>
    rw [if_neg (by rw [hk]; intro z; cases z)] at k
    exact iteF ⟨_, rfl, _, rfl, a, rl, row, s, tm, kt, ol, ad, rfl, X.same e1, g, e1.seq hl, h12, known_lt hk, k.later e1⟩
def heldL (s : Ag13.State) (row : List Nat) : List Int := if Ag13.known s row = false ∨ (Ag13.all s).any (fun i => Ag13.must s i && !(row.contains i)) = true then [-1] else Ag13.held s 0 (Ag13.all s) row (Ag13.new s)
def spHeld (K : PySem.W.Frag) (d : Ad) : Sp := fun vs H Q _ => ∃ (a rl : Addr) (row : List Nat) (s : Ag13.State) (tm : Nat) (kt ol : Addr) (ad : List Addr), vs = [.ref a, .ref rl] ∧ HistN d H a s (Ag13.all s) tm kt ol ad ∧ Good s (Ag13.all s) ∧ SqL K H rl (row.map nv) ∧ row.length ≤ 12 ∧ NewL Q H (heldL s row)
theorem ok_held {f f1 f2 f3 f4 : Addr} {fd d1 d2 d3 d4 : FuncData} (F : Fun K "held" "held" s_held f fd) (T : Tx K mg d) (C : Tc K d) (o_is_of : OkD P w K mg base 2 "is_of" ["history", "row"] (spIsOf K d) f1 d1) (o_has_all_ended : OkD P w K mg base 1 "has_all_ended" ["history", "row"] (spAllEnded K d) f2 d2)
    (o_told_by : OkD P w K mg base 4 "told_by" ["history", "row"] (spTold K d) f3 d3) (o_stands_behind_all : OkD P w K mg base 4 "stands_behind_all" ["history", "operation", "before"] (spBehind K d) f4 d4) :
    FnOk P w K mg base CX0 5 f fd ["history", "row"] (spHeld K d) := by
  refine F.ok sc_held (fun vs H Q E h => ?_) (fun cdv A outer s H vs Q E hr h => ?_)
  · obtain ⟨a, rl, row, s, tm, kt, ol, ad, rfl, _⟩ := h; rfl
  obtain ⟨a, rl, row, s, tm, kt, ol, ad, rfl, X, g, hl, h12, k⟩ := h
  refine ⟨_, (pss_cons (ps_if (PW.pt (pw_or (pt_not (pt_val (pe_cd o_is_of (hr.mono (by omega)) (pa_cons (pv 0) (pa_cons (pv 1) pa_nil))))) (pw_or1 (pt_not (pt_val (pe_cd o_has_all_ended (hr.mono (by omega)) (pa_cons (pv 0) (pa_cons (pv 1) pa_nil)))))))) (pss_one (ps_ret (pe_lst (pa_cons (pe_gi T.g_NO_SUCH) pa_nil)))) pss_nil) (pss_cons (ps_set (i := 2) sc_held.nd rfl (by first | exact Or.inl rfl | exact Or.inr rfl) (pe_cd o_told_by (hr.mono (by omega)) (pa_cons (pv 0) (pa_cons (pv 1) pa_nil)))) (pss_cons (ps_for PassesOwn.never rfl (pi_enum (by rfl) T.enumerate (pa_cons (pv 1) pa_nil)) (pg_tup rfl (pgs_cons (pg_name (i := 3) sc_held.nd rfl (by first | exact Or.inl rfl | exact Or.inr rfl)) (pgs_cons (pg_name (i := 4) sc_held.nd rfl (by first | exact Or.inl rfl | exact Or.inr rfl)) pgs_nil))) (pss_cons (ps_set (i := 5) sc_held.nd rfl (by first | exact Or.inl rfl | exact Or.inr rfl) (pe_ix ix_list (pe_fld (pv 0) rfl) (pv 4) (fun _ _ => rfl))) (pss_cons (ps_if (pt_not (pt_val (pe_cd o_stands_behind_all (hr.mono (by omega)) (pa_cons (pv 0) (pa_cons (pv 5) (pa_cons (pe_slice sl_list (pv 1) po_none (po_some (pv 3))) pa_nil)))))) (pss_one (ps_ret (pe_lst (pa_cons (pe_gi T.g_TOO_EARLY) (pa_cons (pv 3) pa_nil))))) pss_nil) (pss_one (ps_if (PW.pt (pw_and (pt_cmpR op_notN (pe_fld (pv 5) rfl) pe_non (nomark _)) (pw_and1 (pt_cmpR op_ne (pe_ix ix_list (pv 2) (pv 3) (fun _ _ => rfl)) (pe_fld (pv 5) rfl) (nomark _))))) (pss_one (ps_ret (pe_lst (pa_cons (pe_gi T.g_OTHER_ANSWER) (pa_cons (pv 3) pa_nil))))) pss_nil))))) (pss_one (ps_ret (pe_lst (pa_cons pe_int pa_nil))))))), ?_⟩
  have h9 : s.ops.length ≤ 9 := by rw [← all_len]; exact g.len
  refine ⟨_, rfl, _, rfl, a, rl, row, s, tm, kt, ol, ad, rfl, X, hl, h12, fun H1 e1 => ⟨_, rfl, ?_⟩⟩
  unfold heldL at k
  cases hk : Ag13.known s row with
  | false =>
    rw [if_pos (.inl hk)] at k
    exact iteT (iteT ⟨one_sz, fun p hp => k _ p (e1.trans (same_new hp _)) (e1.free hp) upd_same⟩)
  | true =>
  refine iteF ⟨_, rfl, _, rfl, a, rl, row, s, tm, kt, ol, ad, rfl, X.same e1, h9, e1.seq hl, fun H2 e2 => ⟨_, rfl, ?_⟩⟩
  have e12 := e1.trans e2
  cases hm : (Ag13.all s).any fun i => Ag13.must s i && !(row.contains i) with
  | true =>
    rw [if_pos (.inr hm)] at k
    exact iteT ⟨one_sz, fun p hp => k _ p (e12.trans (same_new hp _)) (e12.free hp) upd_same⟩
  | false =>
  rw [if_neg (by rw [hk, hm]; rintro (z | z) <;> cases z)] at k
  have hin := known_lt hk
  refine iteF ⟨_, rfl, _, rfl, a, rl, row, s, tm, kt, ol, ad, rfl, X.same e12, g, e12.seq hl, h12, hin, fun H3 tl e3 htl0 htl => ?_⟩
  have e13 := e12.trans e3
  refine ⟨_, rfl, rl, _, rfl, e13.seq hl, for_enum (K := K) (a := rl) (xs := row.map nv)
    (fun i σ H' => ∃ v3 v4 v5 : Option V, σ = [some (.ref a), some (.ref rl), some (.ref tl), v3, v4, v5] ∧ Same H3 H' ∧ Ag13.held s 0 (Ag13.all s) row (Ag13.new s) = Ag13.held s i (leftA s (row.take i)) (row.drop i) (memA s (row.take i) (Ag13.new s)))
    ⟨none, none, none, rfl, Same.refl _, held_start s row⟩ (fun i σ H' _ ⟨_, _, _, _, e, _⟩ => (e13.trans e).seq hl) ?_ ?_⟩
  · rintro i y t σ H4 hi ht ⟨v3, v4, v5, rfl, e4, heq⟩
    rw [List.getElem?_map] at hi
    obtain ⟨n, hn, rfl⟩ := Option.map_eq_some_iff.mp hi
    have hnl : n < s.ops.length := hin n (List.mem_of_getElem? hn)
    have hir : i < row.length := (List.getElem?_eq_some_iff.mp hn).1
    have s5 := same_new ht (.tup [nv i, nv n])
    refine ⟨t, _, rfl, SqT.of upd_same, rfl, _, _, rfl, _, _, rfl, rfl, ?_⟩
    generalize upd H4 t (.tup [nv i, nv n]) = H5 at s5
    have e5 := e4.trans s5
    have X5 : HistN d H5 a s (Ag13.all s) tm kt ol ad := X.same (e13.trans e5)
    obtain ⟨p, hp, O⟩ := Paired.getR X5.opsIn (all_get hnl)
    have hix : atI (ad.map V.ref) (n : Int) = some (.ref p) := atI_nat (by rw [List.getElem?_map, hp]; rfl)
    refine ⟨_, rfl, (X5.fOps C).to ⟨_, rfl, ol, _, _, _, rfl, rfl, SqL.of X5.ol, hix, ?_⟩⟩
    refine ⟨_, rfl, _, rfl, _, rfl, _, rfl, _, rfl, rl, _, rfl, (e13.trans e5).seq hl, fun bl hbl => ?_⟩
    rw [cut_to (by rw [List.length_map]; exact hir), ← List.map_take]
    have s6 := same_new hbl (.lst ((row.take i).map nv))
    refine ⟨a, p, bl, n, row.take i, s, tm, kt, ol, ad, rfl, X5.same s6, h9, O.same s6, SqL.of upd_same, fun H7 e7 => ⟨_, rfl, ?_⟩⟩
    have e57 := (e5.trans s6).trans e7
    have O7 : OpAt d H7 p n (Ag13.op s n) := (O.same s6).same e7
    rw [held_at hn] at heq
    cases hb : (leftA s (row.take i)).any fun j => Ag13.byTime s 0 j n with
    | true =>
      rw [if_pos hb] at heq
      rw [heq] at k
      exact iteT ⟨_, rfl, two_sz, fun q hq => k _ q ((e13.trans e57).trans (same_new hq _)) ((e13.trans e57).free hq) upd_same⟩
    | false =>
    rw [if_neg (by rw [hb]; intro z; cases z)] at heq
    refine iteF ⟨_, rfl, (O7.ended C).to ⟨rfl, _, rfl, ?_⟩⟩
    cases he : (Ag13.op s n).ended with
    | none =>
      have hr : Ag13.right s n (Ag13.one s n (memA s (row.take i) (Ag13.new s))).2 = true := by unfold Ag13.right; rw [he]
      rw [if_neg (by rw [hr]; intro z; cases z)] at heq
      have z1 : endV (Ag13.op s n) = .non := by unfold endV; rw [he]
      rw [z1]
      exact iteF (iteF ⟨_, _, _, rfl, e57, heq⟩)
    | some x =>
      have z1 : endV (Ag13.op s n) = nv x.1 := by unfold endV; rw [he]
      have z2 : ansV (Ag13.op s n) = .int x.2 := by unfold ansV; rw [he]
      rw [z1]
      have hat : atI ((Ag13.play s row (Ag13.new s)).map V.int) (i : Int) = some (.int (Ag13.one s n (memA s (row.take i) (Ag13.new s))).2) := atI_nat (by rw [List.getElem?_map, play_get hn]; rfl)
      refine iteT ⟨_, rfl, _, rfl, tl, _, _, _, rfl, rfl, SqL.of (e57 _ _ htl), hat, _, rfl, (O7.answer C).to ?_⟩
      rw [z2]
      refine ⟨rfl, _, rfl, ?_⟩
      have hr : Ag13.right s n (Ag13.one s n (memA s (row.take i) (Ag13.new s))).2 = decide (V.int (Ag13.one s n (memA s (row.take i) (Ag13.new s))).2 = V.int x.2) := by
        unfold Ag13.right
        rw [he]
        dsimp only
        rw [Bool.eq_iff_iff, beq_iff_eq, decide_eq_true_iff]
        exact ⟨fun q => by rw [q], fun q => by injection q with q; exact q.symm⟩
      cases hd : decide (V.int (Ag13.one s n (memA s (row.take i) (Ag13.new s))).2 = V.int x.2) with
      | true =>
        rw [hd] at hr
        rw [if_neg (by rw [hr]; intro z; cases z)] at heq
        exact iteF ⟨_, _, _, rfl, e57, heq⟩
      | false =>
        rw [hd] at hr
        rw [if_pos hr] at heq
        rw [heq] at k
        exact iteT ⟨_, rfl, two_sz, fun q hq => k _ q ((e13.trans e57).trans (same_new hq _)) ((e13.trans e57).free hq) upd_same⟩
  · rintro σ H4 ⟨v3, v4, v5, rfl, e4, heq⟩
    rw [List.length_map, held_end (Nat.le_refl _)] at heq
    rw [heq] at k
    exact ⟨one_sz, fun q hq => k _ q ((e13.trans e4).trans (same_new hq _)) ((e13.trans e4).free hq) upd_same⟩
end
end Sh

set_option Elab.async false
set_option linter.all false
set_option maxRecDepth 100000
set_option maxHeartbeats 4000000
namespace Sh
open PySem PySem.Spec PyProof.Rows L2 LamX NdefX
section
variable {P : Program} {w : World} {K : PySem.W.Frag} {mg : Str → Option Value} {base : Heap} {d : Ad}
theorem at_int {l : List Int} {i : Nat} {x : Int} (h : l[i]? = some x) : atI (l.map V.int) (i : Int) = some (.int x) := atI_nat (by rw [List.getElem?_map, h]; rfl)
theorem drop_head {l : List Int} {i : Nat} {x : Int} {r : List Int} (h : l.drop i = x :: r) : l[i]? = some x := by
  have : (l.drop i)[0]? = some x := by rw [h]; rfl
  simpa using this
theorem drop_tail {l : List Int} {i : Nat} {x : Int} {r : List Int} (h : l.drop i = x :: r) : l.drop (i + 1) = r := by
  have : (l.drop i).drop 1 = r := by rw [h]; rfl
  rw [List.drop_drop] at this
  exact this
/-! ### end_of_call -/
def spEoc (K : PySem.W.Frag) : Sp := fun vs H Q _ => ∃ (l : Addr) (i : Nat) (ns : List Int) (p : Int) (r : List Int) (c : List (List Int)) (t : List Int), vs = [.ref l, nv i] ∧ SqL K H l (ns.map V.int) ∧ ns.drop i = p :: r ∧ PyFlat.call PyAg13.shape (p :: r) = some (c, t) ∧ Q (nv (i + (flat c).length)) H
theorem ok_eoc {f : Addr} {fd : FuncData} (F : Fun K "end_of_call" "end_of_call" s_end_of_call f fd) (T : Tx K mg d) : FnOk P w K mg base CX0 1 f fd ["calls", "at"] (spEoc K) := by
  refine F.ok sc_end_of_call (fun vs H Q E h => ?_) (fun cdv A outer s H vs Q E hr h => ?_)
  · obtain ⟨l, i, ns, p, r, c, t, rfl, _⟩ := h; rfl
  obtain ⟨l, i, ns, p, r, c, t, rfl, hl, hd, hc, k⟩ := h
  refine ⟨_, (pss_cons (ps_set (i := 2) sc_end_of_call.nd rfl (by first | exact Or.inl rfl | exact Or.inr rfl) (pe_op op_add (pe_op op_add (pv 1) pe_int) (pe_ix ix_tup (pe_gt T.g_NUMBERS) (pe_ix ix_list (pv 0) (pv 1) (fun _ _ => rfl)) (fun _ _ => rfl)))) (pss_cons (ps_if (pt_cmpR op_in_seq (pe_ix ix_list (pv 0) (pv 1) (fun _ _ => rfl)) (pe_gt T.g_WITH_LIST) (by rfl)) (pss_one (ps_aug (i := 2) sc_end_of_call.nd rfl (by first | exact Or.inl rfl | exact Or.inr rfl) (pe_op op_add pe_int (pe_ix ix_list (pv 0) (pv 2) (fun _ _ => rfl))) ip_add)) pss_nil) (pss_one (ps_ret (pv 2))))), ?_⟩
  obtain ⟨n, h0, h15, hn, hfl, h1, h2⟩ := call_flat hc
  have hp := at_int (drop_head hd)
  have hN : atI (numsOf.map V.int) p = some (nv n) := by
    have e : p = ((p.toNat : Nat) : Int) := by omega
    have z := at_int hn
    rwa [← e] at z
  refine ⟨_, rfl, _, _, rfl, rfl, _, rfl, _, rfl, l, _, _, _, rfl, rfl, hl, hp, d.aN, _, _, _, rfl, rfl, T.g_NUMBERS.sq H, hN, _, _, rfl, rfl, ?_⟩
  refine ⟨_, rfl, _, rfl, l, _, _, _, rfl, rfl, hl, hp, d.aW, _, rfl, .inr (T.g_WITH_LIST.sq H), rfl, rfl, _, rfl, ?_⟩
  have ein : inV (V.int p) (([0, 12, 13] : List Int).map V.int) = decide (p = 0 ∨ p = 12 ∨ p = 13) := by
    show (((0 : Int) == p) || (((12 : Int) == p) || (((13 : Int) == p) || false))) = _
    rw [Bool.eq_iff_iff]
    simp only [Bool.or_eq_true, beq_iff_eq, Bool.or_false, decide_eq_true_eq]
    omega
  have e1 : ((i : Int) + 1 + (n : Int)) = ((i + 1 + n : Nat) : Int) := by omega
  refine ite2 (fun c1 => ?_) (fun c1 => ?_)
  · have hw : p = 0 ∨ p = 12 ∨ p = 13 := of_decide_eq_true (ein.symm.trans c1)
    obtain ⟨rfl, x, rfl, hr2⟩ := h1 hw
    have hx : ns[i + 1]? = some (x.length : Int) := drop_head (by rw [drop_tail hd, hr2])
    have hx' : atI (ns.map V.int) ((i : Int) + 1 + ((0 : Nat) : Int)) = some (.int (x.length : Int)) := by rw [e1]; exact at_int hx
    refine ⟨_, rfl, _, rfl, _, rfl, l, _, _, _, rfl, rfl, hl, hx', _, _, rfl, rfl, _, _, rfl, rfl, ?_⟩
    have e2 : ((i : Int) + 1 + ((0 : Nat) : Int) + (1 + (x.length : Int))) = ((i + (flat [[p], x]).length : Nat) : Int) := by
      simp [flat]; omega
    refine ⟨_, rfl, ?_⟩
    dsimp only
    rw [e2]
    exact k
  · have hw : ¬ (p = 0 ∨ p = 12 ∨ p = 13) := fun z => c1 (ein.trans (decide_eq_true z))
    obtain ⟨x, hx, rfl⟩ := h2 hw
    refine ⟨_, rfl, ?_⟩
    have e2 : ((i : Int) + 1 + (n : Int)) = ((i + (flat [p :: x]).length : Nat) : Int) := by
      simp [flat]; omega
    dsimp only
    rw [e2]
    exact k
/-! ### are_kinds -/
def kindsOk (ks : List Nat) : Bool := decide (1 ≤ ks.length ∧ ks.length ≤ 3) && ks.all fun k => decide (k < 6)
def spAre (K : PySem.W.Frag) : Sp := fun vs H Q _ => ∃ (l : Addr) (ks : List Nat), vs = [.ref l] ∧ SqL K H l (ks.map nv) ∧ ks.length ≤ 1000 ∧ ∀ H', Same H H' → Q (.bl (kindsOk ks)) H'
theorem ok_are {f f1 : Addr} {fd d1 : FuncData} (F : Fun K "are_kinds" "are_kinds" s_are_kinds f fd) (T : Tx K mg d) (o_is_kind : OkD P w K mg base 1 "is_kind" ["kind"] spIsKind f1 d1) : FnOk P w K mg base CX0 2 f fd ["kinds"] (spAre K) := by
  refine F.ok sc_are_kinds (fun vs H Q E h => ?_) (fun cdv A outer s H vs Q E hr h => ?_)
  · obtain ⟨l, ks, rfl, _⟩ := h; rfl
  obtain ⟨l, ks, rfl, hl, hlen, k⟩ := h
  refine ⟨_, (pss_one (ps_ret (pe_and (pe_chain op_le op_le pe_int (pe_callB call_len_seq (by rfl) T.len PySem.boot_len (pa_cons (pv 0) pa_nil)) (pe_gi T.g_MOST_THINGS)) (pe_one (pe_callB (cr_all rfl) (by rfl) T.all (by decide +kernel) (pa_cons (by exact (pe_lc (own := [("kind", 1)]) (g := gName 1) (by rfl) sc_are_kinds.nd (pi_list (pv 0)) (blkOk_by (own := [("kind", 1)]) (N := ["kinds", "kind"]) (sc := defScope s_are_kinds) (by decide +kernel)) (fun _ _ _ _ _ => pg_name (i := 1) sc_are_kinds.nd rfl (Or.inl rfl)) (fun _ _ _ _ _ => by exact pts_nil) (fun _ _ _ _ _ => by exact (pe_cd o_is_kind (hr.mono (by omega)) (pa_cons (pv 1) pa_nil))))) pa_nil)))))), ?_⟩
  have last : ∀ b : Bool, b = decide (1 ≤ ks.length ∧ ks.length ≤ 3) → ∃ c, V.bl b = V.bl c ∧ if c = true then tCB (rAll K) (tCons (tLc (iList K (tVar 0)) (gName 1) tYes (tCall spIsKind [] E0 (tCons (tVar 1) tNil)) [1]) tNil) [some (.ref l), none] H Q else Q (.bl false) H := by
    intro b hb
    refine ⟨b, rfl, ?_⟩
    cases b with
    | false =>
      refine iteF ?_
      have k2 := k H (Same.refl _)
      unfold kindsOk at k2
      rw [← hb] at k2
      exact k2
    | true =>
      refine iteT (go_cb ?_)
      refine comp_list (K := K) (a := l) (l := ks) (g := nv) (p := fun _ => true) (R := fun x y _ => y = V.bl (decide (x < 6))) hl ⟨_, rfl, rfl, rfl⟩ mono_var ⟨Firm.eq _, by omega, fun x hx H' e kk q => q _ (Same.refl _), fun x hx _ H' e kk q => ⟨_, rfl, x, rfl, q _ _ (Same.refl _) rfl⟩⟩ ?_
      intro D ys H' e hD hy pr
      have ey := paired_map pr
      rw [List.filter_eq_self.mpr (fun _ _ => rfl)] at ey
      subst ey
      refine ⟨D, ks.map fun x => decide (x < 6), rfl, SqL.of (by rw [hy, List.map_map]; rfl), ?_⟩
      have k2 := k H' e
      unfold kindsOk at k2
      rw [← hb, Bool.true_and] at k2
      rw [List.all_map]
      exact k2
  refine ⟨_, rfl, l, _, rfl, .inl hl, _, _, rfl, rfl, _, rfl, ?_⟩
  rw [List.length_map]
  refine ite2 (fun c1 => ?_) (fun c1 => ?_)
  · have c1' : (1 : Int) ≤ (ks.length : Int) := of_decide_eq_true c1
    refine ⟨_, _, rfl, rfl, ?_⟩
    exact last _ (decide_eq_decide.mpr (by omega))
  · have c1' : ¬ (1 : Int) ≤ (ks.length : Int) := fun z => c1 (decide_eq_true z)
    exact last false (decide_eq_false (by omega)).symm
end
end Sh

set_option Elab.async false
set_option linter.all false
set_option maxRecDepth 100000
set_option maxHeartbeats 4000000
namespace Sh
open PySem PySem.Spec PyProof.Rows L2 LamX NdefX
theorem ite_int {p q : Int} {A B : Prop} (h : p = q) (a : A) : if decide (V.int p = V.int q) = true then A else B := if_true_of (decide_eq_true (by rw [h])) a
theorem ite_nint {p q : Int} {A B : Prop} (h : p ≠ q) (b : B) : if decide (V.int p = V.int q) = true then A else B := if_false_of (decide_eq_false fun z => h (by injection z)) b
theorem bit_eq (b : Bool) : Ag13.bit b = [bitV b] := by cases b <;> rfl
theorem opt_eq (o : Option Nat) : (match o with
    | none => [-3]
    | some m => [(m : Int)]) = [optV o] := by cases o <;> rfl
theorem cut_two {xs : List V} (h : 2 ≤ xs.length) : cutV xs (some 2) none = xs.drop 2 := by
  unfold cutV
  have e : HT.sIx xs.length 0 (some 2) = 2 := by
    have := HT.sIx_nat xs.length 0 2
    rw [show ((2 : Nat) : Int) = 2 from rfl] at this
    rw [this]; omega
  rw [e, HT.sIx_none, List.take_of_length_le (by simp)]
theorem nats_back : ∀ {x : List Int}, (∀ z ∈ x, 0 ≤ z) → x.map V.int = (Ag13Neutral.nats x).map nv
  | [], _ => rfl
  | z :: x, h => by
    have h0 := h z List.mem_cons_self
    have ih := nats_back (x := x) fun y hy => h y (List.mem_cons_of_mem _ hy)
    show V.int z :: x.map V.int = V.int ((z.toNat : Nat) : Int) :: (Ag13Neutral.nats x).map nv
    rw [ih]
    congr 2
    omega
theorem within_lo {z a b : Int} (h : NeutralIO.within z a b = true) : a ≤ z := by
  unfold NeutralIO.within at h
  rw [Bool.and_eq_true] at h
  exact of_decide_eq_true h.1
theorem nv_back {z : Int} (h : 0 ≤ z) : V.int z = nv z.toNat := by
  show V.int z = V.int ((z.toNat : Nat) : Int)
  congr 1
  omega
theorem good_all {s : Ag13.State} (k : StOk s) : Good s (Ag13.all s) := by
  refine ⟨k.k6, by have := k.k3; omega, all_nodup s, fun n hn => ?_, by rw [all_len]; exact k.len, fun n hn => ?_, fun n hn => ?_, fun n hn => ?_⟩
  · have := List.mem_range.mp hn; have := k.len; omega
  · exact k.thing _ (op_mem (List.mem_range.mp hn))
  · exact k.op _ (op_mem (List.mem_range.mp hn))
  · exact k.cl _ (op_mem (List.mem_range.mp hn))
theorem NewT.one {T0 : List (Addr × Str)} {Q : VK} {H H1 : Hp} {v : Int} (k : NewT T0 Q H [v]) (e : ExtN H H1) (t : Tabs T0 H1) : ([V.int v]).length ≤ sizeLine ∧ ∀ p, H1 p = none → Q (.ref p) (upd H1 p (.lst [V.int v])) :=
  ⟨one_sz, fun p hp => k _ p (e.trans (ExtN.of (same_new hp _))) (t.ext (same_new hp _)) (NewA.of e hp) upd_same⟩
section
variable {P : Program} {w : World} {K : PySem.W.Frag} {mg : Str → Option Value} {base : Heap} {d : Ad} {T0 : List (Addr × Str)}
/-! ### answer_about_all -/
def askAll (p : Int) : Option Ag13.Call := if p = 3 then some .linear else if p = 5 then some .order else if p = 6 then some .shortest else if p = 7 then some .serial else if p = 9 then some .causal else if p = 11 then some .blame else none
def spAbAll (T0 : List (Addr × Str)) (d : Ad) : Sp := fun vs H Q _ => ∃ (a : Addr) (p : Int) (c : Ag13.Call) (s : Ag13.State) (kt ol : Addr) (ad : List Addr), vs = [.ref a, .int p] ∧ HistN d H a s (Ag13.all s) s.time kt ol ad ∧ StOk s ∧ s.time ≤ 1000 ∧ Tabs T0 H ∧ askAll p = some c ∧ NewT T0 Q H (Ag13.step (some s) c).2
theorem ok_about_all {f f1 f2 f3 f4 f5 f6 : Addr} {fd d1 d2 d3 d4 d5 d6 : FuncData} (F : Fun K "answer_about_all" "answer_about_all" s_answer_about_all f fd) (T : Tx K mg d) (C : Tc K d)
    (o_linear : OkD P w K mg base 25 "linear" ["history"] (spLin T0 d) f1 d1) (o_order : OkD P w K mg base 24 "order" ["history"] (spOrder d) f2 d2) (o_shortest : OkD P w K mg base 26 "shortest" ["history"] (spShort T0 d) f3 d3)
    (o_serial : OkD P w K mg base 24 "serial" ["history"] (spSerial d) f4 d4) (o_causal : OkD P w K mg base 25 "causal" ["history"] (spCausal T0 d) f5 d5) (o_blame : OkD P w K mg base 26 "blame" ["history"] (spBlame T0 d) f6 d6) :
    FnOk P w K mg base CX0 27 f fd ["history", "name"] (spAbAll T0 d) := by
  refine F.ok sc_answer_about_all (fun vs H Q E h => ?_) (fun cdv A outer s H vs Q E hr h => ?_)
  · obtain ⟨a, p, c, s, kt, ol, ad, rfl, _⟩ := h; rfl
  obtain ⟨a, p, c, s, kt, ol, ad, rfl, X, ok, htm, hT, hc, k⟩ := h
  refine ⟨_, (pss_cons (ps_if (pt_cmpR op_eq (pv 1) (pe_gi T.g_LINEAR) (nomark _)) (pss_one (ps_ret (pe_lst (pa_cons (pe_cd o_linear (hr.mono (by omega)) (pa_cons (pv 0) pa_nil)) pa_nil)))) pss_nil) (pss_cons (ps_if (pt_cmpR op_eq (pv 1) (pe_gi T.g_ORDER) (nomark _)) (pss_one (ps_ret (pe_cd o_order (hr.mono (by omega)) (pa_cons (pv 0) pa_nil)))) pss_nil) (pss_cons (ps_if (pt_cmpR op_eq (pv 1) (pe_gi T.g_SHORTEST) (nomark _)) (pss_one (ps_ret (pe_lst (pa_cons (pe_cd o_shortest (hr.mono (by omega)) (pa_cons (pv 0) pa_nil)) pa_nil)))) pss_nil) (pss_cons (ps_if (pt_cmpR op_eq (pv 1) (pe_gi T.g_SERIAL) (nomark _)) (pss_one (ps_ret (pe_lst (pa_cons (pe_cd o_serial (hr.mono (by omega)) (pa_cons (pv 0) pa_nil)) pa_nil)))) pss_nil) (pss_cons (ps_if (pt_cmpR op_eq (pv 1) (pe_gi T.g_CAUSAL) (nomark _)) (pss_one (ps_ret (pe_lst (pa_cons (pe_cd o_causal (hr.mono (by omega)) (pa_cons (pv 0) pa_nil)) pa_nil)))) pss_nil) (pss_one (ps_ret (pe_cd o_blame (hr.mono (by omega)) (pa_cons (pv 0) pa_nil))))))))), ?_⟩
  have g := good_all ok
  unfold askAll at hc
  refine ⟨_, rfl, rfl, _, rfl, ?_⟩
  by_cases h3 : p = 3
  · rw [if_pos h3] at hc
    cases hc
    refine ite_int h3 ⟨_, rfl, a, s, Ag13.all s, s.time, kt, ol, ad, rfl, X, g, hT, fun H1 e1 t1 => ?_⟩
    have k1 : NewT T0 Q H [bitV (linearN s (Ag13.all s))] := by
      rw [← bit_eq]
      exact k
    exact k1.one e1 t1
  rw [if_neg h3] at hc
  refine ite_nint h3 ⟨_, rfl, rfl, _, rfl, ?_⟩
  by_cases h5 : p = 5
  · rw [if_pos h5] at hc
    cases hc
    exact ite_int h5 ⟨_, rfl, a, s, Ag13.all s, s.time, kt, ol, ad, rfl, X, g, k.l hT⟩
  rw [if_neg h5] at hc
  refine ite_nint h5 ⟨_, rfl, rfl, _, rfl, ?_⟩
  by_cases h6 : p = 6
  · rw [if_pos h6] at hc
    cases hc
    refine ite_int h6 ⟨_, rfl, a, s, kt, ol, ad, rfl, X, g, by omega, hT, fun H1 e1 t1 => ?_⟩
    have k1 : NewT T0 Q H [optV (Ag13.shortest s)] := by
      rw [← opt_eq]
      exact k
    exact k1.one e1 t1
  rw [if_neg h6] at hc
  refine ite_nint h6 ⟨_, rfl, rfl, _, rfl, ?_⟩
  by_cases h7 : p = 7
  · rw [if_pos h7] at hc
    cases hc
    refine ite_int h7 ⟨_, rfl, a, s, Ag13.all s, s.time, kt, ol, ad, rfl, X, g, fun H1 e1 => ?_⟩
    have k1 : NewT T0 Q H [bitV (Ag13.explained s (Ag13.byClient s) Ag13.every (Ag13.all s)).isSome] := by
      rw [← bit_eq]
      exact k
    exact k1.one (ExtN.of e1) (hT.ext e1)
  rw [if_neg h7] at hc
  refine ite_nint h7 ⟨_, rfl, rfl, _, rfl, ?_⟩
  by_cases h9 : p = 9
  · rw [if_pos h9] at hc
    cases hc
    refine ite_int h9 ⟨_, rfl, a, s, s.time, kt, ol, ad, rfl, X, g, hT, fun H1 e1 t1 => ?_⟩
    have k1 : NewT T0 Q H [if Ag13.simple s = true then bitV (Ag13.causal s) else -6] := by
      have k2 : NewT T0 Q H (if Ag13.simple s = true then Ag13.bit (Ag13.causal s) else [-6]) := k
      rw [bit_eq] at k2
      split
      · rename_i hs; rw [if_pos hs] at k2; exact k2
      · rename_i hs; rw [if_neg hs] at k2; exact k2
    exact k1.one e1 t1
  rw [if_neg h9] at hc
  refine ite_nint h9 ?_
  by_cases h11 : p = 11
  · rw [if_pos h11] at hc
    cases hc
    exact ⟨_, rfl, a, s, s.time, kt, ol, ad, rfl, X, g, hT, k⟩
  · rw [if_neg h11] at hc
    cases hc
/-! ### answer_about_one -/
def askOne (p : Int) (n : Nat) : Option Ag13.Call := if p = 4 then some (.thing n) else if p = 8 then some (.own n) else if p = 10 then some (.late n) else if p = 14 then some (.show_ n) else none
def spAbOne (T0 : List (Addr × Str)) (d : Ad) : Sp := fun vs H Q _ => ∃ (a : Addr) (p : Int) (n : Nat) (c : Ag13.Call) (s : Ag13.State) (kt ol : Addr) (ad : List Addr), vs = [.ref a, .int p, nv n] ∧ HistN d H a s (Ag13.all s) s.time kt ol ad ∧ StOk s ∧ Tabs T0 H ∧ askOne p n = some c ∧ NewT T0 Q H (Ag13.step (some s) c).2
theorem ok_about_one {f f1 f2 f3 f4 : Addr} {fd d1 d2 d3 d4 : FuncData} (F : Fun K "answer_about_one" "answer_about_one" s_answer_about_one f fd) (T : Tx K mg d) (C : Tc K d)
    (o_linear_for_thing : OkD P w K mg base 25 "linear_for_thing" ["history", "thing"] (spThing T0 d) f1 d1) (o_own : OkD P w K mg base 24 "own" ["history", "client"] (spOwn d) f2 d2)
    (o_late : OkD P w K mg base 25 "late" ["history", "thing"] (spLate T0 d) f3 d3) (o_show : OkD P w K mg base 2 "show" ["history", "number"] (spShow d) f4 d4) :
    FnOk P w K mg base CX0 26 f fd ["history", "name", "number"] (spAbOne T0 d) := by
  refine F.ok sc_answer_about_one (fun vs H Q E h => ?_) (fun cdv A outer s H vs Q E hr h => ?_)
  · obtain ⟨a, p, n, c, s, kt, ol, ad, rfl, _⟩ := h; rfl
  obtain ⟨a, p, n, c, s, kt, ol, ad, rfl, X, ok, hT, hc, k⟩ := h
  refine ⟨_, (pss_cons (ps_if (pt_cmpR op_eq (pv 1) (pe_gi T.g_THING) (nomark _)) (pss_one (ps_ret (pe_lst (pa_cons (pe_cd o_linear_for_thing (hr.mono (by omega)) (pa_cons (pv 0) (pa_cons (pv 2) pa_nil))) pa_nil)))) pss_nil) (pss_cons (ps_if (pt_cmpR op_eq (pv 1) (pe_gi T.g_OWN) (nomark _)) (pss_one (ps_ret (pe_lst (pa_cons (pe_cd o_own (hr.mono (by omega)) (pa_cons (pv 0) (pa_cons (pv 2) pa_nil))) pa_nil)))) pss_nil) (pss_cons (ps_if (pt_cmpR op_eq (pv 1) (pe_gi T.g_LATE) (nomark _)) (pss_one (ps_ret (pe_lst (pa_cons (pe_cd o_late (hr.mono (by omega)) (pa_cons (pv 0) (pa_cons (pv 2) pa_nil))) pa_nil)))) pss_nil) (pss_one (ps_ret (pe_cd o_show (hr.mono (by omega)) (pa_cons (pv 0) (pa_cons (pv 2) pa_nil)))))))), ?_⟩
  have g := good_all ok
  unfold askOne at hc
  refine ⟨_, rfl, rfl, _, rfl, ?_⟩
  by_cases h4 : p = 4
  · rw [if_pos h4] at hc
    cases hc
    refine ite_int h4 ⟨_, rfl, _, rfl, a, n, s, Ag13.all s, s.time, kt, ol, ad, rfl, X, g, hT, fun H1 e1 t1 => ?_⟩
    have k1 : NewT T0 Q H [if n < s.kinds.length then bitV (thingN s (Ag13.all s) n) else -1] := by
      have k2 : NewT T0 Q H (if s.kinds.length ≤ n then [-1] else Ag13.bit (Ag13.thing s n)) := k
      rw [bit_eq] at k2
      by_cases hn : n < s.kinds.length
      · rw [if_neg (by omega)] at k2; rw [if_pos hn]; exact k2
      · rw [if_pos (by omega)] at k2; rw [if_neg hn]; exact k2
    exact k1.one e1 t1
  rw [if_neg h4] at hc
  refine ite_nint h4 ⟨_, rfl, rfl, _, rfl, ?_⟩
  by_cases h8 : p = 8
  · rw [if_pos h8] at hc
    cases hc
    refine ite_int h8 ⟨_, rfl, _, rfl, a, n, s, Ag13.all s, s.time, kt, ol, ad, rfl, X, g, fun H1 e1 => ?_⟩
    have k1 : NewT T0 Q H [if n < 4 then bitV (Ag13.explained s (Ag13.byClient s) (fun i => (Ag13.op s i).client == n) (Ag13.all s)).isSome else -1] := by
      have k2 : NewT T0 Q H (if 4 ≤ n then [-1] else Ag13.bit (Ag13.own s n)) := k
      rw [bit_eq] at k2
      by_cases hn : n < 4
      · rw [if_neg (by omega)] at k2; rw [if_pos hn]; exact k2
      · rw [if_pos (by omega)] at k2; rw [if_neg hn]; exact k2
    exact k1.one (ExtN.of e1) (hT.ext e1)
  rw [if_neg h8] at hc
  refine ite_nint h8 ⟨_, rfl, rfl, _, rfl, ?_⟩
  by_cases h10 : p = 10
  · rw [if_pos h10] at hc
    cases hc
    refine ite_int h10 ⟨_, rfl, _, rfl, a, n, s, kt, ol, ad, rfl, X, g, hT, fun H1 e1 t1 => ?_⟩
    have k1 : NewT T0 Q H [if n < s.kinds.length then optV (Ag13.late s n) else -1] := by
      have k2 : NewT T0 Q H (if s.kinds.length ≤ n then [-1] else match Ag13.late s n with
        | none => [-3]
        | some m => [(m : Int)]) := k
      rw [opt_eq] at k2
      by_cases hn : n < s.kinds.length
      · rw [if_neg (by omega)] at k2; rw [if_pos hn]; exact k2
      · rw [if_pos (by omega)] at k2; rw [if_neg hn]; exact k2
    exact k1.one e1 t1
  rw [if_neg h10] at hc
  refine ite_nint h10 ?_
  by_cases h14 : p = 14
  · rw [if_pos h14] at hc
    cases hc
    exact ⟨_, rfl, _, rfl, a, n, s, s.time, kt, ol, ad, rfl, X, k.l hT⟩
  · rw [if_neg h14] at hc
    cases hc
/-! ### answer_about_row -/
def askRow (p : Int) (row : List Nat) : Option Ag13.Call := if p = 12 then some (.held row) else if p = 13 then some (.play row) else none
def spAbRow (K : PySem.W.Frag) (T0 : List (Addr × Str)) (d : Ad) : Sp := fun vs H Q _ => ∃ (a rl : Addr) (p : Int) (row : List Nat) (c : Ag13.Call) (s : Ag13.State) (kt ol : Addr) (ad : List Addr), vs = [.ref a, .int p, .ref rl] ∧ HistN d H a s (Ag13.all s) s.time kt ol ad ∧ StOk s ∧ Tabs T0 H ∧ SqL K H rl (row.map nv) ∧ row.length ≤ 12 ∧ askRow p row = some c ∧ NewT T0 Q H (Ag13.step (some s) c).2
theorem ok_about_row {f f1 f2 : Addr} {fd d1 d2 : FuncData} (F : Fun K "answer_about_row" "answer_about_row" s_answer_about_row f fd) (T : Tx K mg d) (C : Tc K d)
    (o_held : OkD P w K mg base 5 "held" ["history", "row"] (spHeld K d) f1 d1) (o_play : OkD P w K mg base 5 "play" ["history", "row"] (spPlay K d) f2 d2) :
    FnOk P w K mg base CX0 6 f fd ["history", "name", "row"] (spAbRow K T0 d) := by
  refine F.ok sc_answer_about_row (fun vs H Q E h => ?_) (fun cdv A outer s H vs Q E hr h => ?_)
  · obtain ⟨a, rl, p, row, c, s, kt, ol, ad, rfl, _⟩ := h; rfl
  obtain ⟨a, rl, p, row, c, s, kt, ol, ad, rfl, X, ok, hT, hl, h12, hc, k⟩ := h
  refine ⟨_, (pss_cons (ps_if (pt_cmpR op_eq (pv 1) (pe_gi T.g_HELD) (nomark _)) (pss_one (ps_ret (pe_cd o_held (hr.mono (by omega)) (pa_cons (pv 0) (pa_cons (pv 2) pa_nil))))) pss_nil) (pss_one (ps_ret (pe_cd o_play (hr.mono (by omega)) (pa_cons (pv 0) (pa_cons (pv 2) pa_nil)))))), ?_⟩
  have g := good_all ok
  unfold askRow at hc
  refine ⟨_, rfl, rfl, _, rfl, ?_⟩
  by_cases hp : p = 12
  · rw [if_pos hp] at hc
    cases hc
    exact ite_int hp ⟨_, rfl, _, rfl, a, rl, row, s, s.time, kt, ol, ad, rfl, X, g, hl, h12, k.l hT⟩
  rw [if_neg hp] at hc
  refine ite_nint hp ?_
  by_cases hp2 : p = 13
  · rw [if_pos hp2] at hc
    cases hc
    exact ⟨_, rfl, _, rfl, a, rl, row, s, s.time, kt, ol, ad, rfl, X, g, hl, h12, k.l hT⟩
  · rw [if_neg hp2] at hc
    cases hc
end
end Sh

set_option Elab.async false
set_option linter.all false
set_option maxRecDepth 100000
set_option maxHeartbeats 4000000
namespace Sh
open PySem PySem.Spec PyProof.Rows L2 LamX NdefX
def isQuery : Ag13.Call → Bool
  | .begin_ _ => false
  | .call .. => false
  | .end_ .. => false
  | _ => true
theorem step_fst {s : Ag13.State} {c : Ag13.Call} (h : isQuery c = true) : (Ag13.step (some s) c).1 = some s := by
  cases c with
  | begin_ k => cases h
  | call a b c d e => cases h
  | end_ a b => cases h
  | _ => rfl
theorem NewT.later {T0 : List (Addr × Str)} {Q : VK} {H H1 : Hp} {ns : List Int} (e1 : Same H H1) (h : NewT T0 Q H ns) : NewT T0 Q H1 ns := fun H' l e t n q => h H' l ((ExtN.of e1).trans e) t (NewA.back (ExtN.of e1) n) q
section
variable {P : Program} {w : World} {K : PySem.W.Frag} {mg : Str → Option Value} {base : Heap} {d : Ad} {T0 : List (Addr × Str)}
theorem HistX.has {H : Hp} {a : Addr} {ks : List Nat} {ops : List (Nat × Ag13.Op)} {tm : Nat} {kt ol : Addr} {ad : List Addr} (X : HistX d H a ks ops tm kt ol ad) {b : Addr} (h : b = a ∨ b = ol ∨ b ∈ ad) : H b ≠ none := by
  rcases h with rfl | rfl | h
  · obtain ⟨dx, z⟩ := X.ins
    rw [z]; intro y; cases y
  · rw [X.ol]; intro y; cases y
  · obtain ⟨m, hm⟩ := List.mem_iff_getElem?.mp h
    obtain ⟨q, _, dx, z⟩ := Paired.getL X.ops hm
    rw [z]; intro y; cases y
theorem HistX.no {H : Hp} {a : Addr} {ks : List Nat} {ops : List (Nat × Ag13.Op)} {tm : Nat} {kt ol : Addr} {ad : List Addr} (X : HistX d H a ks ops tm kt ol ad) {b : Addr} {u : HO} (hb : H b = some u) (hu : (∃ ps, u = .tbl ps) ∨ ∃ φ, u = .ext φ) : b ≠ a ∧ b ≠ ol ∧ b ∉ ad := by
  refine ⟨?_, ?_, fun h => ?_⟩
  · obtain ⟨dx, z⟩ := X.ins
    exact ne_of hb z (by rintro y; rcases hu with ⟨ps, rfl⟩ | ⟨φ, rfl⟩ <;> cases y)
  · exact ne_of hb X.ol (by rintro y; rcases hu with ⟨ps, rfl⟩ | ⟨φ, rfl⟩ <;> cases y)
  · obtain ⟨m, hm⟩ := List.mem_iff_getElem?.mp h
    obtain ⟨q, _, dx, z⟩ := Paired.getL X.ops hm
    exact ne_of hb z (by rintro y; rcases hu with ⟨ps, rfl⟩ | ⟨φ, rfl⟩ <;> cases y) rfl
def spAof (T0 : List (Addr × Str)) (d : Ad) : Sp := fun vs H Q _ => ∃ (a cl : Addr) (s s' : Ag13.State) (kt ol : Addr) (ad : List Addr) (c : List (List Int)) (ans : List Int), vs = [.ref a, .ref cl] ∧ HistN d H a s (Ag13.all s) s.time kt ol ad ∧ StOk s ∧ s.time ≤ 1000 ∧ Tabs T0 H ∧
  H cl = some (.lst ((flat c).map V.int)) ∧ Ag13Neutral.asked1 c = true ∧ (∀ x, c ≠ [[0], x]) ∧ Ag13Neutral.step (some s) c = (some s', ans) ∧
  ∀ (H' : Hp) (ad' : List Addr) (l : Addr), HistN d H' a s' (Ag13.all s') s'.time kt ol ad' → Tabs T0 H' → H' l = some (.lst (ans.map V.int)) → NewA H l → (∀ b u, H b = some u → (∀ ps, u ≠ .tbl ps) → b ≠ a → b ≠ ol → b ∉ ad → H' b = some u) → Q (.ref l) H'
theorem ok_aof {f f1 f2 f3 f4 f5 : Addr} {fd d1 d2 d3 d4 d5 : FuncData} (F : Fun K "answer_of" "answer_of" s_answer_of f fd) (T : Tx K mg d) (C : Tc K d)
    (o_History_call : OkM P w K mg base 3 d.cH "call" ["self", "client", "thing", "action", "a", "b"] (spCall d) f1 d1) (o_History_end : OkM P w K mg base 2 d.cH "end" ["self", "client", "answer"] (spEnd d) f2 d2)
    (o_answer_about_row : OkD P w K mg base 6 "answer_about_row" ["history", "name", "row"] (spAbRow K T0 d) f3 d3) (o_answer_about_one : OkD P w K mg base 26 "answer_about_one" ["history", "name", "number"] (spAbOne T0 d) f4 d4)
    (o_answer_about_all : OkD P w K mg base 27 "answer_about_all" ["history", "name"] (spAbAll T0 d) f5 d5) :
    FnOk P w K mg base CX0 28 f fd ["history", "call"] (spAof T0 d) := by
  refine F.ok sc_answer_of (fun vs H Q E h => ?_) (fun cdv A outer s H vs Q E hr h => ?_)
  · obtain ⟨a, cl, s, s', kt, ol, ad, c, ans, rfl, _⟩ := h; rfl
  obtain ⟨a, cl, s, s', kt, ol, ad, c, ans, rfl, X, ok, htm, hT, hcl, hask, hc0, hst, k⟩ := h
  refine ⟨_, (pss_cons (ps_set (i := 2) sc_answer_of.nd rfl (by first | exact Or.inl rfl | exact Or.inr rfl) (pe_ix ix_list (pv 1) pe_int (fun _ _ => rfl))) (pss_cons (ps_if (pt_cmpR op_eq (pv 2) (pe_gi T.g_CALL) (nomark _)) (pss_one (ps_ret (pe_lst (pa_cons (pe_md (pv 0) o_History_call (hr.mono (by omega)) (pa_cons (pe_ix ix_list (pv 1) pe_int (fun _ _ => rfl)) (pa_cons (pe_ix ix_list (pv 1) pe_int (fun _ _ => rfl)) (pa_cons (pe_ix ix_list (pv 1) pe_int (fun _ _ => rfl)) (pa_cons (pe_ix ix_list (pv 1) pe_int (fun _ _ => rfl)) (pa_cons (pe_ix ix_list (pv 1) pe_int (fun _ _ => rfl)) pa_nil)))))) pa_nil)))) pss_nil) (pss_cons (ps_if (pt_cmpR op_eq (pv 2) (pe_gi T.g_END) (nomark _)) (pss_one (ps_ret (pe_lst (pa_cons (pe_md (pv 0) o_History_end (hr.mono (by omega)) (pa_cons (pe_ix ix_list (pv 1) pe_int (fun _ _ => rfl)) (pa_cons (pe_ix ix_list (pv 1) pe_int (fun _ _ => rfl)) pa_nil))) pa_nil)))) pss_nil) (pss_cons (ps_if (pt_cmpR op_in_seq (pv 2) (pe_gt T.g_WITH_LIST) (by rfl)) (pss_one (ps_ret (pe_cd o_answer_about_row (hr.mono (by omega)) (pa_cons (pv 0) (pa_cons (pv 2) (pa_cons (pe_slice sl_list (pv 1) (po_some pe_int) po_none) pa_nil)))))) pss_nil) (pss_cons (ps_if (pt_cmpR op_eq (pe_ix ix_tup (pe_gt T.g_NUMBERS) (pv 2) (fun _ _ => rfl)) pe_int (nomark _)) (pss_one (ps_ret (pe_cd o_answer_about_one (hr.mono (by omega)) (pa_cons (pv 0) (pa_cons (pv 2) (pa_cons (pe_ix ix_list (pv 1) pe_int (fun _ _ => rfl)) pa_nil)))))) pss_nil) (pss_one (ps_ret (pe_cd o_answer_about_all (hr.mono (by omega)) (pa_cons (pv 0) (pa_cons (pv 2) pa_nil)))))))))), ?_⟩
  obtain ⟨dx, hins⟩ := id X.ins
  have la : ((Ag13.all s).map (at_ s)).length = s.ops.length := by rw [List.length_map, all_len]
  -- where nothing changes
  have ask : ∀ c' : Ag13.Call, isQuery c' = true → Ag13.step (some s) c' = (some s', ans) → NewT T0 Q H (Ag13.step (some s) c').2 := by
    intro c' hq h
    have h1 := step_fst (s := s) hq
    rw [h] at h1 ⊢
    have h2 : s' = s := Option.some.inj h1
    rw [h2] at k
    exact fun H' l e t n q => k H' ad l (X.ext e) t q n fun b u z hz _ _ _ => e b u z hz
  have none_ : ∀ v : Int, (some s, [v]) = (some s', ans) → NewT T0 Q H [v] := by
    intro v h
    have h2 : s' = s := (Option.some.inj (congrArg Prod.fst h)).symm
    have h3 : ans = [v] := (congrArg Prod.snd h).symm
    rw [h2, h3] at k
    exact fun H' l e t n q => k H' ad l (X.ext e) t q n fun b u z hz _ _ _ => e b u z hz
  unfold Ag13Neutral.asked1 at hask
  split at hask
  · exact absurd rfl (hc0 _)
  · -- call
    rename_i c t o x y
    rw [Bool.and_eq_true, Bool.and_eq_true, Bool.and_eq_true, Bool.and_eq_true] at hask
    obtain ⟨q1, q2, q3, q4, q5⟩ := hask
    have hst' : (if 4 ≤ c.toNat ∨ (s.kinds.length ≤ t.toNat ∨ Ag13.opsOf (s.kinds.getD t.toNat 0) ≤ o.toNat) then (some s, [-1]) else if (Ag13.under s c.toNat).isSome = true then (some s, [-2]) else if 9 ≤ s.ops.length then (some s, [-5]) else (some { s with ops := s.ops ++ [⟨c.toNat, t.toNat, o.toNat, x.toNat, y.toNat, s.time, none⟩], time := s.time + 1 }, [(s.ops.length : Int)])) = (some s', ans) := hst
    have hun : ((Ag13.all s).map (at_ s)).findIdx? (fun q => isPend c.toNat q.2) = Ag13.under s c.toNat := under_idx s c.toNat
    refine ⟨_, rfl, cl, _, _, V.int 1, rfl, rfl, SqL.of hcl, rfl, _, rfl, rfl, _, rfl, ite_int rfl ⟨_, rfl, a, dx, _, rfl, hins, look_no (by decide +kernel), _, rfl, cl, _, _, V.int c, rfl, rfl, SqL.of hcl, rfl, _, rfl, cl, _, _, V.int t, rfl, rfl, SqL.of hcl, rfl, _, rfl, cl, _, _, V.int o, rfl, rfl, SqL.of hcl, rfl, _, rfl, cl, _, _, V.int x, rfl, rfl, SqL.of hcl, rfl, _, rfl, cl, _, _, V.int y, rfl, rfl, SqL.of hcl, rfl,
      a, c.toNat, t.toNat, o.toNat, x.toNat, y.toNat, s.kinds, _, s.time, kt, ol, ad, by rw [nv_back (within_lo q1), nv_back (within_lo q2), nv_back (within_lo q3), nv_back (within_lo q4), nv_back (within_lo q5)]; rfl, X, ok.k6, by rw [la]; exact ok.len, fun hf => ?_, fun hf hu => ?_, fun hf hu h9 => ?_, fun hf hu h9 H1 p X1 hp far => ?_⟩⟩
    · rw [if_pos (by omega)] at hst'
      exact (none_ _ hst').one (ExtN.refl _) hT
    · rw [hun] at hu
      rw [if_neg (by omega), if_pos hu] at hst'
      exact (none_ _ hst').one (ExtN.refl _) hT
    · rw [hun] at hu
      rw [la] at h9
      rw [if_neg (by omega), if_neg (by rw [hu]; intro z; cases z), if_pos (by omega)] at hst'
      exact (none_ _ hst').one (ExtN.refl _) hT
    · rw [hun] at hu
      rw [la] at h9 X1
      rw [if_neg (by omega), if_neg (by rw [hu]; intro z; cases z), if_neg (by omega)] at hst'
      have h2 : s' = { s with ops := s.ops ++ [⟨c.toNat, t.toNat, o.toNat, x.toNat, y.toNat, s.time, none⟩], time := s.time + 1 } := (Option.some.inj (congrArg Prod.fst hst')).symm
      have h3 : ans = [(s.ops.length : Int)] := (congrArg Prod.snd hst').symm
      rw [la]
      refine ⟨one_sz, fun l hl => ?_⟩
      have e2 := same_new hl (.lst [nv s.ops.length])
      refine k _ (ad ++ [p]) l ?_ (tabs_keep hT fun b u z hz => ?_) (by rw [h3]; exact upd_same) (fun b u z hz hb => ?_) (fun b u z hz h4 h5 h6 => e2 _ _ (far _ _ z h4 h5))
      · rw [h2]
        have := all_more s ⟨c.toNat, t.toNat, o.toNat, x.toNat, y.toNat, s.time, none⟩ (s.time + 1)
        show HistX d _ a s.kinds _ (s.time + 1) kt ol (ad ++ [p])
        rw [this]
        exact X1.same e2
      · have := X.no z hz
        exact e2 _ _ (far _ _ z this.1 this.2.1)
      · subst hb
        by_cases h4 : b = a
        · exact X1.has (.inl h4) hl
        · by_cases h5 : b = ol
          · exact X1.has (.inr (.inl h5)) hl
          · rw [far _ _ z h4 h5] at hl
            cases hl
  · -- end
    rename_i c x
    rw [Bool.and_eq_true] at hask
    obtain ⟨q1, q2⟩ := hask
    have hst' : (if 4 ≤ c.toNat then (some s, [-1]) else match Ag13.under s c.toNat with
      | none => (some s, [-2])
      | some i => (some { s with ops := s.ops.set i { Ag13.op s i with ended := some (s.time, x) }, time := s.time + 1 }, [(i : Int)])) = (some s', ans) := hst
    have hun : ((Ag13.all s).map (at_ s)).findIdx? (fun q => isPend c.toNat q.2) = Ag13.under s c.toNat := under_idx s c.toNat
    have hnd : (((Ag13.all s).map (at_ s)).map (·.1)).Nodup := by
      rw [List.map_map]
      have : ((Ag13.all s).map ((fun q : Nat × Ag13.Op => q.1) ∘ at_ s)) = Ag13.all s := by
        conv => rhs; rw [← List.map_id (Ag13.all s)]
        rfl
      rw [this]
      exact all_nodup s
    refine ⟨_, rfl, cl, _, _, V.int 2, rfl, rfl, SqL.of hcl, rfl, _, rfl, rfl, _, rfl, ite_nint (by decide) ⟨_, rfl, rfl, _, rfl, ite_int rfl ⟨_, rfl, a, dx, _, rfl, hins, look_no (by decide +kernel), _, rfl, cl, _, _, V.int c, rfl, rfl, SqL.of hcl, rfl, _, rfl, cl, _, _, V.int x, rfl, rfl, SqL.of hcl, rfl,
      a, c.toNat, x, s.kinds, _, s.time, kt, ol, ad, by rw [nv_back (within_lo q1)]; rfl, X, hnd, fun hf => ?_, fun hf hu => ?_, fun hf i q hu hq H1 X1 far => ?_⟩⟩⟩
    · rw [if_pos (by omega)] at hst'
      exact (none_ _ hst').one (ExtN.refl _) hT
    · rw [hun] at hu
      rw [if_neg (by omega), hu] at hst'
      exact (none_ _ hst').one (ExtN.refl _) hT
    · rw [hun] at hu
      have hi := under_lt hu
      have hq2 : q = (i, Ag13.op s i) := by
        rw [List.getElem?_map, all_get hi] at hq
        exact (Option.some.inj hq).symm
      subst hq2
      rw [if_neg (by omega), hu] at hst'
      have h2 : s' = { s with ops := s.ops.set i { Ag13.op s i with ended := some (s.time, x) }, time := s.time + 1 } := (Option.some.inj (congrArg Prod.fst hst')).symm
      have h3 : ans = [(i : Int)] := (congrArg Prod.snd hst').symm
      refine ⟨one_sz, fun l hl => ?_⟩
      have e2 := same_new hl (.lst [nv i])
      refine k _ ad l ?_ (tabs_keep hT fun b u z hz => ?_) (by rw [h3]; exact upd_same) (fun b u z hz hb => ?_) (fun b u z hz h4 h5 h6 => e2 _ _ (far _ _ z h4 h6))
      · rw [h2]
        have := all_set s i { Ag13.op s i with ended := some (s.time, x) } (s.time + 1) hi
        show HistX d _ a s.kinds _ (s.time + 1) kt ol ad
        rw [this]
        exact X1.same e2
      · have := X.no z hz
        exact e2 _ _ (far _ _ z this.1 this.2.2)
      · subst hb
        by_cases h4 : b = a
        · exact X1.has (.inl h4) hl
        · by_cases h5 : b ∈ ad
          · exact X1.has (.inr (.inr h5)) hl
          · rw [far _ _ z h4 h5] at hl
            cases hl
  · exact ⟨_, rfl, cl, _, _, V.int 3, rfl, rfl, SqL.of hcl, rfl, _, rfl, rfl, _, rfl, ite_nint (by decide) ⟨_, rfl, rfl, _, rfl, ite_nint (by decide) ⟨_, rfl, d.aW, _, rfl, .inr (T.g_WITH_LIST.sq _), rfl, rfl, _, rfl, if_false_of (by decide) ⟨_, rfl, d.aN, _, _, V.int 0, rfl, rfl, T.g_NUMBERS.sq _, rfl, rfl, _, rfl, ite_nint (by decide) ⟨_, rfl, _, rfl, a, 3, .linear, s, kt, ol, ad, rfl, X, ok, htm, hT, rfl, ask .linear rfl hst⟩⟩⟩⟩⟩
  · rename_i t
    have ht : 0 ≤ t := within_lo hask
    exact ⟨_, rfl, cl, _, _, V.int 4, rfl, rfl, SqL.of hcl, rfl, _, rfl, rfl, _, rfl, ite_nint (by decide) ⟨_, rfl, rfl, _, rfl, ite_nint (by decide) ⟨_, rfl, d.aW, _, rfl, .inr (T.g_WITH_LIST.sq _), rfl, rfl, _, rfl, if_false_of (by decide) ⟨_, rfl, d.aN, _, _, V.int 1, rfl, rfl, T.g_NUMBERS.sq _, rfl, rfl, _, rfl, ite_int rfl ⟨_, rfl, _, rfl, _, rfl, cl, _, _, V.int t, rfl, rfl, SqL.of hcl, rfl, a, 4, t.toNat, .thing t.toNat, s, kt, ol, ad, by rw [nv_back ht]; rfl, X, ok, hT, rfl, ask (.thing t.toNat) rfl hst⟩⟩⟩⟩⟩
  · exact ⟨_, rfl, cl, _, _, V.int 5, rfl, rfl, SqL.of hcl, rfl, _, rfl, rfl, _, rfl, ite_nint (by decide) ⟨_, rfl, rfl, _, rfl, ite_nint (by decide) ⟨_, rfl, d.aW, _, rfl, .inr (T.g_WITH_LIST.sq _), rfl, rfl, _, rfl, if_false_of (by decide) ⟨_, rfl, d.aN, _, _, V.int 0, rfl, rfl, T.g_NUMBERS.sq _, rfl, rfl, _, rfl, ite_nint (by decide) ⟨_, rfl, _, rfl, a, 5, .order, s, kt, ol, ad, rfl, X, ok, htm, hT, rfl, ask .order rfl hst⟩⟩⟩⟩⟩
  · exact ⟨_, rfl, cl, _, _, V.int 6, rfl, rfl, SqL.of hcl, rfl, _, rfl, rfl, _, rfl, ite_nint (by decide) ⟨_, rfl, rfl, _, rfl, ite_nint (by decide) ⟨_, rfl, d.aW, _, rfl, .inr (T.g_WITH_LIST.sq _), rfl, rfl, _, rfl, if_false_of (by decide) ⟨_, rfl, d.aN, _, _, V.int 0, rfl, rfl, T.g_NUMBERS.sq _, rfl, rfl, _, rfl, ite_nint (by decide) ⟨_, rfl, _, rfl, a, 6, .shortest, s, kt, ol, ad, rfl, X, ok, htm, hT, rfl, ask .shortest rfl hst⟩⟩⟩⟩⟩
  · exact ⟨_, rfl, cl, _, _, V.int 7, rfl, rfl, SqL.of hcl, rfl, _, rfl, rfl, _, rfl, ite_nint (by decide) ⟨_, rfl, rfl, _, rfl, ite_nint (by decide) ⟨_, rfl, d.aW, _, rfl, .inr (T.g_WITH_LIST.sq _), rfl, rfl, _, rfl, if_false_of (by decide) ⟨_, rfl, d.aN, _, _, V.int 0, rfl, rfl, T.g_NUMBERS.sq _, rfl, rfl, _, rfl, ite_nint (by decide) ⟨_, rfl, _, rfl, a, 7, .serial, s, kt, ol, ad, rfl, X, ok, htm, hT, rfl, ask .serial rfl hst⟩⟩⟩⟩⟩
  · rename_i t
    have ht : 0 ≤ t := within_lo hask
    exact ⟨_, rfl, cl, _, _, V.int 8, rfl, rfl, SqL.of hcl, rfl, _, rfl, rfl, _, rfl, ite_nint (by decide) ⟨_, rfl, rfl, _, rfl, ite_nint (by decide) ⟨_, rfl, d.aW, _, rfl, .inr (T.g_WITH_LIST.sq _), rfl, rfl, _, rfl, if_false_of (by decide) ⟨_, rfl, d.aN, _, _, V.int 1, rfl, rfl, T.g_NUMBERS.sq _, rfl, rfl, _, rfl, ite_int rfl ⟨_, rfl, _, rfl, _, rfl, cl, _, _, V.int t, rfl, rfl, SqL.of hcl, rfl, a, 8, t.toNat, .own t.toNat, s, kt, ol, ad, by rw [nv_back ht]; rfl, X, ok, hT, rfl, ask (.own t.toNat) rfl hst⟩⟩⟩⟩⟩
  · exact ⟨_, rfl, cl, _, _, V.int 9, rfl, rfl, SqL.of hcl, rfl, _, rfl, rfl, _, rfl, ite_nint (by decide) ⟨_, rfl, rfl, _, rfl, ite_nint (by decide) ⟨_, rfl, d.aW, _, rfl, .inr (T.g_WITH_LIST.sq _), rfl, rfl, _, rfl, if_false_of (by decide) ⟨_, rfl, d.aN, _, _, V.int 0, rfl, rfl, T.g_NUMBERS.sq _, rfl, rfl, _, rfl, ite_nint (by decide) ⟨_, rfl, _, rfl, a, 9, .causal, s, kt, ol, ad, rfl, X, ok, htm, hT, rfl, ask .causal rfl hst⟩⟩⟩⟩⟩
  · rename_i t
    have ht : 0 ≤ t := within_lo hask
    exact ⟨_, rfl, cl, _, _, V.int 10, rfl, rfl, SqL.of hcl, rfl, _, rfl, rfl, _, rfl, ite_nint (by decide) ⟨_, rfl, rfl, _, rfl, ite_nint (by decide) ⟨_, rfl, d.aW, _, rfl, .inr (T.g_WITH_LIST.sq _), rfl, rfl, _, rfl, if_false_of (by decide) ⟨_, rfl, d.aN, _, _, V.int 1, rfl, rfl, T.g_NUMBERS.sq _, rfl, rfl, _, rfl, ite_int rfl ⟨_, rfl, _, rfl, _, rfl, cl, _, _, V.int t, rfl, rfl, SqL.of hcl, rfl, a, 10, t.toNat, .late t.toNat, s, kt, ol, ad, by rw [nv_back ht]; rfl, X, ok, hT, rfl, ask (.late t.toNat) rfl hst⟩⟩⟩⟩⟩
  · exact ⟨_, rfl, cl, _, _, V.int 11, rfl, rfl, SqL.of hcl, rfl, _, rfl, rfl, _, rfl, ite_nint (by decide) ⟨_, rfl, rfl, _, rfl, ite_nint (by decide) ⟨_, rfl, d.aW, _, rfl, .inr (T.g_WITH_LIST.sq _), rfl, rfl, _, rfl, if_false_of (by decide) ⟨_, rfl, d.aN, _, _, V.int 0, rfl, rfl, T.g_NUMBERS.sq _, rfl, rfl, _, rfl, ite_nint (by decide) ⟨_, rfl, _, rfl, a, 11, .blame, s, kt, ol, ad, rfl, X, ok, htm, hT, rfl, ask .blame rfl hst⟩⟩⟩⟩⟩
  · rename_i l
    have hrow : (decide (l.length ≤ 12) && l.all fun (z : Int) => NeutralIO.within z 0 20) = true := hask
    rw [Bool.and_eq_true] at hrow
    have hl0 : ∀ z ∈ l, 0 ≤ z := fun z hz => within_lo (List.all_eq_true.mp hrow.2 z hz)
    have h12 : (Ag13Neutral.nats l).length ≤ 12 := by
      unfold Ag13Neutral.nats
      rw [List.length_map]
      exact of_decide_eq_true hrow.1
    have ecut : cutV ((flat [[12], l]).map V.int) (some 2) none = (Ag13Neutral.nats l).map nv := by
      rw [cut_two (by simp [flat]), ← nats_back hl0]
      simp [flat]
    have hat : atI ((flat [[12], l]).map V.int) 0 = some (V.int 12) := atI_nat (j := 0) rfl
    refine ⟨_, rfl, cl, _, _, V.int 12, rfl, rfl, SqL.of hcl, hat, _, rfl, rfl, _, rfl, ite_nint (by decide) ⟨_, rfl, rfl, _, rfl, ite_nint (by decide) ⟨_, rfl, d.aW, _, rfl, .inr (T.g_WITH_LIST.sq _), rfl, rfl, _, rfl, if_true_of (by decide) ⟨_, rfl, _, rfl, _, rfl, _, rfl, cl, _, rfl, SqL.of hcl, fun rl hrl => ?_⟩⟩⟩⟩
    rw [ecut]
    have e1 := same_new hrl (.lst ((Ag13Neutral.nats l).map nv))
    exact ⟨a, rl, 12, Ag13Neutral.nats l, .held (Ag13Neutral.nats l), s, kt, ol, ad, rfl, X.same e1, ok, hT.ext e1, SqL.of upd_same, h12, rfl, (ask (.held (Ag13Neutral.nats l)) rfl hst).later e1⟩
  · rename_i l
    have hrow : (decide (l.length ≤ 12) && l.all fun (z : Int) => NeutralIO.within z 0 20) = true := hask
    rw [Bool.and_eq_true] at hrow
    have hl0 : ∀ z ∈ l, 0 ≤ z := fun z hz => within_lo (List.all_eq_true.mp hrow.2 z hz)
    have h12 : (Ag13Neutral.nats l).length ≤ 12 := by
      unfold Ag13Neutral.nats
      rw [List.length_map]
      exact of_decide_eq_true hrow.1
    have ecut : cutV ((flat [[13], l]).map V.int) (some 2) none = (Ag13Neutral.nats l).map nv := by
      rw [cut_two (by simp [flat]), ← nats_back hl0]
      simp [flat]
    have hat : atI ((flat [[13], l]).map V.int) 0 = some (V.int 13) := atI_nat (j := 0) rfl
    refine ⟨_, rfl, cl, _, _, V.int 13, rfl, rfl, SqL.of hcl, hat, _, rfl, rfl, _, rfl, ite_nint (by decide) ⟨_, rfl, rfl, _, rfl, ite_nint (by decide) ⟨_, rfl, d.aW, _, rfl, .inr (T.g_WITH_LIST.sq _), rfl, rfl, _, rfl, if_true_of (by decide) ⟨_, rfl, _, rfl, _, rfl, _, rfl, cl, _, rfl, SqL.of hcl, fun rl hrl => ?_⟩⟩⟩⟩
    rw [ecut]
    have e1 := same_new hrl (.lst ((Ag13Neutral.nats l).map nv))
    exact ⟨a, rl, 13, Ag13Neutral.nats l, .play (Ag13Neutral.nats l), s, kt, ol, ad, rfl, X.same e1, ok, hT.ext e1, SqL.of upd_same, h12, rfl, (ask (.play (Ag13Neutral.nats l)) rfl hst).later e1⟩
  · rename_i t
    have ht : 0 ≤ t := within_lo hask
    exact ⟨_, rfl, cl, _, _, V.int 14, rfl, rfl, SqL.of hcl, rfl, _, rfl, rfl, _, rfl, ite_nint (by decide) ⟨_, rfl, rfl, _, rfl, ite_nint (by decide) ⟨_, rfl, d.aW, _, rfl, .inr (T.g_WITH_LIST.sq _), rfl, rfl, _, rfl, if_false_of (by decide) ⟨_, rfl, d.aN, _, _, V.int 1, rfl, rfl, T.g_NUMBERS.sq _, rfl, rfl, _, rfl, ite_int rfl ⟨_, rfl, _, rfl, _, rfl, cl, _, _, V.int t, rfl, rfl, SqL.of hcl, rfl, a, 14, t.toNat, .show_ t.toNat, s, kt, ol, ad, by rw [nv_back ht]; rfl, X, ok, hT, rfl, ask (.show_ t.toNat) rfl hst⟩⟩⟩⟩⟩
  · cases hask
end
end Sh

set_option Elab.async false
set_option linter.all false
set_option maxRecDepth 100000
set_option maxHeartbeats 4000000
namespace Sh
open PySem PySem.Spec PyProof.Rows L2 LamX NdefX
theorem cut_mid {xs : List V} {i j : Nat} (h : i ≤ j) (hj : j ≤ xs.length) : cutV xs (some (i : Int)) (some (j : Int)) = (xs.drop i).take (j - i) := by
  unfold cutV
  rw [HT.sIx_nat, HT.sIx_nat, Nat.min_eq_left (by omega), Nat.min_eq_left (by omega)]
theorem callOf_some {c : List (List Int)} (h : Ag13Neutral.asked1 c = true) (h0 : ∀ x, c ≠ [[0], x]) : ∃ q, Ag13Neutral.callOf c = some q ∧ ∀ l, q ≠ .begin_ l := by
  unfold Ag13Neutral.asked1 at h
  split at h
  · exact absurd rfl (h0 _)
  all_goals first
    | exact ⟨_, rfl, fun l z => by cases z⟩
    | cases h
section
variable {P : Program} {w : World} {K : PySem.W.Frag} {mg : Str → Option Value} {base : Heap} {d : Ad} {T0 : List (Addr × Str)}
/-- the list handed in -/
def Src (K : PySem.W.Frag) (H : Hp) (a : Addr) (xs : List V) : Prop :=
  (∃ o, H a = some (.frz o (.lst xs))) ∨ ∃ (o : Obj) (its : Array Value) (n : Nat), K.lookup a = some o ∧ o.cls = .type "list" ∧ o.dict = none ∧ o.data = .seq its n ∧ its.size ≤ sizeLine ∧ Vals xs its.toList
theorem Src.sq {H : Hp} {a : Addr} {xs : List V} (h : Src K H a xs) : SqL K H a xs := by
  rcases h with h | h
  · exact .inl (.inr h)
  · exact .inr h
theorem Src.keep {H H' : Hp} {a : Addr} {xs : List V} (h : Src K H a xs) (e : ∀ b o v, H b = some (.frz o v) → H' b = some (.frz o v)) : Src K H' a xs := by
  rcases h with ⟨o, h⟩ | h
  · exact .inl ⟨o, e _ _ _ h⟩
  · exact .inr h
theorem Src.same {H H' : Hp} {a : Addr} {xs : List V} (e : Same H H') (h : Src K H a xs) : Src K H' a xs := h.keep fun b o v q => e _ _ q
/-- the history so far -/
def AbsAt (d : Ad) (H : Hp) (v : V) (gb : Addr) (i : Nat) : Ag13.Abs → Prop
  | none => v = .non
  | some s => ∃ (a kt ol : Addr) (ad : List Addr), v = .ref a ∧ HistN d H a s (Ag13.all s) s.time kt ol ad ∧ StOk s ∧ s.time ≤ i ∧ ol ≠ gb
theorem AbsAt.same {H H' : Hp} {v : V} {gb : Addr} {i j : Nat} {st : Ag13.Abs} (e : Same H H') (hij : i ≤ j) (h : AbsAt d H v gb i st) : AbsAt d H' v gb j st := by
  cases st with
  | none => exact h
  | some s =>
    obtain ⟨a, kt, ol, ad, rfl, X, k, ht, ho⟩ := h
    exact ⟨a, kt, ol, ad, rfl, X.same e, k, by omega, ho⟩
theorem AbsAt.but {H H' : Hp} {v : V} {gb : Addr} {i : Nat} {xs : List V} {st : Ag13.Abs} (hg : H gb = some (.lst xs)) (e : ∀ b u, H b = some u → b ≠ gb → H' b = some u) (h : AbsAt d H v gb i st) : AbsAt d H' v gb i st := by
  cases st with
  | none => exact h
  | some s =>
    obtain ⟨a, kt, ol, ad, rfl, X, k, ht, ho⟩ := h
    obtain ⟨⟨dx, h1⟩, h2, h3, h4⟩ := X
    refine ⟨a, kt, ol, ad, rfl, ⟨⟨dx, e _ _ h1 (ne_of h1 hg (by intro z; cases z))⟩, e _ _ h2 (ne_of h2 hg (by intro z; cases z)), e _ _ h3 ho, Paired.mapP h4 fun q p ⟨dp, hp⟩ => ⟨dp, e _ _ hp (ne_of hp hg (by intro z; cases z))⟩⟩, k, ht, ho⟩
/-- answers' own -/
def spAns (K : PySem.W.Frag) (T0 : List (Addr × Str)) : Sp := fun vs H Q _ => ∃ (a : Addr) (ns : List Int), vs = [.ref a] ∧ Src K H a (ns.map V.int) ∧ Tabs T0 H ∧ ns.length ≤ 840 ∧ PyAg13.answers_asked ns = true ∧
  ∀ (H' : Hp) (p : Addr), H' p = some (.lst ((PyAg13.answers ns).map V.int)) → Q (.ref p) H'
def MainInv (K : PySem.W.Frag) (T0 : List (Addr × Str)) (d : Ad) (lc gb : Addr) (ns whole : List Int) (σ : L2.St) (H : Hp) : Prop := ∃ (i fu : Nat) (hv : V) (out : List Int) (st : Ag13.Abs) (cs : List (List (List Int))) (v4 v5 v6 : Option V),
  σ = [some (.ref lc), some hv, some (.ref gb), some (nv i), v4, v5, v6] ∧ Src K H lc (ns.map V.int) ∧ i ≤ ns.length ∧ PyFlat.calls PyAg13.shape fu (ns.drop i) = some cs ∧ (∀ c ∈ cs, Ag13Neutral.asked1 c = true) ∧
  H gb = some (.lst (out.map V.int)) ∧ AbsAt d H hv gb i st ∧ Tabs T0 H ∧ whole = out ++ PyFlat.told (PyFlat.played Ag13Neutral.step st cs)
def placeOf (σ : L2.St) : Nat := match (σ[3]? : Option (Option V)) with
  | some (some (V.int i)) => i.toNat
  | _ => 0
theorem ok_answers {f f1 f2 f3 f4 : Addr} {fd d1 d2 d3 d4 : FuncData} {k : Nat} (hk : 5 ≤ k) (F : Fun K "answers" "answers" s_answers f fd) (T : Tx K mg d) (C : Tc K d)
    (o_end_of_call : OkD P w K mg base 1 "end_of_call" ["calls", "at"] (spEoc K) f1 d1) (o_are_kinds : OkD P w K mg base 2 "are_kinds" ["kinds"] (spAre K) f2 d2)
    (o_History : OkC P w K mg base 1 d.cH "History" ["self", "kinds"] (spHistInit K d) f3 d3) (o_answer_of : OkD P w K mg base k "answer_of" ["history", "call"] (spAof T0 d) f4 d4) :
    FnOk P w K mg base CX0 (k + 1) f fd ["calls"] (spAns K T0) := by
  refine F.ok sc_answers (fun vs H Q E h => ?_) (fun cdv A outer s H vs Q E hr h => ?_)
  · obtain ⟨a, ns, rfl, _⟩ := h; rfl
  obtain ⟨lc, ns, rfl, hS, hT, hlen, hask, hQ⟩ := h
  refine ⟨_, (pss_cons (ps_set (i := 1) sc_answers.nd rfl (by first | exact Or.inl rfl | exact Or.inr rfl) pe_non) (pss_cons (ps_set (i := 2) sc_answers.nd rfl (by first | exact Or.inl rfl | exact Or.inr rfl) (pe_lst pa_nil)) (pss_cons (ps_set (i := 3) sc_answers.nd rfl (by first | exact Or.inl rfl | exact Or.inr rfl) pe_int) (pss_cons (ps_while PassesOwn.never (pt_cmpR op_lt (pv 3) (pe_callB call_len_seq (by rfl) T.len PySem.boot_len (pa_cons (pv 0) pa_nil)) (nomark _)) (pss_cons (ps_set (i := 4) sc_answers.nd rfl (by first | exact Or.inl rfl | exact Or.inr rfl) (pe_cd o_end_of_call (hr.mono (by omega)) (pa_cons (pv 0) (pa_cons (pv 3) pa_nil)))) (pss_cons (ps_set (i := 5) sc_answers.nd rfl (by first | exact Or.inl rfl | exact Or.inr rfl) (pe_slice sl_list (pv 0) (po_some (pv 3)) (po_some (pv 4)))) (pss_cons (ps_set (i := 3) sc_answers.nd rfl (by first | exact Or.inl rfl | exact Or.inr rfl) (pv 4)) (pss_cons (ps_if (PW.pt (pw_and (pt_cmpR op_eq (pe_ix ix_list (pv 5) pe_int (fun _ _ => rfl)) (pe_gi T.g_BEGIN) (nomark _)) (pw_and1 (pt_val (pe_cd o_are_kinds (hr.mono (by omega)) (pa_cons (pe_slice sl_list (pv 5) (po_some pe_int) po_none) pa_nil)))))) (pss_cons (ps_set (i := 1) sc_answers.nd rfl (by first | exact Or.inl rfl | exact Or.inr rfl) (pe_mk o_History (hr.mono (by omega)) (pa_cons (pe_slice sl_list (pv 5) (po_some pe_int) po_none) pa_nil))) (pss_one (ps_set (i := 6) sc_answers.nd rfl (by first | exact Or.inl rfl | exact Or.inr rfl) (pe_lst (pa_cons pe_int pa_nil))))) (pss_one (ps_if (pt_cmpR op_eq (pe_ix ix_list (pv 5) pe_int (fun _ _ => rfl)) (pe_gi T.g_BEGIN) (nomark _)) (pss_one (ps_set (i := 6) sc_answers.nd rfl (by first | exact Or.inl rfl | exact Or.inr rfl) (pe_lst (pa_cons (pe_gi T.g_NO_SUCH) pa_nil)))) (pss_one (ps_if (pt_cmpR op_isN (pv 1) pe_non (nomark _)) (pss_one (ps_set (i := 6) sc_answers.nd rfl (by first | exact Or.inl rfl | exact Or.inr rfl) (pe_lst (pa_cons (pe_gi T.g_NO_HISTORY) pa_nil)))) (pss_one (ps_set (i := 6) sc_answers.nd rfl (by first | exact Or.inl rfl | exact Or.inr rfl) (pe_cd o_answer_of (hr.mono (by omega)) (pa_cons (pv 1) (pa_cons (pv 5) pa_nil)))))))))) (pss_cons (ps_expr (pe_bm PySem.F.plainAttrs_list PySem.F.slot_list_append PySem.F.type_list_append mt_append (pv 2) (pa_cons (pe_callB call_len_seq (by rfl) T.len PySem.boot_len (pa_cons (pv 6) pa_nil)) pa_nil))) (pss_one (ps_expr (pe_bm PySem.F.plainAttrs_list PySem.F.slot_list_extend PySem.F.type_list_extend mt_extend (pv 2) (pa_cons (pv 6) pa_nil)))))))))) (pss_one (ps_ret (pv 2))))))), ?_⟩
  obtain ⟨CS, hCS, hone, hwhole, hshort⟩ := asked_all hask
  refine ⟨Nat.zero_le _, fun gb hgb => ?_⟩
  have e0 := same_new hgb (.lst [])
  dsimp only
  refine go_seq ?_
  refine go_asg (go_tc ?_)
  refine go_seq ?_
  refine while_by (MainInv K T0 d lc gb ns (PyAg13.answers ns)) (fun σ _ => ns.length - placeOf σ) ?_ ?_ ?_
  · exact ⟨0, ns.length, .non, [], none, CS, none, none, none, rfl, hS.same e0, Nat.zero_le _, by rw [List.drop_zero]; exact hCS, hone, upd_same, rfl, hT.ext e0, by rw [hwhole]; rfl⟩
  · rintro σ H1 ⟨i, fu, hv, out, st, cs, v4, v5, v6, rfl, S1, hi, hcs, hone1, hg1, A1, t1, hw⟩
    refine ⟨_, rfl, _, rfl, lc, _, rfl, .inl S1.sq, _, _, rfl, rfl, _, rfl, ite2 (fun c0 => ?_) (fun c0 => ?_)⟩
    · have hlt : i < ns.length := by
        have := of_decide_eq_true c0
        rw [List.length_map] at this
        omega
      obtain ⟨p, r, hd⟩ : ∃ p r, ns.drop i = p :: r := ⟨_, _, List.drop_eq_getElem_cons hlt⟩
      rw [hd] at hcs
      obtain ⟨fu', c, t, cs', hc, hcs', rfl⟩ := calls_cons hcs
      obtain ⟨n, h0, h15, hn, hfl, hl1, hl2⟩ := call_flat hc
      have hask1 := hone1 c List.mem_cons_self
      have hfl2 : ns.drop i = flat c ++ t := hd.trans hfl
      have hfc : 1 ≤ (flat c).length := by
        have : (flat c)[0]? = some p ∨ flat c = [] := by
          cases hz : flat c with
          | nil => exact .inr rfl
          | cons a b => rw [hz] at hfl; injection hfl with e1 _; left; rw [← e1]; rfl
        rcases this with z | z
        · cases hz : flat c with
          | nil => rw [hz] at z; cases z
          | cons a b => simp
        · by_cases hp : p = 0 ∨ p = 12 ∨ p = 13
          · obtain ⟨_, x, rfl, _⟩ := hl1 hp; simp [flat] at z
          · obtain ⟨x, _, rfl⟩ := hl2 hp; simp [flat] at z
      have hjl : i + (flat c).length ≤ ns.length := by
        have := congrArg List.length hfl2
        rw [List.length_drop, List.length_append] at this
        omega
      have hdt : ns.drop (i + (flat c).length) = t := by
        rw [← List.drop_drop, hfl2, List.drop_left]
      -- past, call, at
      refine ⟨_, rfl, _, rfl, lc, i, ns, p, r, c, t, rfl, S1.sq, hd, hc, ?_⟩
      refine ⟨_, rfl, _, rfl, _, rfl, _, rfl, _, rfl, lc, _, rfl, S1.sq, fun cl hcl => ?_⟩
      have ecut : cutV (ns.map V.int) (some (i : Int)) (some ((i + (flat c).length : Nat) : Int)) = (flat c).map V.int := by
        rw [cut_mid (by omega) (by rw [List.length_map]; exact hjl), ← List.map_drop, hfl2, Nat.add_sub_cancel_left, ← List.map_take, List.take_left]
      rw [ecut]
      have e1 := same_new hcl (.lst ((flat c).map V.int))
      have hcl2 : upd H1 cl (.lst ((flat c).map V.int)) cl = some (.lst ((flat c).map V.int)) := upd_same
      generalize upd H1 cl (.lst ((flat c).map V.int)) = H2 at e1 hcl2 ⊢
      have hne : cl ≠ gb := fun z => by rw [z, hg1] at hcl; cases hcl
      have S2 := S1.same e1
      have hg2 := e1 _ _ hg1
      have A2 := A1.same e1 (show i ≤ i + (flat c).length by omega)
      have t2 := t1.ext e1
      refine ⟨_, rfl, ?_⟩
      generalize hj : i + (flat c).length = j at hjl hdt A2 ⊢
      have hij : i < j := by omega
      have hp5 : atI ((flat c).map V.int) 0 = some (V.int p) := by
        refine atI_nat (j := 0) ?_
        rw [List.getElem?_map]
        have : (flat c ++ t)[0]? = some p := by rw [← hfl]; rfl
        rw [List.getElem?_append_left (by omega)] at this
        rw [this]; rfl
      -- the end of a turn
      have tail : ∀ (D : Ends) (H5 : Hp) (hv5 : V) (l : Addr) (ans : List Int) (st5 : Ag13.Abs), (∀ σ' H', MainInv K T0 d lc gb ns (PyAg13.answers ns) σ' H' ∧ ns.length - placeOf σ' < ns.length - placeOf [some (.ref lc), some hv, some (.ref gb), some (nv i), v4, v5, v6] → D.nx σ' H') →
          H5 l = some (.lst (ans.map V.int)) → l ≠ gb → H5 gb = some (.lst (out.map V.int)) → AbsAt d H5 hv5 gb j st5 → Tabs T0 H5 → Src K H5 lc (ns.map V.int) → Ag13Neutral.step st c = (st5, ans) →
          tSeq (tDrop (tBM K "list" rAppend (tVar 2) (tCons (tCB (fun xs H Q => ∃ p ys, xs = [.ref p] ∧ (SqL K H p ys ∨ SqT K H p ys) ∧ Q (.int ys.length) H) (tCons (tVar 6) tNil)) tNil))) (tDrop (tBM K "list" rExtend (tVar 2) (tCons (tVar 6) tNil))) D
            [some (.ref lc), some hv5, some (.ref gb), some (nv j), some (nv j), some (.ref cl), some (.ref l)] H5 := by
        intro D H5 hv5 l ans st5 hD hl hlg hg5 A5 t5 S5 hst
        have hw2 : PyAg13.answers ns = (out ++ ((ans.length : Int) :: ans)) ++ PyFlat.told (PyFlat.played Ag13Neutral.step st5 cs') := by
          rw [hw]
          show out ++ PyFlat.told ((Ag13Neutral.step st c).2 :: PyFlat.played Ag13Neutral.step (Ag13Neutral.step st c).1 cs') = _
          rw [hst]
          unfold PyFlat.told
          rw [List.flatMap_cons, ← List.append_assoc]
        have hlen2 : (out ++ ((ans.length : Int) :: ans)).length ≤ 10000000 := by
          have := congrArg List.length hw2
          rw [List.length_append] at this
          omega
        rw [List.length_append, List.length_cons] at hlen2
        refine ⟨_, rfl, .inl ⟨rfl, _, SqL.of hg5⟩, _, rfl, l, _, rfl, .inl (SqL.of hl), gb, _, _, rfl, rfl, hg5, Nat.lt_of_le_of_lt (show (out.map V.int).length ≤ 10000000 by rw [List.length_map]; omega) (by decide), ?_⟩
        refine ⟨_, rfl, .inl ⟨rfl, _, SqL.of upd_same⟩, _, rfl, gb, l, _, _, rfl, rfl, upd_same, (upd_ne hlg).trans hl, Nat.le_trans (show _ ≤ 10000001 by simp; omega) (by decide), ?_⟩
        rw [upd_upd]
        refine hD _ _ ⟨⟨j, fu', hv5, out ++ ((ans.length : Int) :: ans), st5, cs', _, _, _, rfl, ?_, hjl, by rw [hdt]; exact hcs', fun x hx => hone1 x (List.mem_cons_of_mem _ hx), ?_, ?_, tabs_upd t5 hg5, hw2⟩, ?_⟩
        · exact S5.keep fun b o v q => by rw [upd_ne (ne_of q hg5 (by intro z; cases z))]; exact q
        · rw [upd_same, List.map_append, List.map_cons, List.length_map]
          simp
        · exact A5.but hg5 fun b u q hb => by rw [upd_ne hb]; exact q
        · show ns.length - (j : Int).toNat < ns.length - (i : Int).toNat
          omega
      refine ⟨_, rfl, cl, _, _, _, rfl, rfl, SqL.of hcl2, hp5, rfl, _, rfl, ite2 (fun c1 => ?_) (fun c1 => ?_)⟩
      · -- begin
        have hp0 : p = 0 := by
          have := of_decide_eq_true c1
          injection this
        subst hp0
        obtain ⟨_, x, rfl, hr2⟩ := hl1 (.inl rfl)
        have hx : ∀ z ∈ x, 0 ≤ z := fun z hz => by
          have q : (decide (x.length ≤ 10) && x.all Ag13Neutral.nine) = true := hask1
          rw [Bool.and_eq_true] at q
          have := List.all_eq_true.mp q.2 z hz
          unfold Ag13Neutral.nine NeutralIO.within at this
          rw [Bool.and_eq_true] at this
          exact of_decide_eq_true this.1
        have hx10 : x.length ≤ 10 := by
          have q : (decide (x.length ≤ 10) && x.all Ag13Neutral.nine) = true := hask1
          rw [Bool.and_eq_true] at q
          exact of_decide_eq_true q.1
        have ecut2 : cutV ((flat [[0], x]).map V.int) (some 2) none = (Ag13Neutral.nats x).map nv := by
          rw [cut_two (by simp [flat]), ← nats_back hx]
          simp [flat]
        have hnl : (Ag13Neutral.nats x).length = x.length := by unfold Ag13Neutral.nats; rw [List.length_map]
        refine ⟨_, rfl, _, rfl, cl, _, rfl, SqL.of hcl2, fun k1 hk1 => ?_⟩
        rw [ecut2]
        have e2 := same_new hk1 (.lst ((Ag13Neutral.nats x).map nv))
        refine ⟨k1, Ag13Neutral.nats x, rfl, SqL.of upd_same, by omega, fun H3 e3 => ⟨_, rfl, ?_⟩⟩
        have e13 := e2.trans e3
        have hstep : Ag13Neutral.step st [[0], x] = Ag13.step st (.begin_ (Ag13Neutral.nats x)) := rfl
        cases hko : kindsOk (Ag13Neutral.nats x) with
        | true =>
          refine iteT ?_
          unfold kindsOk at hko
          rw [Bool.and_eq_true] at hko
          have hk13 := of_decide_eq_true hko.1
          have hk6 : ∀ z ∈ Ag13Neutral.nats x, z < 6 := fun z hz => of_decide_eq_true (List.all_eq_true.mp hko.2 z hz)
          have hst : Ag13Neutral.step st [[0], x] = (some ⟨Ag13Neutral.nats x, [], 0⟩, [0]) := by
            rw [hstep]
            have hcond : ¬ ((Ag13Neutral.nats x).isEmpty = true ∨ (3 < (Ag13Neutral.nats x).length ∨ (Ag13Neutral.nats x).any (fun (n : Nat) => decide (5 < n)) = true)) := by
              rintro (z | z | z)
              · rw [List.isEmpty_iff] at z; rw [z] at hk13; simp at hk13
              · omega
              · obtain ⟨y, hy, h5⟩ := List.any_eq_true.mp z
                have := hk6 y hy
                have := of_decide_eq_true h5
                omega
            cases st with
            | none => unfold Ag13.step; dsimp only; rw [if_neg hcond]
            | some s0 => unfold Ag13.step; dsimp only; rw [if_neg hcond]
          refine ⟨_, rfl, _, rfl, cl, _, rfl, SqL.of (e13 _ _ hcl2), fun k2 hk2 => ?_⟩
          rw [ecut2]
          have e4 := same_new hk2 (.lst ((Ag13Neutral.nats x).map nv))
          intro y dy hy hdy ney
          have e5 : Same (upd H3 k2 (.lst ((Ag13Neutral.nats x).map nv))) (upd (upd (upd H3 k2 (.lst ((Ag13Neutral.nats x).map nv))) dy (.own y)) y (.ins d.cH dy [])) := fun b u q => by
            rw [upd_ne (ne_of_none q hy), upd_ne (ne_of_none q hdy)]; exact q
          refine ⟨y, dy, k2, Ag13Neutral.nats x, rfl, upd_same, .inl (SqL.of (e5 _ _ upd_same)), fun H6 kt6 ol6 X6 k6 hol6 => ⟨rfl, ?_⟩⟩
          have e6 : Same H2 H6 := fun b u q => k6 b u (e5 _ _ (e4 _ _ (e13 _ _ q))) (ne_of_none (e4 _ _ (e13 _ _ q)) hy)
          refine ⟨one_sz, fun l hl => ?_⟩
          have e7 := same_new hl (.lst [V.int 0])
          refine tail _ _ (.ref y) l [0] (some ⟨Ag13Neutral.nats x, [], 0⟩) (fun σ' H' z => z) upd_same (fun z => ?_) (e7 _ _ (e6 _ _ hg2)) ⟨y, kt6, ol6, [], rfl, X6.same e7, start_ok hk13.1 hk13.2 hk6, Nat.zero_le _, fun z => ?_⟩ (t2.ext (e6.trans e7)) (S2.same (e6.trans e7)) hst
          · rw [z, e6 _ _ hg2] at hl; cases hl
          · rw [z, e5 _ _ (e4 _ _ (e13 _ _ hg2))] at hol6; cases hol6
        | false =>
          refine iteF ?_
          refine ⟨_, rfl, cl, _, _, _, rfl, rfl, SqL.of (e13 _ _ hcl2), hp5, rfl, _, rfl, iteT ?_⟩
          refine ⟨one_sz, fun l hl => ?_⟩
          have e7 := same_new hl (.lst [V.int (-1)])
          have hst : Ag13Neutral.step st [[0], x] = (st, [-1]) := by
            rw [hstep]
            have hcond : ((Ag13Neutral.nats x).isEmpty = true ∨ (3 < (Ag13Neutral.nats x).length ∨ (Ag13Neutral.nats x).any (fun (n : Nat) => decide (5 < n)) = true)) := by
              unfold kindsOk at hko
              by_cases h1 : (Ag13Neutral.nats x).isEmpty = true
              · exact .inl h1
              · by_cases h3 : 3 < (Ag13Neutral.nats x).length
                · exact .inr (.inl h3)
                · right; right
                  have hpos : 1 ≤ (Ag13Neutral.nats x).length := by
                    cases hz : Ag13Neutral.nats x with
                    | nil => rw [hz] at h1; exact absurd rfl h1
                    | cons a b => simp
                  rw [decide_eq_true ⟨hpos, by omega⟩, Bool.true_and] at hko
                  rw [List.any_eq_true]
                  by_cases hz : ∃ y, y ∈ Ag13Neutral.nats x ∧ decide (5 < y) = true
                  · exact hz
                  · exfalso
                    rw [Bool.eq_false_iff] at hko
                    apply hko
                    rw [List.all_eq_true]
                    intro y hy
                    refine decide_eq_true ?_
                    rcases Nat.lt_or_ge y 6 with q | q
                    · exact q
                    · exact absurd ⟨y, hy, decide_eq_true (by omega)⟩ hz
            cases st with
            | none => unfold Ag13.step; dsimp only; rw [if_pos hcond]
            | some s0 => unfold Ag13.step; dsimp only; rw [if_pos hcond]
          refine tail _ _ hv l [-1] st (fun σ' H' z => z) upd_same (fun z => ?_) (e7 _ _ (e13 _ _ hg2)) (A2.same (e13.trans e7) (Nat.le_refl _)) (t2.ext (e13.trans e7)) (S2.same (e13.trans e7)) hst
          rw [z, e13 _ _ hg2] at hl; cases hl
      · have hp0 : p ≠ 0 := fun z => c1 (decide_eq_true (by rw [z]))
        have hc0 : ∀ x, c ≠ [[0], x] := fun x z => by
          subst z
          have : (flat [[0], x] ++ t)[0]? = some p := by rw [← hfl]; rfl
          simp [flat] at this
          exact hp0 this.symm
        refine iteF ?_
        refine ⟨_, rfl, cl, _, _, _, rfl, rfl, SqL.of hcl2, hp5, rfl, _, rfl, ?_⟩
        rw [show decide (V.int p = V.int 0) = false from decide_eq_false fun z => hp0 (by injection z)]
        refine iteF ?_
        obtain ⟨q, hq⟩ := callOf_some hask1 hc0
        refine ⟨_, rfl, rfl, _, rfl, ?_⟩
        cases st with
        | none =>
          have hv0 : hv = .non := A2
          subst hv0
          refine iteT ⟨one_sz, fun l hl => ?_⟩
          have e7 := same_new hl (.lst [V.int (-9)])
          have hst : Ag13Neutral.step none c = (none, [-9]) := by
            unfold Ag13Neutral.step
            rw [hq.1]
            cases q with
            | begin_ l => exact absurd rfl (hq.2 l)
            | _ => rfl
          refine tail _ _ .non l [-9] none (fun σ' H' z => z) upd_same (fun z => ?_) (e7 _ _ hg2) rfl (t2.ext e7) (S2.same e7) hst
          rw [z, hg2] at hl; cases hl
        | some s0 =>
          obtain ⟨a, kt, ol, ad, rfl, X, ok, htm, hog⟩ := A2
          refine iteF ?_
          have hs := step_ok ok hq.2
          obtain ⟨s', h1, h2, h3⟩ := hs
          have hst : Ag13Neutral.step (some s0) c = (some s', (Ag13.step (some s0) q).2) := by
            unfold Ag13Neutral.step
            rw [hq.1]
            exact Prod.ext h1 rfl
          refine ⟨_, rfl, _, rfl, a, cl, s0, s', kt, ol, ad, c, _, rfl, X, ok, by omega, t2, hcl2, hask1, hc0, hst, fun H7 ad7 l X7 t7 hl hln far => ?_⟩
          have hga : gb ≠ a := by
            obtain ⟨dx, hx⟩ := X.ins
            exact ne_of hg2 hx (by intro z; cases z)
          have hgd : gb ∉ ad := fun z => by
            obtain ⟨m, hm⟩ := List.mem_iff_getElem?.mp z
            obtain ⟨qq, _, dx, hx⟩ := Paired.getL X.ops hm
            exact ne_of hg2 hx (by intro z; cases z) rfl
          refine tail _ _ (.ref a) l _ (some s') (fun σ' H' z => z) hl (fun z => ?_) (far _ _ hg2 (fun _ z => nomatch z) hga hog.symm hgd) ⟨a, kt, ol, ad7, rfl, X7, h2, ?_, hog⟩ t7 (S2.keep fun b o v z => ?_) hst
          · exact hln gb _ hg2 (fun _ y => nomatch y) z.symm
          · obtain ⟨_, _, _, _, _, _, _, ht0, _⟩ := A1
            omega
          · refine far _ _ z (fun _ y => nomatch y) ?_ ?_ ?_
            · obtain ⟨dx, hx⟩ := X.ins
              exact ne_of z hx (by intro y; cases y)
            · exact ne_of z X.ol (by intro y; cases y)
            · intro y
              obtain ⟨m, hm⟩ := List.mem_iff_getElem?.mp y
              obtain ⟨qq, _, dx, hx⟩ := Paired.getL X.ops hm
              exact ne_of z hx (by intro z; cases z) rfl
    · have hge : i = ns.length := by
        have : ¬ (i : Int) < ((ns.map V.int).length : Int) := fun z => c0 (decide_eq_true z)
        rw [List.length_map] at this
        omega
      subst hge
      rw [List.drop_length] at hcs
      have := calls_nil hcs
      subst this
      have hw2 : PyAg13.answers ns = out := by rw [hw]; simp [PyFlat.told, PyFlat.played]
      exact ⟨_, rfl, hQ _ gb (by rw [hw2]; exact hg1)⟩
  · intro σ H1 Q1 Q2 h q
    obtain ⟨v, h1, v2, h2, pp, ys, e1, h3, i1, j1, e2, e3, kk, e4, z⟩ := q
    exact ⟨v, h1, v2, h2, pp, ys, e1, h3, i1, j1, e2, e3, kk, e4, h _ _ z⟩
end
end Sh

set_option Elab.async false
set_option linter.all false
set_option maxRecDepth 100000
set_option maxHeartbeats 4000000
namespace Sh
open PySem PySem.Spec PyProof.Rows L2 LamX NdefX
/-! ### what the top has written -/
structure RawD (K : PySem.W.Frag) (x qual : Str) (st : Stmt) (f : Addr) : Prop where
  a : PySem.W.nsIn K mainGlobals x = some (some (.ref f))
  F : ∃ fd, Fun K x qual st f fd
theorem rawD {K : PySem.W.Frag} {x qual : Str} {st : Stmt} {f : Addr} {oc : Value} {od an : Option Addr} {sl : Array (Option Value)} {kV dc pm cd ct : Value} (a : PySem.W.nsIn K mainGlobals x = some (some (.ref f)))
    (l : K.lookup f = some ⟨oc, od, .func (PySem.W.fnOf x qual (defArgs st) (defBody st) (defScope st) .none kV dc pm an cd ct), sl⟩) (c : PySem.W.codeIn K cd qual = true) (k : PySem.W.keepIn K (.ref f) = true) : RawD K x qual st f := ⟨a, _, fun_mk l c k⟩
structure RawM (K : PySem.W.Frag) (C : Addr) (x qual : Str) (st : Stmt) (f : Addr) : Prop where
  a : Meth K C x f
  F : ∃ fd, Fun K x qual st f fd
theorem rawM {K : PySem.W.Frag} {C : Addr} {x qual : Str} {st : Stmt} {f : Addr} {oc : Value} {od an : Option Addr} {sl : Array (Option Value)} {kV dc pm cd ct : Value} (a : PySem.W.findIn K (.ref C) x = some (some (.ref f))) (i : PySem.W.isFn K (.ref f) = true)
    (l : K.lookup f = some ⟨oc, od, .func (PySem.W.fnOf x qual (defArgs st) (defBody st) (defScope st) .none kV dc pm an cd ct), sl⟩) (c : PySem.W.codeIn K cd qual = true) (k : PySem.W.keepIn K (.ref f) = true) : RawM K C x qual st f := ⟨⟨a, i, k⟩, _, fun_mk l c k⟩
structure RawC (K : PySem.W.Frag) (x : Str) (names : List Str) (C : Addr) : Prop where
  a : PySem.W.nsIn K mainGlobals x = some (some (.ref C))
  c : Cls K C
  makes : PySem.W.makesIn K C = true
  kp : PySem.W.keepIn K (.ref C) = true
  no : ∀ f ∈ names, NoAttr K C f
theorem noAll_nil {K : PySem.W.Frag} {C : Addr} : ∀ f ∈ ([] : List Str), NoAttr K C f := fun f h => by simp at h
theorem noAll_cons {K : PySem.W.Frag} {C : Addr} {g : Str} {r : List Str} (h : PySem.W.findIn K (.ref C) g = some none) (t : ∀ f ∈ r, NoAttr K C f) : ∀ f ∈ g :: r, NoAttr K C f := fun f hf => by
  rcases List.mem_cons.mp hf with rfl | hf
  · exact h
  · exact t f hf
theorem rawC {K : PySem.W.Frag} {x : Str} {names : List Str} {C : Addr} (a : PySem.W.nsIn K mainGlobals x = some (some (.ref C))) (pg : PySem.W.plainGet K C Str.empty = true) (hd : PySem.W.hasDictIn K C = true) (po : PySem.W.plainOver K C = true)
    (sa : PySem.W.findIn K (.ref C) "__setattr__" = some (some (.builtin "object.__setattr__"))) (mk : PySem.W.makesIn K C = true) (kc : PySem.W.keepIn K (.ref C) = true) (no : ∀ f ∈ names, NoAttr K C f) : RawC K x names C := ⟨a, ⟨pg, hd, po, sa⟩, mk, kc, no⟩
structure RawT (K : PySem.W.Frag) (x : Str) (ns : List Int) (a : Addr) : Prop where
  nm : PySem.W.nsIn K mainGlobals x = some (some (.ref a))
  s : ∃ (o : Obj) (its : Array Value) (n : Nat), K.lookup a = some o ∧ o.cls = .type "tuple" ∧ o.data = .seq its n ∧ its.size ≤ sizeLine ∧ Vals (ns.map V.int) its.toList
def intIn (K : PySem.W.Frag) (x : Str) (n : Int) : Bool := match PySem.W.nsIn K mainGlobals x with
  | some (some (.int j _)) => decide (j = n)
  | _ => false
theorem gi_of {K : PySem.W.Frag} {h : Heap} {mg : Str → Option Value} {x : Str} {n : Int} (X : K.In h) (G : h.Ns mainGlobals mg) (q : intIn K x n = true) : GI mg x n := by
  unfold intIn at q
  split at q
  · rename_i j t e
    have := of_decide_eq_true q
    subst this
    exact ⟨t, PySem.W.mg_of X G e⟩
  · cases q
theorem gt_of {K : PySem.W.Frag} {h : Heap} {mg : Str → Option Value} {x : Str} {ns : List Int} {a : Addr} (X : K.In h) (G : h.Ns mainGlobals mg) (q : RawT K x ns a) : GT K mg x a ns := ⟨PySem.W.mg_of X G q.nm, q.s⟩
/-- the tokens of written numbers are of no matter -/
def intsOf : List Value → Option (List Int)
  | [] => some []
  | .int i _ :: r => (intsOf r).map (i :: ·)
  | _ :: _ => none
theorem vals_ints : ∀ {us : List Value} {ns : List Int}, intsOf us = some ns → Vals (ns.map V.int) us
  | [], ns, h => by cases h; exact .nil
  | u :: r, ns, h => by
    cases u with
    | int i t =>
      unfold intsOf at h
      obtain ⟨m, h1, rfl⟩ := Option.map_eq_some_iff.mp h
      exact .cons ⟨t, rfl⟩ (vals_ints h1)
    | _ => simp [intsOf] at h
def tupIn (K : PySem.W.Frag) (a : Addr) (ns : List Int) : Bool := match K.lookup a with
  | some ⟨.type "tuple", _, .seq its _, _⟩ => decide (intsOf its.toList = some ns) && decide (its.size ≤ 1000)
  | _ => false
theorem rawT {K : PySem.W.Frag} {x : Str} {ns : List Int} {a : Addr} (h : PySem.W.nsIn K mainGlobals x = some (some (.ref a))) (t : tupIn K a ns = true) : RawT K x ns a := by
  refine ⟨h, ?_⟩
  unfold tupIn at t
  split at t
  · rename_i od its n sl hk
    rw [Bool.and_eq_true] at t
    exact ⟨_, its, n, hk, rfl, rfl, Nat.le_trans (of_decide_eq_true t.2) (by decide), vals_ints (of_decide_eq_true t.1)⟩
  · cases t
/-! ### the defs that make lambdas -/
structure RawF (K : PySem.W.Frag) (x qual : Str) (st : Stmt) (f c P : Addr) : Prop where
  a : PySem.W.nsIn K mainGlobals x = some (some (.ref f))
  F : ∃ fd, FunC K x qual st f fd c
  t : PySem.W.tabIn K x = some (c, P)
  n : K.lookup P = none
theorem rawF {K : PySem.W.Frag} {x qual : Str} {st : Stmt} {f c P : Addr} {oc oc2 : Value} {od od2 an : Option Addr} {sl sl2 : Array (Option Value)} {kV dc pm ct : Value} {vs : Array Value} (a : PySem.W.nsIn K mainGlobals x = some (some (.ref f)))
    (l : K.lookup f = some ⟨oc, od, .func (PySem.W.fnOf x qual (defArgs st) (defBody st) (defScope st) .none kV dc pm an (.ref c) ct), sl⟩) (cd : PySem.W.codeIn K (.ref c) qual = true) (k : PySem.W.keepIn K (.ref f) = true)
    (lc : K.lookup c = some ⟨oc2, od2, .fields vs, sl2⟩) (hv : vs[11]? = some (.ref P)) (n : K.lookup P = none) : RawF K x qual st f c P := by
  refine ⟨a, ⟨_, ⟨oc, od, kV, dc, pm, an, ct, sl, rfl, l, cd⟩, k⟩, ?_, n⟩
  unfold PySem.W.tabIn
  rw [a]
  dsimp only
  rw [l]
  show (match K.lookup c with
    | some ⟨_, _, .fields vs, _⟩ => (match (vs[11]? : Option Value) with
      | some (.ref P) => some (c, P)
      | _ => none)
    | _ => none) = some (c, P)
  rw [lc]
  dsimp only
  rw [hv]
theorem tab_any {q : Program} {loose : List Str} {mean : ExcName → Option Value} {mg mb : Str → Option Value} {h : Heap} {K : PySem.W.Frag} {x : Str} {c P : Addr} (T : Top q loose mean mg mb h) (X : K.In h) (hr : ((recsOf q).any fun e => e.name == x) = true) (ht : PySem.W.tabIn K x = some (c, P)) :
    PySem.W.CodeHd h c P ∧ h.get? P = some { cls := .none, data := .fields #[] } := by
  obtain ⟨e, he, hx⟩ := List.any_eq_true.mp hr
  obtain ⟨d, hd⟩ : ∃ d, (recsOf q).find? (fun e => e.name == x) = some d := by
    rw [← Option.isSome_iff_exists, List.find?_isSome]
    exact ⟨e, he, hx⟩
  exact PySem.W.tab_of T X hd ht
/-- the def of the row, its tables and its promise -/
def Built (P : Program) (w : World) (K : PySem.W.Frag) (mg : Str → Option Value) (fa : Addr) (h : Heap) : Prop :=
  ∃ (fd : FuncData) (cs : List (Addr × Addr)) (T0 : List (Addr × Str)), (∀ p ∈ cs, PySem.W.CodeHd h p.1 p.2 ∧ h.get? p.2 = some { cls := .none, data := .fields #[] }) ∧ (∀ p ∈ cs, K.lookup p.2 = none) ∧
    (∀ (s : Shared) (us : List Value), us.length = (["calls"] : List Str).length → BindsTo s fd ⟨us, []⟩ ((["calls"] : List Str).zip us)) ∧
    (∀ base : Heap, K.In base → base.Ns mainGlobals mg → (∀ p ∈ cs, TabB base mg p.1 p.2) → FnOk P w K mg base CX0 29 fa fd ["calls"] (spAns K T0)) ∧
    ∀ H : Hp, (∀ p ∈ cs, H p.2 = some (.tbl #[])) → Tabs T0 H
theorem fin {r : PySem.W.OpenSpec} {w : World} {K : PySem.W.Frag} {mg : Str → Option Value} {fa : Addr} {h : Heap} (b : Built r.prog w K mg fa h)
    (S : ∀ (T0 : List (Addr × Str)) (H0 H : Hp) (xs : List V) (a : PySem.W.Codec.denoteAll r.args), OnlyF H0 → Same H0 H → Tabs T0 H → PySem.W.Codec.withinAll r.args a = true → PySem.W.Codec.app r.args r.asked a = true → DwAll K H0 xs (PySem.W.Codec.encAll r.args a) →
      spAns K T0 xs H (fun v H' => Dw K H' v (r.ret.enc (PySem.W.Codec.app r.args r.f a))) fun _ _ _ => False) : SpecAtT r w K 29 ["calls"] mg fa h := by
  obtain ⟨fd, cs, T0, h1, h2, h3, h4, h5⟩ := b
  exact ⟨fd, cs, spAns K T0, h1, h2, h3, h4, fun H0 H xs a q1 q2 q3 q4 q5 q6 => S T0 H0 H xs a q1 q2 (h5 H q3) q4 q5 q6⟩
theorem build {P : Program} {w : World} {K : PySem.W.Frag} {h : Heap} {mg mb : Str → Option Value} {mean : ExcName → Option Value} {q : Program} {loose : List Str} {fa : Addr} (X : K.In h) (Tp : Top q loose mean mg mb h) (hfa : mg "answers" = some (.ref fa))
    (E1 : ((recsOf q).any fun e => e.name == "explains_thing") = true) (E2 : ((recsOf q).any fun e => e.name == "came_about_for") = true)
    (D_is_kind : ∃ f, RawD K "is_kind" "is_kind" s_is_kind f)
    (D_is_action : ∃ f, RawD K "is_action" "is_action" s_is_action f)
    (D_held_at_first : ∃ f, RawD K "held_at_first" "held_at_first" s_held_at_first f)
    (D_all_held_at_first : ∃ f, RawD K "all_held_at_first" "all_held_at_first" s_all_held_at_first f)
    (D_do_operation : ∃ f, RawD K "do_operation" "do_operation" s_do_operation f)
    (D_done : ∃ f, RawD K "done" "done" s_done f)
    (D_done_to_cell : ∃ f, RawD K "done_to_cell" "done_to_cell" s_done_to_cell f)
    (D_done_to_count : ∃ f, RawD K "done_to_count" "done_to_count" s_done_to_count f)
    (D_done_to_row : ∃ f, RawD K "done_to_row" "done_to_row" s_done_to_row f)
    (D_done_to_pile : ∃ f, RawD K "done_to_pile" "done_to_pile" s_done_to_pile f)
    (D_done_to_set : ∃ f, RawD K "done_to_set" "done_to_set" s_done_to_set f)
    (D_done_to_lock : ∃ f, RawD K "done_to_lock" "done_to_lock" s_done_to_lock f)
    (D_is_client : ∃ f, RawD K "is_client" "is_client" s_is_client f)
    (D_known_by : ∃ f, RawD K "known_by" "known_by" s_known_by f)
    (D_first_in_clients_order : ∃ f, RawD K "first_in_clients_order" "first_in_clients_order" s_first_in_clients_order f)
    (D_first_but_for : ∃ f, RawD K "first_but_for" "first_but_for" s_first_but_for f)
    (D_first_in_times_order : ∃ f, RawD K "first_in_times_order" "first_in_times_order" s_first_in_times_order f)
    (D_first_row : ∃ f, RawD K "first_row" "first_row" s_first_row f)
    (D_mark : ∃ f, RawD K "mark" "mark" s_mark f)
    (D_is_write : ∃ f, RawD K "is_write" "is_write" s_is_write f)
    (D_is_asked : ∃ f, RawD K "is_asked" "is_asked" s_is_asked f)
    (D_has_seen : ∃ f, RawD K "has_seen" "has_seen" s_has_seen f)
    (D_followed_at_once : ∃ f, RawD K "followed_at_once" "followed_at_once" s_followed_at_once f)
    (D_followed : ∃ f, RawD K "followed" "followed" s_followed f)
    (D_linear : ∃ f, RawD K "linear" "linear" s_linear f)
    (D_linear_for_thing : ∃ f, RawD K "linear_for_thing" "linear_for_thing" s_linear_for_thing f)
    (D_order : ∃ f, RawD K "order" "order" s_order f)
    (D_shortest : ∃ f, RawD K "shortest" "shortest" s_shortest f)
    (D_serial : ∃ f, RawD K "serial" "serial" s_serial f)
    (D_own : ∃ f, RawD K "own" "own" s_own f)
    (D_causal : ∃ f, RawD K "causal" "causal" s_causal f)
    (D_late : ∃ f, RawD K "late" "late" s_late f)
    (D_blame : ∃ f, RawD K "blame" "blame" s_blame f)
    (D_show : ∃ f, RawD K "show" "show" s_show f)
    (D_play : ∃ f, RawD K "play" "play" s_play f)
    (D_held : ∃ f, RawD K "held" "held" s_held f)
    (D_is_of : ∃ f, RawD K "is_of" "is_of" s_is_of f)
    (D_has_all_ended : ∃ f, RawD K "has_all_ended" "has_all_ended" s_has_all_ended f)
    (D_stands_behind_all : ∃ f, RawD K "stands_behind_all" "stands_behind_all" s_stands_behind_all f)
    (D_told_by : ∃ f, RawD K "told_by" "told_by" s_told_by f)
    (D_answers : ∃ f, RawD K "answers" "answers" s_answers f)
    (D_end_of_call : ∃ f, RawD K "end_of_call" "end_of_call" s_end_of_call f)
    (D_are_kinds : ∃ f, RawD K "are_kinds" "are_kinds" s_are_kinds f)
    (D_answer_of : ∃ f, RawD K "answer_of" "answer_of" s_answer_of f)
    (D_answer_about_row : ∃ f, RawD K "answer_about_row" "answer_about_row" s_answer_about_row f)
    (D_answer_about_one : ∃ f, RawD K "answer_about_one" "answer_about_one" s_answer_about_one f)
    (D_answer_about_all : ∃ f, RawD K "answer_about_all" "answer_about_all" s_answer_about_all f)
    (DC : ∃ (f0 c0 P0 : Addr) (f1 c1 P1 : Addr), RawF K "explains_thing" "explains_thing" s_explains_thing f0 c0 P0 ∧ RawF K "came_about_for" "came_about_for" s_came_about_for f1 c1 P1 ∧ P0 ≠ P1)
    (C_Operation : ∃ C, RawC K "Operation" opN C ∧ (∃ f, RawM K C "__init__" "Operation.__init__" s_Operation_init f))
    (C_History : ∃ C, RawC K "History" histN C ∧ (∃ f, RawM K C "__init__" "History.__init__" s_History_init f) ∧ (∃ f, RawM K C "has_thing" "History.has_thing" s_History_has_thing f) ∧ (∃ f, RawM K C "has_operation" "History.has_operation" s_History_has_operation f) ∧ (∃ f, RawM K C "pending" "History.pending" s_History_pending f) ∧ (∃ f, RawM K C "call" "History.call" s_History_call f) ∧ (∃ f, RawM K C "end" "History.end" s_History_end f) ∧ (∃ f, RawM K C "on_thing" "History.on_thing" s_History_on_thing f) ∧ (∃ f, RawM K C "without" "History.without" s_History_without f) ∧ (∃ f, RawM K C "first_events" "History.first_events" s_History_first_events f))
    (C_Search : ∃ C, RawC K "Search" searchN C ∧ (∃ f, RawM K C "__init__" "Search.__init__" s_Search_init f) ∧ (∃ f, RawM K C "first_from" "Search.first_from" s_Search_first_from f) ∧ (∃ f, RawM K C "may_follow" "Search.may_follow" s_Search_may_follow f) ∧ (∃ f, RawM K C "first_with" "Search.first_with" s_Search_first_with f) ∧ (∃ f, RawM K C "must_answer" "Search.must_answer" s_Search_must_answer f))
    (I_NO_SUCH : intIn K "NO_SUCH" (-1) = true)
    (I_NOT_NOW : intIn K "NOT_NOW" (-2) = true)
    (I_NONE_FOUND : intIn K "NONE_FOUND" (-3) = true)
    (I_FULL : intIn K "FULL" (-5) = true)
    (I_NOT_ASKED : intIn K "NOT_ASKED" (-6) = true)
    (I_NO_HISTORY : intIn K "NO_HISTORY" (-9) = true)
    (I_TOO_EARLY : intIn K "TOO_EARLY" (-2) = true)
    (I_OTHER_ANSWER : intIn K "OTHER_ANSWER" (-3) = true)
    (I_CELL : intIn K "CELL" (0) = true)
    (I_COUNT : intIn K "COUNT" (1) = true)
    (I_ROW : intIn K "ROW" (2) = true)
    (I_PILE : intIn K "PILE" (3) = true)
    (I_SET : intIn K "SET" (4) = true)
    (I_MOST_OPERATIONS : intIn K "MOST_OPERATIONS" (9) = true)
    (I_READ : intIn K "READ" (0) = true)
    (I_WRITE : intIn K "WRITE" (1) = true)
    (I_NOT_ENDED : intIn K "NOT_ENDED" (-1) = true)
    (I_MOST_THINGS : intIn K "MOST_THINGS" (3) = true)
    (I_BEGIN : intIn K "BEGIN" (0) = true)
    (I_CALL : intIn K "CALL" (1) = true)
    (I_END : intIn K "END" (2) = true)
    (I_LINEAR : intIn K "LINEAR" (3) = true)
    (I_THING : intIn K "THING" (4) = true)
    (I_ORDER : intIn K "ORDER" (5) = true)
    (I_SHORTEST : intIn K "SHORTEST" (6) = true)
    (I_SERIAL : intIn K "SERIAL" (7) = true)
    (I_OWN : intIn K "OWN" (8) = true)
    (I_CAUSAL : intIn K "CAUSAL" (9) = true)
    (I_LATE : intIn K "LATE" (10) = true)
    (I_HELD : intIn K "HELD" (12) = true)
    (U_OPERATIONS : ∃ a, RawT K "OPERATIONS" [3, 2, 2, 2, 3, 2] a)
    (U_CLIENTS : ∃ a, RawT K "CLIENTS" [0, 1, 2, 3] a)
    (U_NUMBERS : ∃ a, RawT K "NUMBERS" [0, 5, 2, 0, 1, 0, 0, 0, 1, 0, 1, 0, 0, 0, 1] a)
    (U_WITH_LIST : ∃ a, RawT K "WITH_LIST" [0, 12, 13] a)
    (Z_len : PySem.W.nsIn K mainGlobals "len" = some none)
    (Z_tuple : PySem.W.nsIn K mainGlobals "tuple" = some none)
    (Z_sorted : PySem.W.nsIn K mainGlobals "sorted" = some none)
    (Z_range : PySem.W.nsIn K mainGlobals "range" = some none)
    (Z_all : PySem.W.nsIn K mainGlobals "all" = some none)
    (Z_any : PySem.W.nsIn K mainGlobals "any" = some none)
    (Z_set : PySem.W.nsIn K mainGlobals "set" = some none)
    (Z_enumerate : PySem.W.nsIn K mainGlobals "enumerate" = some none) :
    Built P w K mg fa h := by
  have G := Tp.g
  obtain ⟨f_is_kind, A_is_kind, fd_is_kind, F_is_kind⟩ := D_is_kind
  have m_is_kind := PySem.W.mg_of X G A_is_kind
  have b_is_kind := F_is_kind.binds (ps := ["kind"]) fun _ _ _ _ _ _ us hl => match us, hl with | [_], _ => rfl
  obtain ⟨f_is_action, A_is_action, fd_is_action, F_is_action⟩ := D_is_action
  have m_is_action := PySem.W.mg_of X G A_is_action
  have b_is_action := F_is_action.binds (ps := ["kind", "action"]) fun _ _ _ _ _ _ us hl => match us, hl with | [_, _], _ => rfl
  obtain ⟨f_held_at_first, A_held_at_first, fd_held_at_first, F_held_at_first⟩ := D_held_at_first
  have m_held_at_first := PySem.W.mg_of X G A_held_at_first
  have b_held_at_first := F_held_at_first.binds (ps := ["kind"]) fun _ _ _ _ _ _ us hl => match us, hl with | [_], _ => rfl
  obtain ⟨f_all_held_at_first, A_all_held_at_first, fd_all_held_at_first, F_all_held_at_first⟩ := D_all_held_at_first
  have m_all_held_at_first := PySem.W.mg_of X G A_all_held_at_first
  have b_all_held_at_first := F_all_held_at_first.binds (ps := ["kinds"]) fun _ _ _ _ _ _ us hl => match us, hl with | [_], _ => rfl
  obtain ⟨f_do_operation, A_do_operation, fd_do_operation, F_do_operation⟩ := D_do_operation
  have m_do_operation := PySem.W.mg_of X G A_do_operation
  have b_do_operation := F_do_operation.binds (ps := ["kinds", "held", "operation"]) fun _ _ _ _ _ _ us hl => match us, hl with | [_, _, _], _ => rfl
  obtain ⟨f_done, A_done, fd_done, F_done⟩ := D_done
  have m_done := PySem.W.mg_of X G A_done
  have b_done := F_done.binds (ps := ["kind", "held", "action", "a", "b"]) fun _ _ _ _ _ _ us hl => match us, hl with | [_, _, _, _, _], _ => rfl
  obtain ⟨f_done_to_cell, A_done_to_cell, fd_done_to_cell, F_done_to_cell⟩ := D_done_to_cell
  have m_done_to_cell := PySem.W.mg_of X G A_done_to_cell
  have b_done_to_cell := F_done_to_cell.binds (ps := ["held", "action", "a", "b"]) fun _ _ _ _ _ _ us hl => match us, hl with | [_, _, _, _], _ => rfl
  obtain ⟨f_done_to_count, A_done_to_count, fd_done_to_count, F_done_to_count⟩ := D_done_to_count
  have m_done_to_count := PySem.W.mg_of X G A_done_to_count
  have b_done_to_count := F_done_to_count.binds (ps := ["held", "action", "a"]) fun _ _ _ _ _ _ us hl => match us, hl with | [_, _, _], _ => rfl
  obtain ⟨f_done_to_row, A_done_to_row, fd_done_to_row, F_done_to_row⟩ := D_done_to_row
  have m_done_to_row := PySem.W.mg_of X G A_done_to_row
  have b_done_to_row := F_done_to_row.binds (ps := ["held", "action", "a"]) fun _ _ _ _ _ _ us hl => match us, hl with | [_, _, _], _ => rfl
  obtain ⟨f_done_to_pile, A_done_to_pile, fd_done_to_pile, F_done_to_pile⟩ := D_done_to_pile
  have m_done_to_pile := PySem.W.mg_of X G A_done_to_pile
  have b_done_to_pile := F_done_to_pile.binds (ps := ["held", "action", "a"]) fun _ _ _ _ _ _ us hl => match us, hl with | [_, _, _], _ => rfl
  obtain ⟨f_done_to_set, A_done_to_set, fd_done_to_set, F_done_to_set⟩ := D_done_to_set
  have m_done_to_set := PySem.W.mg_of X G A_done_to_set
  have b_done_to_set := F_done_to_set.binds (ps := ["held", "action", "a"]) fun _ _ _ _ _ _ us hl => match us, hl with | [_, _, _], _ => rfl
  obtain ⟨f_done_to_lock, A_done_to_lock, fd_done_to_lock, F_done_to_lock⟩ := D_done_to_lock
  have m_done_to_lock := PySem.W.mg_of X G A_done_to_lock
  have b_done_to_lock := F_done_to_lock.binds (ps := ["held", "action"]) fun _ _ _ _ _ _ us hl => match us, hl with | [_, _], _ => rfl
  obtain ⟨f_is_client, A_is_client, fd_is_client, F_is_client⟩ := D_is_client
  have m_is_client := PySem.W.mg_of X G A_is_client
  have b_is_client := F_is_client.binds (ps := ["client"]) fun _ _ _ _ _ _ us hl => match us, hl with | [_], _ => rfl
  obtain ⟨f_known_by, A_known_by, fd_known_by, F_known_by⟩ := D_known_by
  have m_known_by := PySem.W.mg_of X G A_known_by
  have b_known_by := F_known_by.binds (ps := ["operation", "many"]) fun _ _ _ _ _ _ us hl => match us, hl with | [_, _], _ => rfl
  obtain ⟨f_first_in_clients_order, A_first_in_clients_order, fd_first_in_clients_order, F_first_in_clients_order⟩ := D_first_in_clients_order
  have m_first_in_clients_order := PySem.W.mg_of X G A_first_in_clients_order
  have b_first_in_clients_order := F_first_in_clients_order.binds (ps := ["one", "other"]) fun _ _ _ _ _ _ us hl => match us, hl with | [_, _], _ => rfl
  obtain ⟨f_first_but_for, A_first_but_for, fd_first_but_for, F_first_but_for⟩ := D_first_but_for
  have m_first_but_for := PySem.W.mg_of X G A_first_but_for
  have b_first_but_for := F_first_but_for.binds (ps := ["one", "other", "events"]) fun _ _ _ _ _ _ us hl => match us, hl with | [_, _, _], _ => rfl
  obtain ⟨f_first_in_times_order, A_first_in_times_order, fd_first_in_times_order, F_first_in_times_order⟩ := D_first_in_times_order
  have m_first_in_times_order := PySem.W.mg_of X G A_first_in_times_order
  have b_first_in_times_order := F_first_in_times_order.binds (ps := ["one", "other"]) fun _ _ _ _ _ _ us hl => match us, hl with | [_, _], _ => rfl
  obtain ⟨f_first_row, A_first_row, fd_first_row, F_first_row⟩ := D_first_row
  have m_first_row := PySem.W.mg_of X G A_first_row
  have b_first_row := F_first_row.binds (ps := ["kinds", "given", "rule", "counted"]) fun _ _ _ _ _ _ us hl => match us, hl with | [_, _, _, _], _ => rfl
  obtain ⟨f_mark, A_mark, fd_mark, F_mark⟩ := D_mark
  have m_mark := PySem.W.mg_of X G A_mark
  have b_mark := F_mark.binds (ps := ["operations"]) fun _ _ _ _ _ _ us hl => match us, hl with | [_], _ => rfl
  obtain ⟨f_is_write, A_is_write, fd_is_write, F_is_write⟩ := D_is_write
  have m_is_write := PySem.W.mg_of X G A_is_write
  have b_is_write := F_is_write.binds (ps := ["operation"]) fun _ _ _ _ _ _ us hl => match us, hl with | [_], _ => rfl
  obtain ⟨f_is_asked, A_is_asked, fd_is_asked, F_is_asked⟩ := D_is_asked
  have m_is_asked := PySem.W.mg_of X G A_is_asked
  have b_is_asked := F_is_asked.binds (ps := ["history"]) fun _ _ _ _ _ _ us hl => match us, hl with | [_], _ => rfl
  obtain ⟨f_has_seen, A_has_seen, fd_has_seen, F_has_seen⟩ := D_has_seen
  have m_has_seen := PySem.W.mg_of X G A_has_seen
  have b_has_seen := F_has_seen.binds (ps := ["read", "write"]) fun _ _ _ _ _ _ us hl => match us, hl with | [_, _], _ => rfl
  obtain ⟨f_followed_at_once, A_followed_at_once, fd_followed_at_once, F_followed_at_once⟩ := D_followed_at_once
  have m_followed_at_once := PySem.W.mg_of X G A_followed_at_once
  have b_followed_at_once := F_followed_at_once.binds (ps := ["one", "other"]) fun _ _ _ _ _ _ us hl => match us, hl with | [_, _], _ => rfl
  obtain ⟨f_followed, A_followed, fd_followed, F_followed⟩ := D_followed
  have m_followed := PySem.W.mg_of X G A_followed
  have b_followed := F_followed.binds (ps := ["operations"]) fun _ _ _ _ _ _ us hl => match us, hl with | [_], _ => rfl
  obtain ⟨f_linear, A_linear, fd_linear, F_linear⟩ := D_linear
  have m_linear := PySem.W.mg_of X G A_linear
  have b_linear := F_linear.binds (ps := ["history"]) fun _ _ _ _ _ _ us hl => match us, hl with | [_], _ => rfl
  obtain ⟨f_linear_for_thing, A_linear_for_thing, fd_linear_for_thing, F_linear_for_thing⟩ := D_linear_for_thing
  have m_linear_for_thing := PySem.W.mg_of X G A_linear_for_thing
  have b_linear_for_thing := F_linear_for_thing.binds (ps := ["history", "thing"]) fun _ _ _ _ _ _ us hl => match us, hl with | [_, _], _ => rfl
  obtain ⟨f_order, A_order, fd_order, F_order⟩ := D_order
  have m_order := PySem.W.mg_of X G A_order
  have b_order := F_order.binds (ps := ["history"]) fun _ _ _ _ _ _ us hl => match us, hl with | [_], _ => rfl
  obtain ⟨f_shortest, A_shortest, fd_shortest, F_shortest⟩ := D_shortest
  have m_shortest := PySem.W.mg_of X G A_shortest
  have b_shortest := F_shortest.binds (ps := ["history"]) fun _ _ _ _ _ _ us hl => match us, hl with | [_], _ => rfl
  obtain ⟨f_serial, A_serial, fd_serial, F_serial⟩ := D_serial
  have m_serial := PySem.W.mg_of X G A_serial
  have b_serial := F_serial.binds (ps := ["history"]) fun _ _ _ _ _ _ us hl => match us, hl with | [_], _ => rfl
  obtain ⟨f_own, A_own, fd_own, F_own⟩ := D_own
  have m_own := PySem.W.mg_of X G A_own
  have b_own := F_own.binds (ps := ["history", "client"]) fun _ _ _ _ _ _ us hl => match us, hl with | [_, _], _ => rfl
  obtain ⟨f_causal, A_causal, fd_causal, F_causal⟩ := D_causal
  have m_causal := PySem.W.mg_of X G A_causal
  have b_causal := F_causal.binds (ps := ["history"]) fun _ _ _ _ _ _ us hl => match us, hl with | [_], _ => rfl
  obtain ⟨f_late, A_late, fd_late, F_late⟩ := D_late
  have m_late := PySem.W.mg_of X G A_late
  have b_late := F_late.binds (ps := ["history", "thing"]) fun _ _ _ _ _ _ us hl => match us, hl with | [_, _], _ => rfl
  obtain ⟨f_blame, A_blame, fd_blame, F_blame⟩ := D_blame
  have m_blame := PySem.W.mg_of X G A_blame
  have b_blame := F_blame.binds (ps := ["history"]) fun _ _ _ _ _ _ us hl => match us, hl with | [_], _ => rfl
  obtain ⟨f_show, A_show, fd_show, F_show⟩ := D_show
  have m_show := PySem.W.mg_of X G A_show
  have b_show := F_show.binds (ps := ["history", "number"]) fun _ _ _ _ _ _ us hl => match us, hl with | [_, _], _ => rfl
  obtain ⟨f_play, A_play, fd_play, F_play⟩ := D_play
  have m_play := PySem.W.mg_of X G A_play
  have b_play := F_play.binds (ps := ["history", "row"]) fun _ _ _ _ _ _ us hl => match us, hl with | [_, _], _ => rfl
  obtain ⟨f_held, A_held, fd_held, F_held⟩ := D_held
  have m_held := PySem.W.mg_of X G A_held
  have b_held := F_held.binds (ps := ["history", "row"]) fun _ _ _ _ _ _ us hl => match us, hl with | [_, _], _ => rfl
  obtain ⟨f_is_of, A_is_of, fd_is_of, F_is_of⟩ := D_is_of
  have m_is_of := PySem.W.mg_of X G A_is_of
  have b_is_of := F_is_of.binds (ps := ["history", "row"]) fun _ _ _ _ _ _ us hl => match us, hl with | [_, _], _ => rfl
  obtain ⟨f_has_all_ended, A_has_all_ended, fd_has_all_ended, F_has_all_ended⟩ := D_has_all_ended
  have m_has_all_ended := PySem.W.mg_of X G A_has_all_ended
  have b_has_all_ended := F_has_all_ended.binds (ps := ["history", "row"]) fun _ _ _ _ _ _ us hl => match us, hl with | [_, _], _ => rfl
  obtain ⟨f_stands_behind_all, A_stands_behind_all, fd_stands_behind_all, F_stands_behind_all⟩ := D_stands_behind_all
  have m_stands_behind_all := PySem.W.mg_of X G A_stands_behind_all
  have b_stands_behind_all := F_stands_behind_all.binds (ps := ["history", "operation", "before"]) fun _ _ _ _ _ _ us hl => match us, hl with | [_, _, _], _ => rfl
  obtain ⟨f_told_by, A_told_by, fd_told_by, F_told_by⟩ := D_told_by
  have m_told_by := PySem.W.mg_of X G A_told_by
  have b_told_by := F_told_by.binds (ps := ["history", "row"]) fun _ _ _ _ _ _ us hl => match us, hl with | [_, _], _ => rfl
  obtain ⟨f_answers, A_answers, fd_answers, F_answers⟩ := D_answers
  have m_answers := PySem.W.mg_of X G A_answers
  have b_answers := F_answers.binds (ps := ["calls"]) fun _ _ _ _ _ _ us hl => match us, hl with | [_], _ => rfl
  obtain ⟨f_end_of_call, A_end_of_call, fd_end_of_call, F_end_of_call⟩ := D_end_of_call
  have m_end_of_call := PySem.W.mg_of X G A_end_of_call
  have b_end_of_call := F_end_of_call.binds (ps := ["calls", "at"]) fun _ _ _ _ _ _ us hl => match us, hl with | [_, _], _ => rfl
  obtain ⟨f_are_kinds, A_are_kinds, fd_are_kinds, F_are_kinds⟩ := D_are_kinds
  have m_are_kinds := PySem.W.mg_of X G A_are_kinds
  have b_are_kinds := F_are_kinds.binds (ps := ["kinds"]) fun _ _ _ _ _ _ us hl => match us, hl with | [_], _ => rfl
  obtain ⟨f_answer_of, A_answer_of, fd_answer_of, F_answer_of⟩ := D_answer_of
  have m_answer_of := PySem.W.mg_of X G A_answer_of
  have b_answer_of := F_answer_of.binds (ps := ["history", "call"]) fun _ _ _ _ _ _ us hl => match us, hl with | [_, _], _ => rfl
  obtain ⟨f_answer_about_row, A_answer_about_row, fd_answer_about_row, F_answer_about_row⟩ := D_answer_about_row
  have m_answer_about_row := PySem.W.mg_of X G A_answer_about_row
  have b_answer_about_row := F_answer_about_row.binds (ps := ["history", "name", "row"]) fun _ _ _ _ _ _ us hl => match us, hl with | [_, _, _], _ => rfl
  obtain ⟨f_answer_about_one, A_answer_about_one, fd_answer_about_one, F_answer_about_one⟩ := D_answer_about_one
  have m_answer_about_one := PySem.W.mg_of X G A_answer_about_one
  have b_answer_about_one := F_answer_about_one.binds (ps := ["history", "name", "number"]) fun _ _ _ _ _ _ us hl => match us, hl with | [_, _, _], _ => rfl
  obtain ⟨f_answer_about_all, A_answer_about_all, fd_answer_about_all, F_answer_about_all⟩ := D_answer_about_all
  have m_answer_about_all := PySem.W.mg_of X G A_answer_about_all
  have b_answer_about_all := F_answer_about_all.binds (ps := ["history", "name"]) fun _ _ _ _ _ _ us hl => match us, hl with | [_, _], _ => rfl
  obtain ⟨f_explains_thing, c_explains_thing, P_explains_thing, f_came_about_for, c_came_about_for, P_came_about_for, RF_explains_thing, RF_came_about_for, hP⟩ := DC
  obtain ⟨fd_explains_thing, FC_explains_thing⟩ := RF_explains_thing.F
  have m_explains_thing := PySem.W.mg_of X G RF_explains_thing.a
  have b_explains_thing := FC_explains_thing.fn.binds (ps := ["history", "thing", "late_events"]) fun _ _ _ _ _ _ us hl => match us, hl with | [_, _, _], _ => rfl
  obtain ⟨fd_came_about_for, FC_came_about_for⟩ := RF_came_about_for.F
  have m_came_about_for := PySem.W.mg_of X G RF_came_about_for.a
  have b_came_about_for := FC_came_about_for.fn.binds (ps := ["history", "client", "reached"]) fun _ _ _ _ _ _ us hl => match us, hl with | [_, _, _], _ => rfl
  obtain ⟨a_Operation, R_Operation, ⟨f_Operation_init, A_Operation_init, fd_Operation_init, F_Operation_init⟩⟩ := C_Operation
  have b_Operation_init := F_Operation_init.binds (ps := ["self", "number", "client", "thing", "action", "a", "b", "began"]) fun _ _ _ _ _ _ us hl => match us, hl with | [_, _, _, _, _, _, _, _], _ => rfl
  obtain ⟨a_History, R_History, ⟨f_History_init, A_History_init, fd_History_init, F_History_init⟩, ⟨f_History_has_thing, A_History_has_thing, fd_History_has_thing, F_History_has_thing⟩, ⟨f_History_has_operation, A_History_has_operation, fd_History_has_operation, F_History_has_operation⟩, ⟨f_History_pending, A_History_pending, fd_History_pending, F_History_pending⟩, ⟨f_History_call, A_History_call, fd_History_call, F_History_call⟩, ⟨f_History_end, A_History_end, fd_History_end, F_History_end⟩, ⟨f_History_on_thing, A_History_on_thing, fd_History_on_thing, F_History_on_thing⟩, ⟨f_History_without, A_History_without, fd_History_without, F_History_without⟩, ⟨f_History_first_events, A_History_first_events, fd_History_first_events, F_History_first_events⟩⟩ := C_History
  have b_History_init := F_History_init.binds (ps := ["self", "kinds"]) fun _ _ _ _ _ _ us hl => match us, hl with | [_, _], _ => rfl
  have b_History_has_thing := F_History_has_thing.binds (ps := ["self", "thing"]) fun _ _ _ _ _ _ us hl => match us, hl with | [_, _], _ => rfl
  have b_History_has_operation := F_History_has_operation.binds (ps := ["self", "number"]) fun _ _ _ _ _ _ us hl => match us, hl with | [_, _], _ => rfl
  have b_History_pending := F_History_pending.binds (ps := ["self", "client"]) fun _ _ _ _ _ _ us hl => match us, hl with | [_, _], _ => rfl
  have b_History_call := F_History_call.binds (ps := ["self", "client", "thing", "action", "a", "b"]) fun _ _ _ _ _ _ us hl => match us, hl with | [_, _, _, _, _, _], _ => rfl
  have b_History_end := F_History_end.binds (ps := ["self", "client", "answer"]) fun _ _ _ _ _ _ us hl => match us, hl with | [_, _, _], _ => rfl
  have b_History_on_thing := F_History_on_thing.binds (ps := ["self", "thing"]) fun _ _ _ _ _ _ us hl => match us, hl with | [_, _], _ => rfl
  have b_History_without := F_History_without.binds (ps := ["self", "number"]) fun _ _ _ _ _ _ us hl => match us, hl with | [_, _], _ => rfl
  have b_History_first_events := F_History_first_events.binds (ps := ["self", "many"]) fun _ _ _ _ _ _ us hl => match us, hl with | [_, _], _ => rfl
  obtain ⟨a_Search, R_Search, ⟨f_Search_init, A_Search_init, fd_Search_init, F_Search_init⟩, ⟨f_Search_first_from, A_Search_first_from, fd_Search_first_from, F_Search_first_from⟩, ⟨f_Search_may_follow, A_Search_may_follow, fd_Search_may_follow, F_Search_may_follow⟩, ⟨f_Search_first_with, A_Search_first_with, fd_Search_first_with, F_Search_first_with⟩, ⟨f_Search_must_answer, A_Search_must_answer, fd_Search_must_answer, F_Search_must_answer⟩⟩ := C_Search
  have b_Search_init := F_Search_init.binds (ps := ["self", "kinds", "given", "rule", "counted"]) fun _ _ _ _ _ _ us hl => match us, hl with | [_, _, _, _, _], _ => rfl
  have b_Search_first_from := F_Search_first_from.binds (ps := ["self", "row", "placed", "held"]) fun _ _ _ _ _ _ us hl => match us, hl with | [_, _, _, _], _ => rfl
  have b_Search_may_follow := F_Search_may_follow.binds (ps := ["self", "operation", "placed"]) fun _ _ _ _ _ _ us hl => match us, hl with | [_, _, _], _ => rfl
  have b_Search_first_with := F_Search_first_with.binds (ps := ["self", "operation", "row", "placed", "held"]) fun _ _ _ _ _ _ us hl => match us, hl with | [_, _, _, _, _], _ => rfl
  have b_Search_must_answer := F_Search_must_answer.binds (ps := ["self", "operation"]) fun _ _ _ _ _ _ us hl => match us, hl with | [_, _], _ => rfl
  have i_NO_SUCH : GI mg "NO_SUCH" (-1) := gi_of X G I_NO_SUCH
  have i_NOT_NOW : GI mg "NOT_NOW" (-2) := gi_of X G I_NOT_NOW
  have i_NONE_FOUND : GI mg "NONE_FOUND" (-3) := gi_of X G I_NONE_FOUND
  have i_FULL : GI mg "FULL" (-5) := gi_of X G I_FULL
  have i_NOT_ASKED : GI mg "NOT_ASKED" (-6) := gi_of X G I_NOT_ASKED
  have i_NO_HISTORY : GI mg "NO_HISTORY" (-9) := gi_of X G I_NO_HISTORY
  have i_TOO_EARLY : GI mg "TOO_EARLY" (-2) := gi_of X G I_TOO_EARLY
  have i_OTHER_ANSWER : GI mg "OTHER_ANSWER" (-3) := gi_of X G I_OTHER_ANSWER
  have i_CELL : GI mg "CELL" (0) := gi_of X G I_CELL
  have i_COUNT : GI mg "COUNT" (1) := gi_of X G I_COUNT
  have i_ROW : GI mg "ROW" (2) := gi_of X G I_ROW
  have i_PILE : GI mg "PILE" (3) := gi_of X G I_PILE
  have i_SET : GI mg "SET" (4) := gi_of X G I_SET
  have i_MOST_OPERATIONS : GI mg "MOST_OPERATIONS" (9) := gi_of X G I_MOST_OPERATIONS
  have i_READ : GI mg "READ" (0) := gi_of X G I_READ
  have i_WRITE : GI mg "WRITE" (1) := gi_of X G I_WRITE
  have i_NOT_ENDED : GI mg "NOT_ENDED" (-1) := gi_of X G I_NOT_ENDED
  have i_MOST_THINGS : GI mg "MOST_THINGS" (3) := gi_of X G I_MOST_THINGS
  have i_BEGIN : GI mg "BEGIN" (0) := gi_of X G I_BEGIN
  have i_CALL : GI mg "CALL" (1) := gi_of X G I_CALL
  have i_END : GI mg "END" (2) := gi_of X G I_END
  have i_LINEAR : GI mg "LINEAR" (3) := gi_of X G I_LINEAR
  have i_THING : GI mg "THING" (4) := gi_of X G I_THING
  have i_ORDER : GI mg "ORDER" (5) := gi_of X G I_ORDER
  have i_SHORTEST : GI mg "SHORTEST" (6) := gi_of X G I_SHORTEST
  have i_SERIAL : GI mg "SERIAL" (7) := gi_of X G I_SERIAL
  have i_OWN : GI mg "OWN" (8) := gi_of X G I_OWN
  have i_CAUSAL : GI mg "CAUSAL" (9) := gi_of X G I_CAUSAL
  have i_LATE : GI mg "LATE" (10) := gi_of X G I_LATE
  have i_HELD : GI mg "HELD" (12) := gi_of X G I_HELD
  obtain ⟨a_OPERATIONS, U1_OPERATIONS⟩ := U_OPERATIONS
  have u_OPERATIONS := gt_of X G U1_OPERATIONS
  obtain ⟨a_CLIENTS, U1_CLIENTS⟩ := U_CLIENTS
  have u_CLIENTS := gt_of X G U1_CLIENTS
  obtain ⟨a_NUMBERS, U1_NUMBERS⟩ := U_NUMBERS
  have u_NUMBERS := gt_of X G U1_NUMBERS
  obtain ⟨a_WITH_LIST, U1_WITH_LIST⟩ := U_WITH_LIST
  have u_WITH_LIST := gt_of X G U1_WITH_LIST
  have z_len := PySem.W.mg_none_of X G Z_len
  have z_tuple := PySem.W.mg_none_of X G Z_tuple
  have z_sorted := PySem.W.mg_none_of X G Z_sorted
  have z_range := PySem.W.mg_none_of X G Z_range
  have z_all := PySem.W.mg_none_of X G Z_all
  have z_any := PySem.W.mg_none_of X G Z_any
  have z_set := PySem.W.mg_none_of X G Z_set
  have z_enumerate := PySem.W.mg_none_of X G Z_enumerate
  have e := hfa.symm.trans m_answers
  cases e
  let d : Ad := ⟨a_OPERATIONS, a_CLIENTS, a_NUMBERS, a_WITH_LIST, a_Operation, a_History, a_Search⟩
  have T : Tx K mg d := { g_NO_SUCH := i_NO_SUCH, g_NOT_NOW := i_NOT_NOW, g_NONE_FOUND := i_NONE_FOUND, g_FULL := i_FULL, g_NOT_ASKED := i_NOT_ASKED, g_NO_HISTORY := i_NO_HISTORY, g_TOO_EARLY := i_TOO_EARLY, g_OTHER_ANSWER := i_OTHER_ANSWER, g_READ := i_READ, g_WRITE := i_WRITE, g_NOT_ENDED := i_NOT_ENDED, g_CELL := i_CELL, g_COUNT := i_COUNT, g_ROW := i_ROW, g_PILE := i_PILE, g_SET := i_SET, g_OPERATIONS := u_OPERATIONS, g_CLIENTS := u_CLIENTS, g_MOST_OPERATIONS := i_MOST_OPERATIONS, g_MOST_THINGS := i_MOST_THINGS, g_NUMBERS := u_NUMBERS, g_WITH_LIST := u_WITH_LIST, g_BEGIN := i_BEGIN, g_CALL := i_CALL, g_END := i_END, g_LINEAR := i_LINEAR, g_THING := i_THING, g_ORDER := i_ORDER, g_SHORTEST := i_SHORTEST, g_SERIAL := i_SERIAL, g_OWN := i_OWN, g_CAUSAL := i_CAUSAL, g_LATE := i_LATE, g_HELD := i_HELD, len := z_len, tuple := z_tuple, sorted := z_sorted, range := z_range, all := z_all, any := z_any, set := z_set, enumerate := z_enumerate }
  have C : Tc K d := ⟨R_Operation.c, R_History.c, R_Search.c, R_Operation.no, R_History.no, R_Search.no⟩
  have tb1 := tab_any Tp X E1 RF_explains_thing.t
  have tb2 := tab_any Tp X E2 RF_came_about_for.t
  refine ⟨fd_answers, [(c_explains_thing, P_explains_thing), (c_came_about_for, P_came_about_for)], [(P_explains_thing, lamQ1), (P_came_about_for, lamQ2)], ?_, ?_, ?_, fun base _ _ TB => ?_, fun H hH => ?_⟩
  · intro p hp
    rcases List.mem_cons.mp hp with rfl | hp
    · exact tb1
    · rcases List.mem_cons.mp hp with rfl | hp
      · exact tb2
      · cases hp
  · intro p hp
    rcases List.mem_cons.mp hp with rfl | hp
    · exact RF_explains_thing.n
    · rcases List.mem_cons.mp hp with rfl | hp
      · exact RF_came_about_for.n
      · cases hp
  · obtain ⟨oc, od, kV, doc, pm, an, cdv, ct, osl, rfl, lk, hcd⟩ := F_answers.ex
    exact fun s us hu => match us, hu with | [_], _ => .of_eq rfl
  rotate_left
  · intro p hp
    rcases List.mem_cons.mp hp with rfl | hp
    · exact TabS.nil (hH (c_explains_thing, P_explains_thing) List.mem_cons_self)
    · rcases List.mem_cons.mp hp with rfl | hp
      · exact TabS.nil (hH (c_came_about_for, P_came_about_for) (List.mem_cons_of_mem _ List.mem_cons_self))
      · cases hp
  generalize hT0 : ([(P_explains_thing, lamQ1), (P_came_about_for, lamQ2)] : List (Addr × Str)) = T0
  have TO : TabsOk base mg T0 c_explains_thing c_came_about_for := by
    subst hT0
    refine ⟨⟨P_explains_thing, TB (c_explains_thing, P_explains_thing) List.mem_cons_self, List.mem_cons_self, fun p hp e => ?_⟩, ⟨P_came_about_for, TB (c_came_about_for, P_came_about_for) (List.mem_cons_of_mem _ List.mem_cons_self), List.mem_cons_of_mem _ List.mem_cons_self, fun p hp e => ?_⟩⟩
    · rcases List.mem_cons.mp hp with rfl | hp
      · rfl
      · rcases List.mem_cons.mp hp with rfl | hp
        · exact absurd e.symm hP
        · cases hp
    · rcases List.mem_cons.mp hp with rfl | hp
      · exact absurd e hP
      · rcases List.mem_cons.mp hp with rfl | hp
        · rfl
        · cases hp
  have o_done_to_cell : OkD P w K mg base 1 "done_to_cell" ["held", "action", "a", "b"] (spDo4 0 (Wf 1000 0)) f_done_to_cell fd_done_to_cell := ⟨ok_done_to_cell F_done_to_cell, m_done_to_cell, F_done_to_cell.kp, b_done_to_cell⟩
  have o_done_to_count : OkD P w K mg base 1 "done_to_count" ["held", "action", "a"] (spDo3 1 (Wf 1000 1)) f_done_to_count fd_done_to_count := ⟨ok_done_to_count F_done_to_count, m_done_to_count, F_done_to_count.kp, b_done_to_count⟩
  have o_done_to_row : OkD P w K mg base 1 "done_to_row" ["held", "action", "a"] (spDo3 2 (Wf 1000 2)) f_done_to_row fd_done_to_row := ⟨ok_done_to_row F_done_to_row T, m_done_to_row, F_done_to_row.kp, b_done_to_row⟩
  have o_done_to_pile : OkD P w K mg base 1 "done_to_pile" ["held", "action", "a"] (spDo3 3 (Wf 1000 3)) f_done_to_pile fd_done_to_pile := ⟨ok_done_to_pile F_done_to_pile T, m_done_to_pile, F_done_to_pile.kp, b_done_to_pile⟩
  have o_done_to_set : OkD P w K mg base 1 "done_to_set" ["held", "action", "a"] (spDo3 4 (Wf 1000 4)) f_done_to_set fd_done_to_set := ⟨ok_done_to_set F_done_to_set T, m_done_to_set, F_done_to_set.kp, b_done_to_set⟩
  have o_done_to_lock : OkD P w K mg base 1 "done_to_lock" ["held", "action"] (spDo2 5 (Wf 1000 5)) f_done_to_lock fd_done_to_lock := ⟨ok_done_to_lock F_done_to_lock, m_done_to_lock, F_done_to_lock.kp, b_done_to_lock⟩
  have o_done : OkD P w K mg base 2 "done" ["kind", "held", "action", "a", "b"] (spDone) f_done fd_done := ⟨ok_done F_done T o_done_to_cell o_done_to_count o_done_to_row o_done_to_pile o_done_to_set o_done_to_lock, m_done, F_done.kp, b_done⟩
  have o_is_kind : OkD P w K mg base 1 "is_kind" ["kind"] (spIsKind) f_is_kind fd_is_kind := ⟨ok_is_kind F_is_kind T, m_is_kind, F_is_kind.kp, b_is_kind⟩
  have o_is_action : OkD P w K mg base 1 "is_action" ["kind", "action"] (spIsAction) f_is_action fd_is_action := ⟨ok_is_action F_is_action T, m_is_action, F_is_action.kp, b_is_action⟩
  have o_held_at_first : OkD P w K mg base 1 "held_at_first" ["kind"] (spHeldFirst) f_held_at_first fd_held_at_first := ⟨ok_held_at_first F_held_at_first T, m_held_at_first, F_held_at_first.kp, b_held_at_first⟩
  have o_all_held_at_first : OkD P w K mg base 2 "all_held_at_first" ["kinds"] (spAllHeld) f_all_held_at_first fd_all_held_at_first := ⟨ok_all_held F_all_held_at_first T o_held_at_first, m_all_held_at_first, F_all_held_at_first.kp, b_all_held_at_first⟩
  have o_do_operation : OkD P w K mg base 3 "do_operation" ["kinds", "held", "operation"] (spDoOp d) f_do_operation fd_do_operation := ⟨ok_do F_do_operation C o_done, m_do_operation, F_do_operation.kp, b_do_operation⟩
  have o_is_client : OkD P w K mg base 1 "is_client" ["client"] (spIsClient) f_is_client fd_is_client := ⟨ok_is_client F_is_client T, m_is_client, F_is_client.kp, b_is_client⟩
  have o_Operation : OkC P w K mg base 1 d.cO "Operation" ["self", "number", "client", "thing", "action", "a", "b", "began"] (spOpInit d) f_Operation_init fd_Operation_init := ⟨ok_op_init F_Operation_init C, ⟨R_Operation.makes, A_Operation_init.at_, A_Operation_init.fn, R_Operation.kp⟩, PySem.W.mg_of X G R_Operation.a, b_Operation_init⟩
  have o_History : OkC P w K mg base 1 d.cH "History" ["self", "kinds"] (spHistInit K d) f_History_init fd_History_init := ⟨ok_hist_init F_History_init T C, ⟨R_History.makes, A_History_init.at_, A_History_init.fn, R_History.kp⟩, PySem.W.mg_of X G R_History.a, b_History_init⟩
  have o_History_has_thing : OkM P w K mg base 1 d.cH "has_thing" ["self", "thing"] (spHasThing d) f_History_has_thing fd_History_has_thing := ⟨ok_has_thing F_History_has_thing T C, A_History_has_thing, b_History_has_thing, C.cH⟩
  have o_History_has_operation : OkM P w K mg base 1 d.cH "has_operation" ["self", "number"] (spHasOp d) f_History_has_operation fd_History_has_operation := ⟨ok_has_op F_History_has_operation T C, A_History_has_operation, b_History_has_operation, C.cH⟩
  have o_History_pending : OkM P w K mg base 1 d.cH "pending" ["self", "client"] (spPending d) f_History_pending fd_History_pending := ⟨ok_pending F_History_pending C, A_History_pending, b_History_pending, C.cH⟩
  have o_History_call : OkM P w K mg base 3 d.cH "call" ["self", "client", "thing", "action", "a", "b"] (spCall d) f_History_call fd_History_call := ⟨ok_call F_History_call T C o_is_client o_History_has_thing o_is_action o_History_pending o_Operation, A_History_call, b_History_call, C.cH⟩
  have o_History_end : OkM P w K mg base 2 d.cH "end" ["self", "client", "answer"] (spEnd d) f_History_end fd_History_end := ⟨ok_end F_History_end T C o_is_client o_History_pending, A_History_end, b_History_end, C.cH⟩
  have o_known_by : OkD P w K mg base 3 "known_by" ["operation", "many"] (spKnown d) f_known_by fd_known_by := ⟨ok_known F_known_by C o_Operation, m_known_by, F_known_by.kp, b_known_by⟩
  have o_History_first_events : OkM P w K mg base 4 d.cH "first_events" ["self", "many"] (spFirst d) f_History_first_events fd_History_first_events := ⟨ok_first F_History_first_events T C o_History o_known_by, A_History_first_events, b_History_first_events, C.cH⟩
  have o_History_on_thing : OkM P w K mg base 1 d.cH "on_thing" ["self", "thing"] (spOnThing d) f_History_on_thing fd_History_on_thing := ⟨ok_on_thing F_History_on_thing C, A_History_on_thing, b_History_on_thing, C.cH⟩
  have o_History_without : OkM P w K mg base 3 d.cH "without" ["self", "number"] (spWithout d) f_History_without fd_History_without := ⟨ok_without F_History_without T C o_History, A_History_without, b_History_without, C.cH⟩
  have o_first_in_clients_order : OkD P w K mg base 1 "first_in_clients_order" ["one", "other"] (spRule0 d clientR) f_first_in_clients_order fd_first_in_clients_order := ⟨ok_clients F_first_in_clients_order C, m_first_in_clients_order, F_first_in_clients_order.kp, b_first_in_clients_order⟩
  have o_first_but_for : OkD P w K mg base 2 "first_but_for" ["one", "other", "events"] (spBut d) f_first_but_for fd_first_but_for := ⟨ok_but F_first_but_for C o_first_in_clients_order, m_first_but_for, F_first_but_for.kp, b_first_but_for⟩
  have o_first_in_times_order : OkD P w K mg base 3 "first_in_times_order" ["one", "other"] (spRule0 d (butR 0)) f_first_in_times_order fd_first_in_times_order := ⟨ok_times F_first_in_times_order o_first_but_for, m_first_in_times_order, F_first_in_times_order.kp, b_first_in_times_order⟩
  have o_mark : OkD P w K mg base 1 "mark" ["operations"] (spMark d) f_mark fd_mark := ⟨ok_mark F_mark C, m_mark, F_mark.kp, b_mark⟩
  have o_Search : OkC P w K mg base 4 d.cS "Search" ["self", "kinds", "given", "rule", "counted"] (spSInit P w K mg base d) f_Search_init fd_Search_init := ⟨ok_sinit F_Search_init C o_mark, ⟨R_Search.makes, A_Search_init.at_, A_Search_init.fn, R_Search.kp⟩, PySem.W.mg_of X G R_Search.a, b_Search_init⟩
  have o_Search_may_follow : OkM P w K mg base 1 d.cS "may_follow" ["self", "operation", "placed"] (spMay K d) f_Search_may_follow fd_Search_may_follow := ⟨ok_may F_Search_may_follow C, A_Search_may_follow, b_Search_may_follow, C.cS⟩
  have o_Search_must_answer : OkM P w K mg base 1 d.cS "must_answer" ["self", "operation"] (spMust K d) f_Search_must_answer fd_Search_must_answer := ⟨ok_must F_Search_must_answer C, A_Search_must_answer, b_Search_must_answer, C.cS⟩
  have o_Search_first_from := ok_both (P := P) (w := w) (mg := mg) (base := base) F_Search_first_from A_Search_first_from b_Search_first_from F_Search_first_with A_Search_first_with b_Search_first_with C o_Search_may_follow o_do_operation o_Search_must_answer 9
  have o_first_row : OkD P w K mg base 23 "first_row" ["kinds", "given", "rule", "counted"] (spRow P w K mg base d) f_first_row fd_first_row := ⟨ok_row F_first_row C o_Search o_Search_first_from o_all_held_at_first, m_first_row, F_first_row.kp, b_first_row⟩
  have o_explains_thing : OkD P w K mg base 24 "explains_thing" ["history", "thing", "late_events"] (spExT T0 d) f_explains_thing fd_explains_thing := ⟨ok_ext FC_explains_thing T C TO o_first_row o_first_but_for o_History_on_thing, m_explains_thing, FC_explains_thing.kp, b_explains_thing⟩
  have o_linear : OkD P w K mg base 25 "linear" ["history"] (spLin T0 d) f_linear fd_linear := ⟨ok_lin F_linear T C o_explains_thing, m_linear, F_linear.kp, b_linear⟩
  have o_linear_for_thing : OkD P w K mg base 25 "linear_for_thing" ["history", "thing"] (spThing T0 d) f_linear_for_thing fd_linear_for_thing := ⟨ok_thing F_linear_for_thing T C o_explains_thing o_History_has_thing, m_linear_for_thing, F_linear_for_thing.kp, b_linear_for_thing⟩
  have o_order : OkD P w K mg base 24 "order" ["history"] (spOrder d) f_order fd_order := ⟨ok_order F_order T C o_first_row F_first_in_times_order o_first_in_times_order, m_order, F_order.kp, b_order⟩
  have o_shortest : OkD P w K mg base 26 "shortest" ["history"] (spShort T0 d) f_shortest fd_shortest := ⟨ok_short F_shortest T C o_linear o_History_first_events, m_shortest, F_shortest.kp, b_shortest⟩
  have o_serial : OkD P w K mg base 24 "serial" ["history"] (spSerial d) f_serial fd_serial := ⟨ok_serial F_serial T C o_first_row F_first_in_clients_order o_first_in_clients_order, m_serial, F_serial.kp, b_serial⟩
  have o_own : OkD P w K mg base 24 "own" ["history", "client"] (spOwn d) f_own fd_own := ⟨ok_own F_own T C o_is_client o_first_row F_first_in_clients_order o_first_in_clients_order, m_own, F_own.kp, b_own⟩
  have o_late : OkD P w K mg base 25 "late" ["history", "thing"] (spLate T0 d) f_late fd_late := ⟨ok_late F_late T C o_explains_thing o_History_has_thing, m_late, F_late.kp, b_late⟩
  have o_blame : OkD P w K mg base 26 "blame" ["history"] (spBlame T0 d) f_blame fd_blame := ⟨ok_blame F_blame T C o_linear o_History_without, m_blame, F_blame.kp, b_blame⟩
  have o_show : OkD P w K mg base 2 "show" ["history", "number"] (spShow d) f_show fd_show := ⟨ok_show F_show T C o_History_has_operation, m_show, F_show.kp, b_show⟩
  have o_is_write : OkD P w K mg base 1 "is_write" ["operation"] (spIsWrite d) f_is_write fd_is_write := ⟨ok_is_write F_is_write T C, m_is_write, F_is_write.kp, b_is_write⟩
  have o_has_seen : OkD P w K mg base 2 "has_seen" ["read", "write"] (spSeen d) f_has_seen fd_has_seen := ⟨ok_has_seen F_has_seen T C o_is_write, m_has_seen, F_has_seen.kp, b_has_seen⟩
  have o_followed_at_once : OkD P w K mg base 3 "followed_at_once" ["one", "other"] (spRule0 d directO) f_followed_at_once fd_followed_at_once := ⟨ok_followed_at_once F_followed_at_once o_first_in_clients_order o_has_seen, m_followed_at_once, F_followed_at_once.kp, b_followed_at_once⟩
  have o_followed : OkD P w K mg base 4 "followed" ["operations"] (spFollowed P w d) f_followed fd_followed := ⟨ok_followed F_followed T C o_followed_at_once, m_followed, F_followed.kp, b_followed⟩
  have o_is_asked : OkD P w K mg base 2 "is_asked" ["history"] (spIsAsked d) f_is_asked fd_is_asked := ⟨ok_is_asked F_is_asked T C o_is_write, m_is_asked, F_is_asked.kp, b_is_asked⟩
  have o_came_about_for : OkD P w K mg base 24 "came_about_for" ["history", "client", "reached"] (spCame P w T0 d) f_came_about_for fd_came_about_for := ⟨ok_came FC_came_about_for T C TO o_first_row o_is_write, m_came_about_for, FC_came_about_for.kp, b_came_about_for⟩
  have o_causal : OkD P w K mg base 25 "causal" ["history"] (spCausal T0 d) f_causal fd_causal := ⟨ok_causal F_causal T C o_is_asked o_followed o_came_about_for, m_causal, F_causal.kp, b_causal⟩
  have o_is_of : OkD P w K mg base 2 "is_of" ["history", "row"] (spIsOf K d) f_is_of fd_is_of := ⟨ok_is_of F_is_of T C o_History_has_operation, m_is_of, F_is_of.kp, b_is_of⟩
  have o_has_all_ended : OkD P w K mg base 1 "has_all_ended" ["history", "row"] (spAllEnded K d) f_has_all_ended fd_has_all_ended := ⟨ok_all_ended F_has_all_ended T C, m_has_all_ended, F_has_all_ended.kp, b_has_all_ended⟩
  have o_stands_behind_all : OkD P w K mg base 4 "stands_behind_all" ["history", "operation", "before"] (spBehind K d) f_stands_behind_all fd_stands_behind_all := ⟨ok_behind F_stands_behind_all T C o_first_in_times_order, m_stands_behind_all, F_stands_behind_all.kp, b_stands_behind_all⟩
  have o_told_by : OkD P w K mg base 4 "told_by" ["history", "row"] (spTold K d) f_told_by fd_told_by := ⟨ok_told F_told_by T C o_all_held_at_first o_do_operation, m_told_by, F_told_by.kp, b_told_by⟩
  have o_play : OkD P w K mg base 5 "play" ["history", "row"] (spPlay K d) f_play fd_play := ⟨ok_play F_play T o_is_of o_told_by, m_play, F_play.kp, b_play⟩
  have o_held : OkD P w K mg base 5 "held" ["history", "row"] (spHeld K d) f_held fd_held := ⟨ok_held F_held T C o_is_of o_has_all_ended o_told_by o_stands_behind_all, m_held, F_held.kp, b_held⟩
  have o_end_of_call : OkD P w K mg base 1 "end_of_call" ["calls", "at"] (spEoc K) f_end_of_call fd_end_of_call := ⟨ok_eoc F_end_of_call T, m_end_of_call, F_end_of_call.kp, b_end_of_call⟩
  have o_are_kinds : OkD P w K mg base 2 "are_kinds" ["kinds"] (spAre K) f_are_kinds fd_are_kinds := ⟨ok_are F_are_kinds T o_is_kind, m_are_kinds, F_are_kinds.kp, b_are_kinds⟩
  have o_answer_about_row : OkD P w K mg base 6 "answer_about_row" ["history", "name", "row"] (spAbRow K T0 d) f_answer_about_row fd_answer_about_row := ⟨ok_about_row F_answer_about_row T C o_held o_play, m_answer_about_row, F_answer_about_row.kp, b_answer_about_row⟩
  have o_answer_about_one : OkD P w K mg base 26 "answer_about_one" ["history", "name", "number"] (spAbOne T0 d) f_answer_about_one fd_answer_about_one := ⟨ok_about_one F_answer_about_one T C o_linear_for_thing o_own o_late o_show, m_answer_about_one, F_answer_about_one.kp, b_answer_about_one⟩
  have o_answer_about_all : OkD P w K mg base 27 "answer_about_all" ["history", "name"] (spAbAll T0 d) f_answer_about_all fd_answer_about_all := ⟨ok_about_all F_answer_about_all T C o_linear o_order o_shortest o_serial o_causal o_blame, m_answer_about_all, F_answer_about_all.kp, b_answer_about_all⟩
  have o_answer_of : OkD P w K mg base 28 "answer_of" ["history", "call"] (spAof T0 d) f_answer_of fd_answer_of := ⟨ok_aof F_answer_of T C o_History_call o_History_end o_answer_about_row o_answer_about_one o_answer_about_all, m_answer_of, F_answer_of.kp, b_answer_of⟩
  exact ok_answers (by decide) F_answers T C o_end_of_call o_are_kinds o_History o_answer_of
end Sh

set_option Elab.async false
set_option linter.all false
open PySem PySem.W PyProof.Rows
set_option maxRecDepth 100000 in
set_option maxHeartbeats 0 in
theorem PySem.Challenge.cw_seenhistory_s01_answers_holds : PySem.Challenge.rw_seenhistory_s01_answers.Holds := by
  w_on; k_headS; (case hw => exact ⟨[.list [.int 3]], by decide +kernel, by decide +kernel⟩)
  k_fillS
  refine Sh.walk_specT (r := PySem.Challenge.rw_seenhistory_s01_answers) (k := 29) (ps := ["calls"]) (by decide +kernel) rfl ⟨rfl, by decide, by decide⟩ (fun w h Y => PySem.W.kIn_of Y) ?F
  case F =>
    intro w mg mb mean fa h Y KX Tp hmg
    refine' Sh.fin (Sh.build KX Tp hmg ?e1 ?e2 ⟨_, Sh.rawD ?q1 ?q2 ?q3 ?q4⟩ ⟨_, Sh.rawD ?q5 ?q6 ?q7 ?q8⟩ ⟨_, Sh.rawD ?q9 ?q10 ?q11 ?q12⟩ ⟨_, Sh.rawD ?q13 ?q14 ?q15 ?q16⟩ ⟨_, Sh.rawD ?q17 ?q18 ?q19 ?q20⟩ ⟨_, Sh.rawD ?q21 ?q22 ?q23 ?q24⟩ ⟨_, Sh.rawD ?q25 ?q26 ?q27 ?q28⟩ ⟨_, Sh.rawD ?q29 ?q30 ?q31 ?q32⟩ ⟨_, Sh.rawD ?q33 ?q34 ?q35 ?q36⟩ ⟨_, Sh.rawD ?q37 ?q38 ?q39 ?q40⟩ ⟨_, Sh.rawD ?q41 ?q42 ?q43 ?q44⟩ ⟨_, Sh.rawD ?q45 ?q46 ?q47 ?q48⟩ ⟨_, Sh.rawD ?q49 ?q50 ?q51 ?q52⟩ ⟨_, Sh.rawD ?q53 ?q54 ?q55 ?q56⟩ ⟨_, Sh.rawD ?q57 ?q58 ?q59 ?q60⟩ ⟨_, Sh.rawD ?q61 ?q62 ?q63 ?q64⟩ ⟨_, Sh.rawD ?q65 ?q66 ?q67 ?q68⟩ ⟨_, Sh.rawD ?q69 ?q70 ?q71 ?q72⟩ ⟨_, Sh.rawD ?q73 ?q74 ?q75 ?q76⟩ ⟨_, Sh.rawD ?q77 ?q78 ?q79 ?q80⟩ ⟨_, Sh.rawD ?q81 ?q82 ?q83 ?q84⟩ ⟨_, Sh.rawD ?q85 ?q86 ?q87 ?q88⟩ ⟨_, Sh.rawD ?q89 ?q90 ?q91 ?q92⟩ ⟨_, Sh.rawD ?q93 ?q94 ?q95 ?q96⟩ ⟨_, Sh.rawD ?q97 ?q98 ?q99 ?q100⟩ ⟨_, Sh.rawD ?q101 ?q102 ?q103 ?q104⟩ ⟨_, Sh.rawD ?q105 ?q106 ?q107 ?q108⟩ ⟨_, Sh.rawD ?q109 ?q110 ?q111 ?q112⟩ ⟨_, Sh.rawD ?q113 ?q114 ?q115 ?q116⟩ ⟨_, Sh.rawD ?q117 ?q118 ?q119 ?q120⟩ ⟨_, Sh.rawD ?q121 ?q122 ?q123 ?q124⟩ ⟨_, Sh.rawD ?q125 ?q126 ?q127 ?q128⟩ ⟨_, Sh.rawD ?q129 ?q130 ?q131 ?q132⟩ ⟨_, Sh.rawD ?q133 ?q134 ?q135 ?q136⟩ ⟨_, Sh.rawD ?q137 ?q138 ?q139 ?q140⟩ ⟨_, Sh.rawD ?q141 ?q142 ?q143 ?q144⟩ ⟨_, Sh.rawD ?q145 ?q146 ?q147 ?q148⟩ ⟨_, Sh.rawD ?q149 ?q150 ?q151 ?q152⟩ ⟨_, Sh.rawD ?q153 ?q154 ?q155 ?q156⟩ ⟨_, Sh.rawD ?q157 ?q158 ?q159 ?q160⟩ ⟨_, Sh.rawD ?q161 ?q162 ?q163 ?q164⟩ ⟨_, Sh.rawD ?q165 ?q166 ?q167 ?q168⟩ ⟨_, Sh.rawD ?q169 ?q170 ?q171 ?q172⟩ ⟨_, Sh.rawD ?q173 ?q174 ?q175 ?q176⟩ ⟨_, Sh.rawD ?q177 ?q178 ?q179 ?q180⟩ ⟨_, Sh.rawD ?q181 ?q182 ?q183 ?q184⟩ ⟨_, Sh.rawD ?q185 ?q186 ?q187 ?q188⟩ ⟨_, _, _, _, _, _, Sh.rawF ?q189 ?q190 ?q191 ?q192 ?q193 ?q194 ?q195, Sh.rawF ?q196 ?q197 ?q198 ?q199 ?q200 ?q201 ?q202, ?q203⟩ ⟨_, Sh.rawC ?q204 ?q205 ?q206 ?q207 ?q208 ?q209 ?q210 (Sh.noAll_cons ?q219 (Sh.noAll_cons ?q218 (Sh.noAll_cons ?q217 (Sh.noAll_cons ?q216 (Sh.noAll_cons ?q215 (Sh.noAll_cons ?q214 (Sh.noAll_cons ?q213 (Sh.noAll_cons ?q212 (Sh.noAll_cons ?q211 Sh.noAll_nil))))))))), ⟨_, Sh.rawM ?q220 ?q221 ?q222 ?q223 ?q224⟩⟩ ⟨_, Sh.rawC ?q225 ?q226 ?q227 ?q228 ?q229 ?q230 ?q231 (Sh.noAll_cons ?q234 (Sh.noAll_cons ?q233 (Sh.noAll_cons ?q232 Sh.noAll_nil))), ⟨_, Sh.rawM ?q235 ?q236 ?q237 ?q238 ?q239⟩, ⟨_, Sh.rawM ?q240 ?q241 ?q242 ?q243 ?q244⟩, ⟨_, Sh.rawM ?q245 ?q246 ?q247 ?q248 ?q249⟩, ⟨_, Sh.rawM ?q250 ?q251 ?q252 ?q253 ?q254⟩, ⟨_, Sh.rawM ?q255 ?q256 ?q257 ?q258 ?q259⟩, ⟨_, Sh.rawM ?q260 ?q261 ?q262 ?q263 ?q264⟩, ⟨_, Sh.rawM ?q265 ?q266 ?q267 ?q268 ?q269⟩, ⟨_, Sh.rawM ?q270 ?q271 ?q272 ?q273 ?q274⟩, ⟨_, Sh.rawM ?q275 ?q276 ?q277 ?q278 ?q279⟩⟩ ⟨_, Sh.rawC ?q280 ?q281 ?q282 ?q283 ?q284 ?q285 ?q286 (Sh.noAll_cons ?q292 (Sh.noAll_cons ?q291 (Sh.noAll_cons ?q290 (Sh.noAll_cons ?q289 (Sh.noAll_cons ?q288 (Sh.noAll_cons ?q287 Sh.noAll_nil)))))), ⟨_, Sh.rawM ?q293 ?q294 ?q295 ?q296 ?q297⟩, ⟨_, Sh.rawM ?q298 ?q299 ?q300 ?q301 ?q302⟩, ⟨_, Sh.rawM ?q303 ?q304 ?q305 ?q306 ?q307⟩, ⟨_, Sh.rawM ?q308 ?q309 ?q310 ?q311 ?q312⟩, ⟨_, Sh.rawM ?q313 ?q314 ?q315 ?q316 ?q317⟩⟩ ?q318 ?q319 ?q320 ?q321 ?q322 ?q323 ?q324 ?q325 ?q326 ?q327 ?q328 ?q329 ?q330 ?q331 ?q332 ?q333 ?q334 ?q335 ?q336 ?q337 ?q338 ?q339 ?q340 ?q341 ?q342 ?q343 ?q344 ?q345 ?q346 ?q347 ⟨_, Sh.rawT ?q348 ?q349⟩ ⟨_, Sh.rawT ?q350 ?q351⟩ ⟨_, Sh.rawT ?q352 ?q353⟩ ⟨_, Sh.rawT ?q354 ?q355⟩ ?q356 ?q357 ?q358 ?q359 ?q360 ?q361 ?q362 ?q363) ?S
    (case e1 => decide +kernel); (case e2 => decide +kernel)
    (case q1 => k_is); (case q2 => k_is); (case q3 => k_is); (case q4 => k_is); (case q5 => k_is); (case q6 => k_is); (case q7 => k_is); (case q8 => k_is)
    (case q9 => k_is); (case q10 => k_is); (case q11 => k_is); (case q12 => k_is); (case q13 => k_is); (case q14 => k_is); (case q15 => k_is); (case q16 => k_is)
    (case q17 => k_is); (case q18 => k_is); (case q19 => k_is); (case q20 => k_is); (case q21 => k_is); (case q22 => k_is); (case q23 => k_is); (case q24 => k_is)
    (case q25 => k_is); (case q26 => k_is); (case q27 => k_is); (case q28 => k_is); (case q29 => k_is); (case q30 => k_is); (case q31 => k_is); (case q32 => k_is)
    (case q33 => k_is); (case q34 => k_is); (case q35 => k_is); (case q36 => k_is); (case q37 => k_is); (case q38 => k_is); (case q39 => k_is); (case q40 => k_is)
    (case q41 => k_is); (case q42 => k_is); (case q43 => k_is); (case q44 => k_is); (case q45 => k_is); (case q46 => k_is); (case q47 => k_is); (case q48 => k_is)
    (case q49 => k_is); (case q50 => k_is); (case q51 => k_is); (case q52 => k_is); (case q53 => k_is); (case q54 => k_is); (case q55 => k_is); (case q56 => k_is)
    (case q57 => k_is); (case q58 => k_is); (case q59 => k_is); (case q60 => k_is); (case q61 => k_is); (case q62 => k_is); (case q63 => k_is); (case q64 => k_is)
    (case q65 => k_is); (case q66 => k_is); (case q67 => k_is); (case q68 => k_is); (case q69 => k_is); (case q70 => k_is); (case q71 => k_is); (case q72 => k_is)
    (case q73 => k_is); (case q74 => k_is); (case q75 => k_is); (case q76 => k_is); (case q77 => k_is); (case q78 => k_is); (case q79 => k_is); (case q80 => k_is)
    (case q81 => k_is); (case q82 => k_is); (case q83 => k_is); (case q84 => k_is); (case q85 => k_is); (case q86 => k_is); (case q87 => k_is); (case q88 => k_is)
    (case q89 => k_is); (case q90 => k_is); (case q91 => k_is); (case q92 => k_is); (case q93 => k_is); (case q94 => k_is); (case q95 => k_is); (case q96 => k_is)
    (case q97 => k_is); (case q98 => k_is); (case q99 => k_is); (case q100 => k_is); (case q101 => k_is); (case q102 => k_is); (case q103 => k_is); (case q104 => k_is)
    (case q105 => k_is); (case q106 => k_is); (case q107 => k_is); (case q108 => k_is); (case q109 => k_is); (case q110 => k_is); (case q111 => k_is); (case q112 => k_is)
    (case q113 => k_is); (case q114 => k_is); (case q115 => k_is); (case q116 => k_is); (case q117 => k_is); (case q118 => k_is); (case q119 => k_is); (case q120 => k_is)
    (case q121 => k_is); (case q122 => k_is); (case q123 => k_is); (case q124 => k_is); (case q125 => k_is); (case q126 => k_is); (case q127 => k_is); (case q128 => k_is)
    (case q129 => k_is); (case q130 => k_is); (case q131 => k_is); (case q132 => k_is); (case q133 => k_is); (case q134 => k_is); (case q135 => k_is); (case q136 => k_is)
    (case q137 => k_is); (case q138 => k_is); (case q139 => k_is); (case q140 => k_is); (case q141 => k_is); (case q142 => k_is); (case q143 => k_is); (case q144 => k_is)
    (case q145 => k_is); (case q146 => k_is); (case q147 => k_is); (case q148 => k_is); (case q149 => k_is); (case q150 => k_is); (case q151 => k_is); (case q152 => k_is)
    (case q153 => k_is); (case q154 => k_is); (case q155 => k_is); (case q156 => k_is); (case q157 => k_is); (case q158 => k_is); (case q159 => k_is); (case q160 => k_is)
    (case q161 => k_is); (case q162 => k_is); (case q163 => k_is); (case q164 => k_is); (case q165 => k_is); (case q166 => k_is); (case q167 => k_is); (case q168 => k_is)
    (case q169 => k_is); (case q170 => k_is); (case q171 => k_is); (case q172 => k_is); (case q173 => k_is); (case q174 => k_is); (case q175 => k_is); (case q176 => k_is)
    (case q177 => k_is); (case q178 => k_is); (case q179 => k_is); (case q180 => k_is); (case q181 => k_is); (case q182 => k_is); (case q183 => k_is); (case q184 => k_is)
    (case q185 => k_is); (case q186 => k_is); (case q187 => k_is); (case q188 => k_is); (case q189 => k_is); (case q190 => k_is); (case q191 => k_is); (case q192 => k_is)
    (case q193 => k_is); (case q194 => rfl); (case q195 => first | rfl | kernel_rfl | decide +kernel); (case q196 => k_is); (case q197 => k_is); (case q198 => k_is); (case q199 => k_is); (case q200 => k_is)
    (case q201 => rfl); (case q202 => first | rfl | kernel_rfl | decide +kernel); (case q203 => decide); (case q204 => k_is); (case q205 => k_is); (case q206 => k_is); (case q207 => k_is); (case q208 => k_is)
    (case q209 => k_is); (case q210 => k_is); (case q211 => k_is); (case q212 => k_is); (case q213 => k_is); (case q214 => k_is); (case q215 => k_is); (case q216 => k_is)
    (case q217 => k_is); (case q218 => k_is); (case q219 => k_is); (case q220 => k_is); (case q221 => k_is); (case q222 => k_is); (case q223 => k_is); (case q224 => k_is)
    (case q225 => k_is); (case q226 => k_is); (case q227 => k_is); (case q228 => k_is); (case q229 => k_is); (case q230 => k_is); (case q231 => k_is); (case q232 => k_is)
    (case q233 => k_is); (case q234 => k_is); (case q235 => k_is); (case q236 => k_is); (case q237 => k_is); (case q238 => k_is); (case q239 => k_is); (case q240 => k_is)
    (case q241 => k_is); (case q242 => k_is); (case q243 => k_is); (case q244 => k_is); (case q245 => k_is); (case q246 => k_is); (case q247 => k_is); (case q248 => k_is)
    (case q249 => k_is); (case q250 => k_is); (case q251 => k_is); (case q252 => k_is); (case q253 => k_is); (case q254 => k_is); (case q255 => k_is); (case q256 => k_is)
    (case q257 => k_is); (case q258 => k_is); (case q259 => k_is); (case q260 => k_is); (case q261 => k_is); (case q262 => k_is); (case q263 => k_is); (case q264 => k_is)
    (case q265 => k_is); (case q266 => k_is); (case q267 => k_is); (case q268 => k_is); (case q269 => k_is); (case q270 => k_is); (case q271 => k_is); (case q272 => k_is)
    (case q273 => k_is); (case q274 => k_is); (case q275 => k_is); (case q276 => k_is); (case q277 => k_is); (case q278 => k_is); (case q279 => k_is); (case q280 => k_is)
    (case q281 => k_is); (case q282 => k_is); (case q283 => k_is); (case q284 => k_is); (case q285 => k_is); (case q286 => k_is); (case q287 => k_is); (case q288 => k_is)
    (case q289 => k_is); (case q290 => k_is); (case q291 => k_is); (case q292 => k_is); (case q293 => k_is); (case q294 => k_is); (case q295 => k_is); (case q296 => k_is)
    (case q297 => k_is); (case q298 => k_is); (case q299 => k_is); (case q300 => k_is); (case q301 => k_is); (case q302 => k_is); (case q303 => k_is); (case q304 => k_is)
    (case q305 => k_is); (case q306 => k_is); (case q307 => k_is); (case q308 => k_is); (case q309 => k_is); (case q310 => k_is); (case q311 => k_is); (case q312 => k_is)
    (case q313 => k_is); (case q314 => k_is); (case q315 => k_is); (case q316 => k_is); (case q317 => k_is); (case q318 => first | rfl | kernel_rfl | decide +kernel); (case q319 => first | rfl | kernel_rfl | decide +kernel); (case q320 => first | rfl | kernel_rfl | decide +kernel)
    (case q321 => first | rfl | kernel_rfl | decide +kernel); (case q322 => first | rfl | kernel_rfl | decide +kernel); (case q323 => first | rfl | kernel_rfl | decide +kernel); (case q324 => first | rfl | kernel_rfl | decide +kernel); (case q325 => first | rfl | kernel_rfl | decide +kernel); (case q326 => first | rfl | kernel_rfl | decide +kernel); (case q327 => first | rfl | kernel_rfl | decide +kernel); (case q328 => first | rfl | kernel_rfl | decide +kernel)
    (case q329 => first | rfl | kernel_rfl | decide +kernel); (case q330 => first | rfl | kernel_rfl | decide +kernel); (case q331 => first | rfl | kernel_rfl | decide +kernel); (case q332 => first | rfl | kernel_rfl | decide +kernel); (case q333 => first | rfl | kernel_rfl | decide +kernel); (case q334 => first | rfl | kernel_rfl | decide +kernel); (case q335 => first | rfl | kernel_rfl | decide +kernel); (case q336 => first | rfl | kernel_rfl | decide +kernel)
    (case q337 => first | rfl | kernel_rfl | decide +kernel); (case q338 => first | rfl | kernel_rfl | decide +kernel); (case q339 => first | rfl | kernel_rfl | decide +kernel); (case q340 => first | rfl | kernel_rfl | decide +kernel); (case q341 => first | rfl | kernel_rfl | decide +kernel); (case q342 => first | rfl | kernel_rfl | decide +kernel); (case q343 => first | rfl | kernel_rfl | decide +kernel); (case q344 => first | rfl | kernel_rfl | decide +kernel)
    (case q345 => first | rfl | kernel_rfl | decide +kernel); (case q346 => first | rfl | kernel_rfl | decide +kernel); (case q347 => first | rfl | kernel_rfl | decide +kernel); (case q348 => k_is); (case q349 => first | rfl | kernel_rfl | decide +kernel); (case q350 => k_is); (case q351 => first | rfl | kernel_rfl | decide +kernel); (case q352 => k_is)
    (case q353 => first | rfl | kernel_rfl | decide +kernel); (case q354 => k_is); (case q355 => first | rfl | kernel_rfl | decide +kernel); (case q356 => k_is); (case q357 => k_is); (case q358 => k_is); (case q359 => k_is); (case q360 => k_is)
    (case q361 => k_is); (case q362 => k_is); (case q363 => k_is)
    case S =>
      intro T0 H0 H xs a hO hsame hT hwi hask hx
      cases hx with
      | cons h1 h2 =>
        cases h2
        cases h1 with
        | lst hs ha =>
          have e := L2.ints_dw a.1 _ ha
          subst e
          have q : ((Codec.inLen 0 840 a.1 && a.1.all (Codec.inInt (-1) 2000)) && true) = true := hwi
          rw [Bool.and_eq_true, Bool.and_eq_true] at q
          refine ⟨_, a.1, rfl, ?_, hT, (Codec.inNat_iff.mp q.1.1).2, hask, fun H' p hp => .lst (L2.SqL.of hp) (L2.dw_ints _)⟩
          rcases hs with (h | h) | h
          · rcases hO _ with z | ⟨o, u, z⟩
            · rw [z] at h; cases h
            · rw [z] at h; cases h
          · obtain ⟨o, h⟩ := h
            exact .inl ⟨o, hsame _ _ h⟩
          · exact .inr h
#print axioms PySem.Challenge.cw_seenhistory_s01_answers_holds
