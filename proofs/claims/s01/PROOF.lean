import PyProof.Rows.All
import Wide.All
import OpenK.AllK
import Wide.FinOn
import Open.SpecLaws
import KE.OsHead
import KE.OsGo
import KE.DatumOrd
import KE.DatumIndex
import HandS.Base
import HandS.Call
import HandS.List
import HandS.Comp
import HandS.Ends
import HandS.Spec
import HandS.Words
import HandS.WordsList
import PySem.Challenge.RW_sailwardrobe_s01_answers
set_option Elab.async false
set_option maxRecDepth 100000
set_option maxHeartbeats 4000000
namespace Sw
open Uw29 (Sail Loft Best stands)

/-! ### the sails of a set -/
def pick {A : Type} : List A → Nat → List A
  | [], _ => []
  | x :: xs, q => (if q % 2 = 1 then [x] else []) ++ pick xs (q / 2)
theorem pick_range {A : Type} (d : A) : ∀ (xs : List A) (q : Nat), ((List.range xs.length).filter fun i => q.testBit i).map (fun i => xs.getD i d) = pick xs q
  | [], q => rfl
  | x :: xs, q => by
    have ih := pick_range d xs (q / 2)
    rw [List.length_cons, List.range_succ_eq_map, List.filter_cons, List.filter_map]
    have e0 : q.testBit 0 = decide (q % 2 = 1) := Nat.testBit_zero q
    have e1 : ((fun i => q.testBit i) ∘ Nat.succ) = fun i => (q / 2).testBit i := by
      funext i
      exact Nat.testBit_succ q i
    rw [e1]
    have e2 : ∀ l : List Nat, (l.map Nat.succ).map (fun i => (x :: xs).getD i d) = l.map (fun i => xs.getD i d) := by
      intro l
      rw [List.map_map]
      rfl
    show _ = (if q % 2 = 1 then [x] else []) ++ pick xs (q / 2)
    by_cases h : q % 2 = 1
    · rw [if_pos h, if_pos (by rw [e0]; exact decide_eq_true h), List.map_cons, e2, ih]
      rfl
    · rw [if_neg h, if_neg (by rw [e0, decide_eq_true_eq]; exact h), e2, ih]
      rfl
theorem pick_length_le {A : Type} : ∀ (xs : List A) (q : Nat), (pick xs q).length ≤ xs.length
  | [], q => Nat.le_refl _
  | x :: xs, q => by
    have ih := pick_length_le xs (q / 2)
    show ((if q % 2 = 1 then [x] else []) ++ pick xs (q / 2)).length ≤ _
    by_cases h : q % 2 = 1
    · rw [if_pos h, List.length_append, List.length_cons, List.length_cons, List.length_nil]; omega
    · rw [if_neg h, List.length_append, List.length_cons, List.length_nil]; omega
theorem members_pick (s : Loft) (q : Nat) : (s.members q).map s.sail = pick s.sails q := pick_range _ s.sails q

/-- what standing sails there are -/
def cnt (xs : List Sail) (w : Nat) : Nat := (xs.filter fun x => stands x w).length
def costs (xs : List Sail) : Nat := Uw29.total (xs.map fun x => x.cost)
theorem many_pick (s : Loft) (q w : Nat) : s.many q w = cnt (pick s.sails q) w := by
  unfold Loft.many cnt
  rw [← members_pick, List.filter_map, List.length_map]
  rfl
theorem cost_pick (s : Loft) (q : Nat) : s.cost q = costs (pick s.sails q) := by
  unfold Loft.cost costs
  rw [← members_pick, List.map_map]
  rfl
theorem members_len (s : Loft) (q : Nat) : (s.members q).length = (pick s.sails q).length := by
  rw [← members_pick, List.length_map]
theorem total_sum : ∀ (l : List Nat) (a : Nat), ((l.foldl (fun a b => a + b) a : Nat) : Int) = (a : Int) + (l.map fun (n : Nat) => (n : Int)).sum
  | [], a => by simp
  | x :: l, a => by
    rw [List.foldl_cons, total_sum l (a + x), List.map_cons, List.sum_cons]
    omega
theorem costs_sum (xs : List Sail) : (xs.map fun x => (x.cost : Int)).sum = (costs xs : Int) := by
  unfold costs Uw29.total
  rw [total_sum, List.map_map]
  simp
  rfl

/-! ### the first wind with too few -/
def gapOf (s : Loft) (k : Nat) (xs : List Sail) : Option Nat := s.winds.find? fun w => decide (cnt xs w < k)
theorem gap_pick (s : Loft) (k q : Nat) : s.gap k q = gapOf s k (pick s.sails q) := by
  unfold Loft.gap gapOf
  congr 1
  funext w
  rw [many_pick]
theorem gap_some {s : Loft} {k : Nat} {xs : List Sail} {i : Nat} (hi : s.lo + i ≤ s.hi) (hb : ∀ j, j < i → ¬ cnt xs (s.lo + j) < k) (h : cnt xs (s.lo + i) < k) : gapOf s k xs = some (s.lo + i) := by
  unfold gapOf Loft.winds
  rw [List.find?_filter, List.find?_range_eq_some]
  refine ⟨?_, List.mem_range.mpr (by omega), fun j hj => ?_⟩
  · simp [h]
  · by_cases c : s.lo ≤ j
    · have := hb (j - s.lo) (by omega)
      rw [show s.lo + (j - s.lo) = j by omega] at this
      simp [this]
    · simp [c]
theorem gap_none {s : Loft} {k : Nat} {xs : List Sail} (hb : ∀ j, s.lo + j ≤ s.hi → ¬ cnt xs (s.lo + j) < k) : gapOf s k xs = none := by
  unfold gapOf Loft.winds
  rw [List.find?_filter, List.find?_range_eq_none]
  intro j hj
  by_cases c : s.lo ≤ j
  · have := hb (j - s.lo) (by omega)
    rw [show s.lo + (j - s.lo) = j by omega] at this
    simp [this]
  · simp [c]

/-! ### the best -/
abbrev W2 := Nat × Nat
def wlt (a b : W2) : Prop := a.1 < b.1 ∨ (a.1 = b.1 ∧ a.2 < b.2)
def worth (s : Loft) (q : Nat) : W2 := (costs (pick s.sails q), (pick s.sails q).length)
structure BestAt (s : Loft) (E : List Nat) (b : Best) : Prop where
  at_ : ∃ j : Nat, E[j]? = some b.set_ ∧ worth s b.set_ = (b.cost, b.size) ∧ ∀ (m z : Nat), m < j → E[m]? = some z → worth s z ≠ (b.cost, b.size)
  least : ∀ q, q ∈ E → ¬ wlt (worth s q) (b.cost, b.size)
  many : b.many = E.countP fun q => decide (worth s q = (b.cost, b.size))
def BestInv (s : Loft) (E : List Nat) : Option Best → Prop
  | none => E = []
  | some b => BestAt s E b
def bstep (s : Loft) (b : Option Best) (q : Nat) : Option Best :=
  let n := (s.members q).length
  match b with
  | none => some ⟨s.cost q, n, 1, q⟩
  | some x => if s.cost q < x.cost ∨ (s.cost q = x.cost ∧ n < x.size) then some ⟨s.cost q, n, 1, q⟩ else if s.cost q = x.cost ∧ n = x.size then some { x with many := x.many + 1 } else some x
theorem best_start {s : Loft} {E : List Nat} {q : Nat} (h : ∀ z, z ∈ E → wlt (worth s q) (worth s z)) : BestAt s (E ++ [q]) ⟨costs (pick s.sails q), (pick s.sails q).length, 1, q⟩ := by
  have hne : ∀ z, z ∈ E → worth s z ≠ worth s q := by
    intro z hz e
    have := h z hz
    rw [e] at this
    unfold wlt at this
    omega
  refine ⟨⟨E.length, by simp, rfl, fun m z hm hz => ?_⟩, fun z hz => ?_, ?_⟩
  · rw [List.getElem?_append_left hm] at hz
    exact hne z (List.mem_of_getElem? hz)
  · rw [List.mem_append, List.mem_singleton] at hz
    rcases hz with hz | rfl
    · have := h z hz
      show ¬ wlt (worth s z) (worth s q)
      unfold wlt at this ⊢
      omega
    · show ¬ wlt (worth s z) (worth s z)
      unfold wlt
      omega
  · show 1 = (E ++ [q]).countP fun z => decide (worth s z = worth s q)
    rw [List.countP_append]
    have e0 : E.countP (fun z => decide (worth s z = worth s q)) = 0 := by
      rw [List.countP_eq_zero]
      intro z hz
      rw [decide_eq_true_eq]
      exact hne z hz
    rw [e0]
    simp
theorem bstep_inv {s : Loft} {E : List Nat} {b : Option Best} {q : Nat} (h : BestInv s E b) : BestInv s (E ++ [q]) (bstep s b q) := by
  have ec : s.cost q = (worth s q).1 := cost_pick s q
  have en : (s.members q).length = (worth s q).2 := members_len s q
  match b, h with
  | none, h =>
    have h : E = [] := h
    subst h
    show BestAt s ([] ++ [q]) ⟨s.cost q, (s.members q).length, 1, q⟩
    rw [ec, en]
    exact best_start (fun z hz => by cases hz)
  | some x, h =>
    have h : BestAt s E x := h
    unfold bstep
    dsimp only
    rw [ec, en]
    by_cases c1 : (worth s q).1 < x.cost ∨ ((worth s q).1 = x.cost ∧ (worth s q).2 < x.size)
    · rw [if_pos c1]
      refine best_start (E := E) fun z hz => ?_
      have := h.least z hz
      unfold wlt at this ⊢
      dsimp only at this
      omega
    · rw [if_neg c1]
      obtain ⟨⟨j, hj, hw, hn⟩, hl, hm⟩ := h
      have hjl : j < E.length := (List.getElem?_eq_some_iff.mp hj).1
      by_cases c2 : (worth s q).1 = x.cost ∧ (worth s q).2 = x.size
      · rw [if_pos c2]
        have eq : worth s q = (x.cost, x.size) := Prod.ext c2.1 c2.2
        refine ⟨⟨j, by rw [List.getElem?_append_left hjl]; exact hj, hw, fun m z hmj hz => hn m z hmj (by rwa [List.getElem?_append_left (by omega)] at hz)⟩, fun z hz => ?_, ?_⟩
        · rw [List.mem_append, List.mem_singleton] at hz
          rcases hz with hz | rfl
          · exact hl z hz
          · rw [eq]
            unfold wlt
            dsimp only
            omega
        · show x.many + 1 = (E ++ [q]).countP fun z => decide (worth s z = (x.cost, x.size))
          rw [List.countP_append, ← hm]
          simp [eq]
      · rw [if_neg c2]
        have ne : worth s q ≠ (x.cost, x.size) := fun e => c2 (by rw [e]; exact ⟨rfl, rfl⟩)
        refine ⟨⟨j, by rw [List.getElem?_append_left hjl]; exact hj, hw, fun m z hmj hz => hn m z hmj (by rwa [List.getElem?_append_left (by omega)] at hz)⟩, fun z hz => ?_, ?_⟩
        · rw [List.mem_append, List.mem_singleton] at hz
          rcases hz with hz | rfl
          · exact hl z hz
          · unfold wlt
            dsimp only
            omega
        · show x.many = (E ++ [q]).countP fun z => decide (worth s z = (x.cost, x.size))
          rw [List.countP_append, ← hm]
          simp [ne]
theorem bfold_inv {s : Loft} : ∀ (F E : List Nat) (b : Option Best), BestInv s E b → BestInv s (E ++ F) (F.foldl (bstep s) b)
  | [], E, b, h => by rw [List.append_nil]; exact h
  | q :: F, E, b, h => by
    have := bfold_inv F (E ++ [q]) (bstep s b q) (bstep_inv h)
    rw [List.append_assoc] at this
    exact this
def enoughs (s : Loft) (k : Nat) : List Nat := (List.range (2 ^ s.sails.length)).filter (s.enough k)
theorem best_inv (s : Loft) (k : Nat) : BestInv s (enoughs s k) (s.best k) := by
  have := bfold_inv (s := s) (enoughs s k) [] none rfl
  rw [List.nil_append] at this
  exact this
/-- what min, count and index tell is the best -/
theorem best_told {s : Loft} {k : Nat} {m : W2} {j q : Nat} (hj : (enoughs s k)[j]? = some q) (hq : worth s q = m) (hn : ∀ (i z : Nat), i < j → (enoughs s k)[i]? = some z → worth s z ≠ m) (hl : ∀ z, z ∈ enoughs s k → ¬ wlt (worth s z) m) :
    s.best k = some ⟨m.1, m.2, (enoughs s k).countP (fun z => decide (worth s z = m)), q⟩ := by
  have hb := best_inv s k
  cases e : s.best k with
  | none =>
    rw [e] at hb
    have hb : enoughs s k = [] := hb
    rw [hb] at hj
    simp at hj
  | some b =>
    rw [e] at hb
    obtain ⟨⟨j', hj', hw', hn'⟩, hl', hm'⟩ := (hb : BestAt s (enoughs s k) b)
    have mq := List.mem_of_getElem? hj
    have mq' := List.mem_of_getElem? hj'
    have l1 := hl' q mq
    have l2 := hl b.set_ mq'
    rw [hq] at l1
    rw [hw'] at l2
    have em : m = (b.cost, b.size) := by
      obtain ⟨m1, m2⟩ := m
      unfold wlt at l1 l2
      dsimp only at l1 l2
      have : m1 = b.cost ∧ m2 = b.size := by omega
      rw [this.1, this.2]
    subst em
    have ej : j = j' := by
      rcases Nat.lt_trichotomy j j' with h | h | h
      · exact absurd hq (hn' j q h hj)
      · exact h
      · exact absurd hw' (hn j' b.set_ h hj')
    subst ej
    have es : b.set_ = q := Option.some.inj (hj'.symm.trans hj)
    cases b
    dsimp only at *
    rw [es, hm']
theorem best_nil {s : Loft} {k : Nat} (h : enoughs s k = []) : s.best k = none := by
  show (enoughs s k).foldl (bstep s) none = none
  rw [h]
  rfl

/-! ### the farthest, one after another -/
def fstep (s : Loft) (w : Nat) (b : Option Nat) (i : Nat) : Option Nat := if stands (s.sail i) w = true then match b with
  | none => some i
  | some k => if (s.sail k).hi < (s.sail i).hi then some i else some k else b
def far (s : Loft) (w n : Nat) : Option Nat := (List.range n).foldl (fstep s w) none
theorem far_succ (s : Loft) (w n : Nat) : far s w (n + 1) = fstep s w (far s w n) n := by
  unfold far
  rw [List.range_succ, List.foldl_append]
  rfl
theorem far_all (s : Loft) (w : Nat) : s.farthest w = far s w s.sails.length := rfl
theorem far_good (s : Loft) (w : Nat) : ∀ (n i : Nat), far s w n = some i → i < n ∧ stands (s.sail i) w = true
  | 0, i, h => by cases h
  | n + 1, i, h => by
    rw [far_succ] at h
    have ih := far_good s w n
    unfold fstep at h
    by_cases c : stands (s.sail n) w = true
    · rw [if_pos c] at h
      cases e : far s w n with
      | none =>
        rw [e] at h
        cases h
        exact ⟨Nat.lt_succ_self _, c⟩
      | some k =>
        rw [e] at h
        dsimp only at h
        by_cases d : (s.sail k).hi < (s.sail n).hi
        · rw [if_pos d] at h
          cases h
          exact ⟨Nat.lt_succ_self _, c⟩
        · rw [if_neg d] at h
          cases h
          have := ih _ e
          exact ⟨by omega, this.2⟩
    · rw [if_neg c] at h
      have := ih _ h
      exact ⟨by omega, this.2⟩
def glue (t : List Nat) : Except Nat (List Nat) → Except Nat (List Nat)
  | .error e => .error e
  | .ok l => .ok (t ++ l)
theorem plain_done {s : Loft} {f w : Nat} (h : s.hi < w) : s.plainFrom f w = .ok [] := by
  cases f with
  | zero => rfl
  | succ f => unfold Loft.plainFrom; rw [if_pos h]
theorem plain_none {s : Loft} {f w : Nat} (h : ¬ s.hi < w) (e : s.farthest w = none) : s.plainFrom (f + 1) w = .error w := by
  unfold Loft.plainFrom
  rw [if_neg h, e]
theorem plain_some {s : Loft} {f w i : Nat} (h : ¬ s.hi < w) (e : s.farthest w = some i) (t : List Nat) : glue t (s.plainFrom (f + 1) w) = glue (t ++ [i]) (s.plainFrom f ((s.sail i).hi + 1)) := by
  rw [Loft.plainFrom, if_neg h, e]
  dsimp only
  cases s.plainFrom f ((s.sail i).hi + 1) with
  | error e => rfl
  | ok l => simp [glue]

/-! ### what every loft keeps -/
structure Good (s : Loft) : Prop where
  lohi : s.lo ≤ s.hi
  hi : s.hi ≤ 40
  few : s.sails.length ≤ 9
theorem good_init : Good Uw29.init := ⟨by decide, by decide, by decide⟩
end Sw
namespace Sw
open Uw29 (Sail Loft Best stands Call)
theorem good_step {s : Loft} (g : Good s) : ∀ c : Call, Good (Uw29.step s c).1
  | .begins a b => by
    show Good (if Uw29.WIND < b ∨ b < a then (s, Uw29.ok (-1)) else (⟨a, b, []⟩, Uw29.ok 0)).1
    by_cases h : Uw29.WIND < b ∨ b < a
    · rw [if_pos h]; exact g
    · rw [if_neg h]
      unfold Uw29.WIND at h
      exact ⟨by show a ≤ b; omega, by show b ≤ 40; omega, Nat.zero_le _⟩
  | .sail x => by
    show Good (if Uw29.WIND < x.hi ∨ x.hi < x.lo ∨ Uw29.PRICE < x.cost then (s, Uw29.ok (-1)) else if Uw29.SAILS ≤ s.sails.length then (s, Uw29.ok (-5)) else ({ s with sails := s.sails ++ [x] }, Uw29.ok (s.sails.length : Nat))).1
    by_cases h : Uw29.WIND < x.hi ∨ x.hi < x.lo ∨ Uw29.PRICE < x.cost
    · rw [if_pos h]; exact g
    · rw [if_neg h]
      by_cases h2 : Uw29.SAILS ≤ s.sails.length
      · rw [if_pos h2]; exact g
      · rw [if_neg h2]
        unfold Uw29.SAILS at h2
        exact ⟨g.lohi, g.hi, by show (s.sails ++ [x]).length ≤ 9; rw [List.length_append, List.length_singleton]; omega⟩
  | .check k q => by
    show Good (if 3 < k ∨ 2 ^ s.sails.length ≤ q then (s, Uw29.ok (-1)) else (s, _)).1
    by_cases h : 3 < k ∨ 2 ^ s.sails.length ≤ q
    · rw [if_pos h]; exact g
    · rw [if_neg h]; exact g
  | .best k => by
    show Good (if 3 < k then (s, Uw29.ok (-1)) else (s, _)).1
    by_cases h : 3 < k
    · rw [if_pos h]; exact g
    · rw [if_neg h]; exact g
  | .fewest => g

/-- a call's own numbers -/
def nums : Call → List Nat
  | .begins a b => [0, a, b]
  | .sail x => [1, x.lo, x.hi, x.cost]
  | .check k q => [2, k, q]
  | .best k => [3, k]
  | .fewest => [4]
def toInts (l : List Nat) : List Int := l.map fun (n : Nat) => (n : Int)
def ans (s : Loft) (c : Call) : List Int := Uw29Neutral.out (Uw29.step s c).2
abbrev stp : Loft → List (List Int) → Loft × List Int := fun s c => Uw29Neutral.step s (c.headD [])
def told (s : Loft) (cs : List (List (List Int))) : List Int := PyFlat.told (PyFlat.played stp s (cs.map PyUw29.whole))

theorem shape_cases {p : Int} {n k : Nat} (h : PyUw29.shape p = some (n, k)) : k = 0 ∧ ((p = 0 ∧ n = 2) ∨ (p = 1 ∧ n = 3) ∨ (p = 2 ∧ n = 2) ∨ (p = 3 ∧ n = 1) ∨ (p = 4 ∧ n = 0)) := by
  unfold PyUw29.shape at h
  by_cases h0 : p = 0
  · rw [if_pos h0] at h; cases h; exact ⟨rfl, .inl ⟨h0, rfl⟩⟩
  rw [if_neg h0] at h
  by_cases h1 : p = 1
  · rw [if_pos h1] at h; cases h; exact ⟨rfl, .inr (.inl ⟨h1, rfl⟩)⟩
  rw [if_neg h1] at h
  by_cases h2 : p = 2
  · rw [if_pos h2] at h; cases h; exact ⟨rfl, .inr (.inr (.inl ⟨h2, rfl⟩))⟩
  rw [if_neg h2] at h
  by_cases h3 : p = 3
  · rw [if_pos h3] at h; cases h; exact ⟨rfl, .inr (.inr (.inr (.inl ⟨h3, rfl⟩)))⟩
  rw [if_neg h3] at h
  by_cases h4 : p = 4
  · rw [if_pos h4] at h; cases h; exact ⟨rfl, .inr (.inr (.inr (.inr ⟨h4, rfl⟩)))⟩
  rw [if_neg h4] at h
  cases h
theorem calls_cons {f : Nat} {p : Int} {r : List Int} {cs : List (List (List Int))} (h : PyFlat.calls PyUw29.shape f (p :: r) = some cs) :
    ∃ (n f' : Nat) (cs' : List (List (List Int))), PyUw29.shape p = some (n, 0) ∧ n ≤ r.length ∧ PyFlat.calls PyUw29.shape f' (r.drop n) = some cs' ∧ cs = [p :: r.take n] :: cs' := by
  cases f with
  | zero => cases h
  | succ f =>
    unfold PyFlat.calls at h
    cases e : PyFlat.call PyUw29.shape (p :: r) with
    | none => rw [e] at h; cases h
    | some ct =>
      obtain ⟨c, t⟩ := ct
      rw [e] at h
      dsimp only at h
      cases e2 : PyFlat.calls PyUw29.shape f t with
      | none => rw [e2] at h; cases h
      | some cs' =>
        rw [e2] at h
        cases h
        unfold PyFlat.call at e
        dsimp only at e
        cases e3 : PyUw29.shape p with
        | none => rw [e3] at e; cases e
        | some nk =>
          obtain ⟨n, k⟩ := nk
          rw [e3] at e
          have hk := (shape_cases e3).1
          subst hk
          dsimp only at e
          by_cases hl : r.length < n
          · rw [if_pos hl] at e; cases e
          · rw [if_neg hl] at e
            cases e
            exact ⟨n, f, cs', rfl, by omega, e2, rfl⟩
def Small (l : List Int) : Prop := ∀ z, z ∈ l → 0 ≤ z ∧ z ≤ 4294967295
theorem nat_ok {z : Int} (h : 0 ≤ z ∧ z ≤ 4294967295) : Uw29Neutral.nat z = true := by
  unfold Uw29Neutral.nat
  rw [Bool.and_eq_true, decide_eq_true_eq, decide_eq_true_eq]
  omega
theorem step_of {s : Loft} {l : List Int} {c : Call} (hs : Small l) (e : Uw29Neutral.callIn (l.map Int.toNat) = some c) : Uw29Neutral.step s l = ((Uw29.step s c).1, ans s c) := by
  have hall : l.all Uw29Neutral.nat = true := List.all_eq_true.mpr fun z hz => nat_ok (hs z hz)
  have e2 : Uw29Neutral.callOf l = some c := by
    unfold Uw29Neutral.callOf
    rw [hall, if_neg (by decide), e]
  unfold Uw29Neutral.step
  rw [e2]
  rfl
theorem ofNat_small {z : Int} (h : 0 ≤ z ∧ z ≤ 4294967295) : ∃ n : Nat, z = (n : Int) := ⟨z.toNat, by omega⟩
theorem small_ints {l : List Int} (h : Small l) : ∃ m : List Nat, l = toInts m := by
  refine ⟨l.map Int.toNat, ?_⟩
  unfold toInts
  rw [List.map_map]
  have : ∀ z ∈ l, ((fun (n : Nat) => (n : Int)) ∘ Int.toNat) z = z := fun z hz => by
    have := h z hz
    show ((z.toNat : Nat) : Int) = z
    omega
  rw [List.map_congr_left this, List.map_id']
/-- one call off the list -/
theorem take_call {f : Nat} {l : List Int} {cs : List (List (List Int))} (hne : l ≠ []) (hs : Small l) (h : PyFlat.calls PyUw29.shape f l = some cs) :
    ∃ (c : Call) (rest : List Int) (f' : Nat) (cs' : List (List (List Int))), l = toInts (nums c) ++ rest ∧ PyFlat.calls PyUw29.shape f' rest = some cs' ∧ (∀ s, told s cs = ((ans s c).length : Int) :: ans s c ++ told (Uw29.step s c).1 cs') := by
  obtain ⟨m, rfl⟩ := small_ints hs
  match m, hne with
  | a :: r, _ =>
    have e0 : toInts (a :: r) = (a : Int) :: toInts r := rfl
    rw [e0] at h
    obtain ⟨n, f', cs', hsh, hn, hc, rfl⟩ := calls_cons h
    have hlen : (toInts r).length = r.length := List.length_map _
    rw [hlen] at hn
    have key : ∀ (c : Call), nums c = a :: r.take n → (PyUw29.whole [(a : Int) :: (toInts r).take n]).headD [] = toInts (nums c) → Uw29Neutral.callIn (nums c) = some c →
        ∃ (c : Call) (rest : List Int) (f2 : Nat) (cs2 : List (List (List Int))), toInts (a :: r) = toInts (nums c) ++ rest ∧ PyFlat.calls PyUw29.shape f2 rest = some cs2 ∧ (∀ s, told s ([(a : Int) :: (toInts r).take n] :: cs') = ((ans s c).length : Int) :: ans s c ++ told (Uw29.step s c).1 cs2) := by
      intro c e1 e2 e3
      have es : toInts (a :: r) = toInts (nums c) ++ (toInts r).drop n := by
        rw [e1]
        show (a : Int) :: toInts r = ((a : Int) :: toInts (r.take n)) ++ (toInts r).drop n
        have : toInts (r.take n) = (toInts r).take n := by unfold toInts; rw [List.map_take]
        rw [this, List.cons_append, List.take_append_drop]
      refine ⟨c, (toInts r).drop n, f', cs', es, hc, fun s => ?_⟩
      have hs2 : Small (toInts (nums c)) := fun z hz => hs z (by rw [es]; exact List.mem_append_left _ hz)
      have e4 : Uw29Neutral.callIn ((toInts (nums c)).map Int.toNat) = some c := by
        have : (toInts (nums c)).map Int.toNat = nums c := by
          unfold toInts
          rw [List.map_map]
          have : (Int.toNat ∘ fun (n : Nat) => (n : Int)) = id := by funext x; rfl
          rw [this, List.map_id]
        rw [this, e3]
      have e5 := step_of (s := s) hs2 e4
      unfold told
      rw [List.map_cons]
      show PyFlat.told ((stp s (PyUw29.whole [(a : Int) :: (toInts r).take n])).2 :: PyFlat.played stp (stp s (PyUw29.whole [(a : Int) :: (toInts r).take n])).1 (cs'.map PyUw29.whole)) = _
      have e6 : stp s (PyUw29.whole [(a : Int) :: (toInts r).take n]) = ((Uw29.step s c).1, ans s c) := by
        show Uw29Neutral.step s ((PyUw29.whole [(a : Int) :: (toInts r).take n]).headD []) = _
        rw [e2, e5]
      rw [e6]
      unfold PyFlat.told
      rw [List.flatMap_cons]
    obtain ⟨_, hp⟩ := shape_cases hsh
    rcases hp with ⟨ha, rfl⟩ | ⟨ha, rfl⟩ | ⟨ha, rfl⟩ | ⟨ha, rfl⟩ | ⟨ha, rfl⟩
    · have ha : a = 0 := by omega
      subst ha
      match r, hn with
      | x :: y :: r, _ => exact key (.begins x y) rfl rfl rfl
    · have ha : a = 1 := by omega
      subst ha
      match r, hn with
      | x :: y :: z :: r, _ => exact key (.sail ⟨x, y, z⟩) rfl rfl rfl
    · have ha : a = 2 := by omega
      subst ha
      match r, hn with
      | x :: y :: r, _ => exact key (.check x y) rfl rfl rfl
    · have ha : a = 3 := by omega
      subst ha
      match r, hn with
      | x :: r, _ => exact key (.best x) rfl rfl rfl
    · have ha : a = 4 := by omega
      subst ha
      exact key .fewest rfl rfl rfl
theorem calls_nil {f : Nat} {cs : List (List (List Int))} (h : PyFlat.calls PyUw29.shape f [] = some cs) (s : Loft) : told s cs = [] := by
  have : cs = [] := by
    cases f with
    | zero => cases h; rfl
    | succ f => cases h; rfl
  subst this
  rfl
theorem asked_start {l : List Int} (h : PyUw29.answers_asked l = true) : ∃ cs, PyFlat.calls PyUw29.shape l.length l = some cs ∧ told Uw29.init cs = PyUw29.answers l ∧ (PyUw29.answers l).length ≤ 10000000 := by
  unfold PyUw29.answers_asked at h
  cases e : PyFlat.calls PyUw29.shape l.length l with
  | none => rw [e] at h; cases h
  | some raw =>
    rw [e] at h
    dsimp only at h
    rw [Bool.and_eq_true] at h
    have h2 : PyFlat.short 10000000 (PyUw29.answers l) = true := h.2
    refine ⟨raw, rfl, ?_, of_decide_eq_true h2⟩
    unfold PyUw29.answers PyUw29.calls
    rw [e]
    rfl
theorem nums_len : ∀ c : Call, (nums c).length = [3, 4, 3, 2, 1].getD ((nums c).headD 0) 0
  | .begins _ _ => rfl
  | .sail _ => rfl
  | .check _ _ => rfl
  | .best _ => rfl
  | .fewest => rfl
end Sw
namespace Sw
open PySem PySem.Spec PyProof.Rows L2
open PySem.W (Datum DatumOrd)
/-! ### three words the layer lacks: min, count, index over a list of pairs of whole numbers -/
abbrev pr (m : W2) : Int × Int := ((m.1 : Int), (m.2 : Int))
abbrev prD (m : W2) : PyData := Datum.toD (pr m)
theorem pr_inj {a b : W2} (h : pr a = pr b) : a = b := by
  obtain ⟨a1, a2⟩ := a
  obtain ⟨b1, b2⟩ := b
  unfold pr at h
  injection h with h1 h2
  simp only at h1 h2
  rw [show a1 = b1 by omega, show a2 = b2 by omega]
theorem prD_eqv (a b : W2) : PyData.eqv (prD a) (prD b) = decide (a = b) := by
  rw [Datum.eqv]
  exact decide_eq_decide.mpr ⟨pr_inj, fun e => by rw [e]⟩
theorem lt_pr (a b : W2) : DatumOrd.lt (pr a) (pr b) = true ↔ wlt a b := by
  show (if (a.1 : Int) = b.1 then decide ((a.2 : Int) < b.2) else decide ((a.1 : Int) < b.1)) = true ↔ _
  unfold wlt
  by_cases h : (a.1 : Int) = b.1
  · rw [if_pos h, decide_eq_true_eq]
    omega
  · rw [if_neg h, decide_eq_true_eq]
    omega
theorem minOf_least : ∀ (ws : List W2) (x : W2), ∃ m : W2, PySem.W.minOf (pr x) (ws.map pr) = pr m ∧ m ∈ x :: ws ∧ ∀ y, y ∈ x :: ws → ¬ wlt y m
  | [], x => ⟨x, rfl, List.mem_cons_self, fun y hy => by
    rw [List.mem_singleton] at hy
    subst hy
    unfold wlt
    omega⟩
  | z :: ws, x => by
    have e : PySem.W.minOf (pr x) ((z :: ws).map pr) = PySem.W.minOf (if DatumOrd.lt (pr z) (pr x) = true then pr z else pr x) (ws.map pr) := rfl
    by_cases c : DatumOrd.lt (pr z) (pr x) = true
    · rw [e, if_pos c]
      obtain ⟨m, h1, h2, h3⟩ := minOf_least ws z
      refine ⟨m, h1, List.mem_cons_of_mem _ h2, fun y hy => ?_⟩
      rw [List.mem_cons] at hy
      rcases hy with rfl | hy
      · have c2 := (lt_pr _ _).mp c
        have c3 := h3 z List.mem_cons_self
        unfold wlt at *
        omega
      · exact h3 y hy
    · rw [e, if_neg c]
      obtain ⟨m, h1, h2, h3⟩ := minOf_least ws x
      refine ⟨m, h1, ?_, fun y hy => ?_⟩
      · rw [List.mem_cons] at h2 ⊢
        rcases h2 with h2 | h2
        · exact .inl h2
        · exact .inr (List.mem_cons_of_mem _ h2)
      · rw [List.mem_cons, List.mem_cons] at hy
        rcases hy with rfl | rfl | hy
        · exact h3 y List.mem_cons_self
        · have c3 := h3 x List.mem_cons_self
          have c2 : ¬ wlt y x := fun q => c ((lt_pr _ _).mpr q)
          unfold wlt at *
          omega
        · exact h3 y (List.mem_cons_of_mem _ hy)
theorem map_prD (ws : List W2) : ws.map prD = (ws.map pr).map Datum.toD := by rw [List.map_map]; rfl
section
variable {X : Cx}
theorem units_pair {k : Nat} {A : Around} (hr : Room k A) : A.units + 1 + Datum.depth (Int × Int) < cLine := by
  have := hr.un
  show A.units + 1 + 1 < cLine
  omega
/-- min(xs), xs a list of pairs, not empty -/
def rMinP (K : PySem.W.Frag) : List V → Hp → VK → Prop := fun vs H Q => ∃ (a : Addr) (xs : List V) (x : W2) (ws : List W2), vs = [.ref a] ∧ SqL K H a xs ∧ DpAll K H xs ((x :: ws).map prD) ∧
  ∀ (i : Nat) (v : V) (m : W2), xs[i]? = some v → (x :: ws)[i]? = some m → (∀ y, y ∈ x :: ws → ¬ wlt y m) → Q v H
theorem cr_minP {k : Nat} (hc : X.calm = true) (hr : Room k X.A) : CallR X (.builtin "min") (rMinP X.K) := by
  intro pins s σ H vs us Q I r h
  obtain ⟨a, xs, x, ws, rfl, hs, hd, q⟩ := h
  obtain ⟨its, rv, hl, _⟩ := I.list hs
  rw [Vals.ref1 r]
  obtain ⟨as, rs⟩ := Dp.readsAll I _ _ its hd rv
  have HA : PySem.W.HoldAll s.heap its.toArray.toList (pr x :: ws.map pr) := ⟨as, by
    have e : (pr x :: ws.map pr).map Datum.toD = (x :: ws).map prD := (map_prD (x :: ws)).symm
    rw [e]
    exact rs⟩
  refine PySem.W.min_list_datum (I.ok.hd hc) hl.isList HA (units_pair hr) fun i v h' tk hv hh hk => ?_
  obtain ⟨m, h1, h2, h3⟩ := minOf_least ws x
  rw [h1] at hh
  have hv2 : its[i]? = some v := by simpa using hv
  have hil : i < its.length := (List.getElem?_eq_some_iff.mp hv2).1
  have hvl := rv.length
  have hix : i < xs.length := by omega
  obtain ⟨u, hu, ru⟩ := rv.get (i := i) (x := xs[i]) (List.getElem?_eq_getElem hix)
  have euv : u = v := Option.some.inj (hu.symm.trans hv2)
  subst euv
  have hpl : PyData.plainAll ((x :: ws).map prD) = true := by rw [map_prD]; exact PySem.W.plainAll_map _
  have rs2 : ReadsAll s.heap its.toArray.toList ((x :: ws).map prD) as := rs
  obtain ⟨hl2, er⟩ := PySem.SeqAt.readOf_at rs2 hpl i (by simpa using hil)
  obtain ⟨bs, rm⟩ := hh
  have hl3 : i < (x :: ws).length := by rw [List.length_map] at hl2; exact hl2
  have hrd : ∃ cs, Reads s.heap u (prD (x :: ws)[i]) cs := Dp.reads I _ _ u (by
    have hdi : ∀ {ys : List V} {ds : List PyData}, DpAll X.K H ys ds → ∀ (j : Nat) (y : V) (d : PyData), ys[j]? = some y → ds[j]? = some d → Dp X.K H y d := by
      intro ys ds hy
      induction ys generalizing ds with
      | nil => intro j y d h1 _; simp at h1
      | cons y0 ys ih =>
        cases hy with
        | cons hy1 hy2 =>
          intro j y d h1 h2
          cases j with
          | zero =>
            have e1 : y0 = y := Option.some.inj h1
            have e2 := Option.some.inj h2
            subst e1 e2
            exact hy1
          | succ j => exact ih hy2 j y d h1 h2
    exact hdi hd i _ _ (List.getElem?_eq_getElem hix) (by rw [List.getElem?_map, List.getElem?_eq_getElem hl3]; rfl)) ru
  obtain ⟨cs, rc⟩ := hrd
  have rc' := Reads.keeps hk rc
  have e1 := PySem.SeqAt.readOf_plain (Datum.plain (pr m)) rm
  have e2 := PySem.SeqAt.readOf_plain (Datum.plain (pr (x :: ws)[i])) rc'
  have e3 : prD m = prD (x :: ws)[i] := e1.symm.trans e2
  have e4 : m = (x :: ws)[i] := by
    have e5 := prD_eqv m (x :: ws)[i]
    rw [← e3, prD_eqv, decide_eq_true rfl] at e5
    exact of_decide_eq_true e5.symm
  exact ⟨xs[i], H, I.kept hk, ru, q i _ m (List.getElem?_eq_getElem hix) (by rw [e4]; exact List.getElem?_eq_getElem hl3) h3⟩
/-- xs.count(y) -/
def rCntP (K : PySem.W.Frag) : V → List V → Hp → VK → Prop := fun x vs H Q => ∃ (a : Addr) (xs : List V) (ws : List W2) (y : V) (m : W2), x = .ref a ∧ vs = [y] ∧ SqL K H a xs ∧ DpAll K H xs (ws.map prD) ∧ Dp K H y (prD m) ∧
  Q (.int (ws.countP (fun z => decide (z = m)) : Nat)) H
theorem mt_countP {k : Nat} (hr : Room k X.A) : MtR X "list.count" (rCntP X.K) := by
  intro pins s σ H x xs v us Q I rx rxs h
  obtain ⟨a, ys, ws, y, m, rfl, rfl, hs, hd, hy, q⟩ := h
  cases rx
  obtain ⟨u, rfl, ru⟩ := rxs.one
  obtain ⟨its, rv, hl, _⟩ := I.list hs
  obtain ⟨as, rs⟩ := Dp.readsAll I _ _ its hd rv
  obtain ⟨bs, rm⟩ := Dp.reads I _ _ u hy ru
  have hpl : PyData.plainAll (ws.map prD) = true := by rw [map_prD]; exact PySem.W.plainAll_map _
  have hdep : PyData.depthAll (ws.map prD) ≤ 1 := by rw [map_prD]; exact PySem.W.depthAll_map (ws.map pr)
  have hun := hr.un
  refine PySem.SeqAt.count_list_data hl.isList (vs := its.toArray) rs rm hpl (Datum.plain _) (by omega) ?_
  have e : (ws.map prD).countP (fun y => PyData.eqv y (prD m)) = ws.countP (fun z => decide (z = m)) := by
    rw [List.countP_map]
    congr 1
    funext z
    exact prD_eqv z m
  rw [e]
  exact ⟨.int _, H, I.tok _, ⟨_, rfl⟩, q⟩
/-- xs.index(y), y being there -/
def rIdxP (K : PySem.W.Frag) : V → List V → Hp → VK → Prop := fun x vs H Q => ∃ (a : Addr) (xs : List V) (ws : List W2) (y : V) (m : W2), x = .ref a ∧ vs = [y] ∧ SqL K H a xs ∧ DpAll K H xs (ws.map prD) ∧ Dp K H y (prD m) ∧ m ∈ ws ∧
  ∀ j : Nat, ws[j]? = some m → (∀ (i : Nat) (z : W2), i < j → ws[i]? = some z → z ≠ m) → Q (.int (j : Nat)) H
theorem idx_first {B : Type} [DecidableEq B] (ws : List B) (m : B) (h : m ∈ ws) : ws[ws.idxOf m]? = some m ∧ ∀ (i : Nat) (z : B), i < ws.idxOf m → ws[i]? = some z → z ≠ m := by
  induction ws with
  | nil => cases h
  | cons w ws ih =>
    by_cases c : w = m
    · subst c
      rw [List.idxOf_cons_self]
      exact ⟨rfl, fun i z hi => by omega⟩
    · have hm : m ∈ ws := by
        rw [List.mem_cons] at h
        rcases h with h | h
        · exact absurd h.symm c
        · exact h
      obtain ⟨h1, h2⟩ := ih hm
      rw [List.idxOf_cons, show (w == m) = false from beq_eq_false_iff_ne.mpr c]
      refine ⟨h1, fun i z hi hz => ?_⟩
      cases i with
      | zero =>
        have e : w = z := Option.some.inj hz
        rw [← e]
        exact c
      | succ i => exact h2 i z (Nat.lt_of_succ_lt_succ hi) hz
theorem at_pr {ws : List W2} {j : Nat} {m : W2} (h : (ws.map pr)[j]? = some (pr m)) : ws[j]? = some m := by
  rw [List.getElem?_map] at h
  cases e : ws[j]? with
  | none => rw [e] at h; cases h
  | some z =>
    rw [e] at h
    exact congrArg some (pr_inj (Option.some.inj h))
theorem mt_indexP {k : Nat} (hr : Room k X.A) : MtR X "list.index" (rIdxP X.K) := by
  intro pins s σ H x xs v us Q I rx rxs h
  obtain ⟨a, ys, ws, y, m, rfl, rfl, hs, hd, hy, hm, q⟩ := h
  cases rx
  obtain ⟨u, rfl, ru⟩ := rxs.one
  obtain ⟨its, rv, hl, hz⟩ := I.list hs
  obtain ⟨as, rs⟩ := Dp.readsAll I _ _ its hd rv
  obtain ⟨bs, rm⟩ := Dp.reads I _ _ u hy ru
  have HA : PySem.W.HoldAll s.heap its (ws.map pr) := ⟨as, by rw [← map_prD]; exact rs⟩
  have hlen := HA.length
  rw [List.length_map] at hlen
  obtain ⟨h1, h2⟩ := idx_first (ws.map pr) (pr m) (List.mem_map_of_mem hm)
  refine PySem.W.index_list_datum hl.isList HA ⟨bs, rm⟩ (units_pair hr) (by rw [List.length_map, ← hlen, ← rv.length]; exact hz) (List.mem_map_of_mem hm) ?_
  refine ⟨.int _, H, I.tok _, ⟨_, rfl⟩, q _ ?_ fun i z hi hz e => h2 i (pr z) hi (by rw [List.getElem?_map, hz]; rfl) (by rw [e])⟩
  exact at_pr h1
end
end Sw
namespace Sw
open PySem PySem.Spec PyProof.Rows L2
open Uw29 (Sail Loft Best stands)
/-! ### the text by places -/
def top (i : Nat) : Stmt := PySem.Challenge.pw_sailwardrobe_s01_answers.main.body.getD i (.Pass ⟨0, 0, 0, 0⟩)
abbrev sSailInit : Stmt := inClass (top 13) 0
abbrev sStands : Stmt := inClass (top 13) 1
abbrev sLoftInit : Stmt := inClass (top 14) 0
abbrev sBegins : Stmt := inClass (top 14) 1
abbrev sSail : Stmt := inClass (top 14) 2
abbrev sCheck : Stmt := inClass (top 14) 3
abbrev sBest : Stmt := inClass (top 14) 4
abbrev sFewest : Stmt := inClass (top 14) 5
abbrev sSets : Stmt := inClass (top 14) 6
abbrev sShort : Stmt := inClass (top 14) 7
abbrev sAre : Stmt := top 15
abbrev sCount : Stmt := top 16
abbrev sOf : Stmt := top 17
abbrev sTotal : Stmt := top 18
abbrev sWorth : Stmt := top 19
abbrev sStanding : Stmt := top 20
abbrev sFar : Stmt := top 21
abbrev sCall : Stmt := top 22
abbrev sAns : Stmt := top 23
/-! ### short words -/
theorem if_t {c : Bool} {A B : Prop} (hc : c = true) (h : A) : if c = true then A else B := by
  rw [if_pos hc]
  exact h
theorem if_f {c : Bool} {A B : Prop} (hc : c = false) (h : B) : if c = true then A else B := by
  rw [hc, if_neg Bool.false_ne_true]
  exact h
theorem pe_num {X : Cx} {x : Str} {n : Int} {pos : Pos} (hg : Gl X x) (hm : ∃ t, X.mg x = some (.int n t)) (hd : (x == ("__debug__" : Str)) = false := by decide) : PE X (.Name x pos) (tC (.int n)) := by
  obtain ⟨t, ht⟩ := hm
  exact pe_glob hg ht ⟨t, rfl⟩ hd
theorem same_new {H : Hp} {p : Addr} {o : HO} (h : H p = none) : Same H (upd H p o) := fun b o' e => by
  rw [upd_ne (ne_of_none e h)]
  exact e
theorem same_then {H H1 : Hp} {p : Addr} {o : HO} (s : Same H H1) (h : H p = none) : Same H (upd H1 p o) := fun b o' e => by
  rw [upd_ne (ne_of_none e h)]
  exact s b o' e
theorem lk_here {k : Str} {v : V} {r : List (Str × V)} : List.lookup k ((k, v) :: r) = some v := by
  have e : (k == k) = true := beq_self_eq_true k
  simp only [List.lookup, e]
theorem lk_past {k g : Str} {v : V} {r : List (Str × V)} (h : (k == g) = false) : List.lookup k ((g, v) :: r) = List.lookup k r := by
  simp only [List.lookup, h]
theorem put_here {f : Str} {v x : V} {r : List (Str × V)} : putF f v ((f, x) :: r) = (f, v) :: r := if_pos rfl
theorem put_past {f g : Str} {v x : V} {r : List (Str × V)} (h : ¬ g = f) : putF f v ((g, x) :: r) = (g, x) :: putF f v r := if_neg h
theorem map_at {A : Type} {f : A → V} {l : List A} {i : Nat} {y : V} (h : (l.map f)[i]? = some y) : ∃ z, l[i]? = some z ∧ y = f z := by
  rw [List.getElem?_map] at h
  cases e : l[i]? with
  | none =>
    rw [e] at h
    cases h
  | some z =>
    rw [e] at h
    exact ⟨z, rfl, (Option.some.inj h).symm⟩
theorem take_more {A : Type} {l : List A} {i : Nat} {x : A} (h : l[i]? = some x) : l.take (i + 1) = l.take i ++ [x] := by
  rw [List.take_add_one, h]
  rfl
theorem small64n {n : Nat} (h : n ≤ 2 ^ 9) : -(2 ^ 64) < (n : Int) ∧ (n : Int) < 2 ^ 64 := by omega
/-! ### how a sail, sails, a loft lie in the heap -/
def sF (x : Sail) : List (Str × V) := [("least", .int x.lo), ("greatest", .int x.hi), ("cost", .int x.cost)]
def SailAt (C : Addr) (H : Hp) (a : Addr) (x : Sail) : Prop := ∃ dx, H a = some (.ins C dx (sF x))
theorem sF_least (x : Sail) : (sF x).lookup ("least" : Str) = some (.int x.lo) := lk_here
theorem sF_greatest (x : Sail) : (sF x).lookup ("greatest" : Str) = some (.int x.hi) := (lk_past (by decide +kernel)).trans lk_here
theorem sF_cost (x : Sail) : (sF x).lookup ("cost" : Str) = some (.int x.cost) := (lk_past (by decide +kernel)).trans ((lk_past (by decide +kernel)).trans lk_here)
theorem sF_no (x : Sail) {m : Str} (h1 : (m == ("least" : Str)) = false) (h2 : (m == ("greatest" : Str)) = false) (h3 : (m == ("cost" : Str)) = false) : (sF x).lookup m = none := (lk_past h1).trans ((lk_past h2).trans ((lk_past h3).trans rfl))
theorem sF_new (x : Sail) : putF "cost" (.int x.cost) (putF "greatest" (.int x.hi) (putF "least" (.int x.lo) [])) = sF x := by
  have e1 : putF "greatest" (.int x.hi) (putF "least" (.int x.lo) []) = [(("least" : Str), V.int x.lo), ("greatest", .int x.hi)] := (put_past (by decide +kernel)).trans rfl
  rw [e1]
  exact (put_past (by decide +kernel)).trans (congrArg _ ((put_past (by decide +kernel)).trans rfl))
theorem SailAt.same {C : Addr} {H H' : Hp} {a : Addr} {x : Sail} (s : Same H H') (h : SailAt C H a x) : SailAt C H' a x := by
  obtain ⟨dx, h⟩ := h
  exact ⟨dx, s _ _ h⟩
/-- the sails at these addresses -/
structure AllAt (C : Addr) (H : Hp) (as : List Addr) (xs : List Sail) : Prop where
  len : as.length = xs.length
  at_ : ∀ (i : Nat) (a : Addr), as[i]? = some a → ∃ x, xs[i]? = some x ∧ SailAt C H a x
theorem AllAt.keep {C : Addr} {H H' : Hp} {as : List Addr} {xs : List Sail} (h : AllAt C H as xs) (k : ∀ a x, SailAt C H a x → SailAt C H' a x) : AllAt C H' as xs :=
  ⟨h.len, fun i a e => by obtain ⟨x, e1, e2⟩ := h.at_ i a e; exact ⟨x, e1, k a x e2⟩⟩
theorem AllAt.same {C : Addr} {H H' : Hp} {as : List Addr} {xs : List Sail} (s : Same H H') (h : AllAt C H as xs) : AllAt C H' as xs := h.keep fun _ _ => SailAt.same s
theorem AllAt.nil {C : Addr} {H : Hp} : AllAt C H [] [] := ⟨rfl, fun i a e => by simp at e⟩
theorem AllAt.snoc {C : Addr} {H : Hp} {as : List Addr} {xs : List Sail} {a : Addr} {x : Sail} (h : AllAt C H as xs) (q : SailAt C H a x) : AllAt C H (as ++ [a]) (xs ++ [x]) := by
  refine ⟨by rw [List.length_append, List.length_append, h.len]; rfl, fun i b e => ?_⟩
  by_cases c : i < as.length
  · rw [List.getElem?_append_left c] at e
    obtain ⟨y, e1, e2⟩ := h.at_ i b e
    exact ⟨y, by rw [List.getElem?_append_left (by rw [← h.len]; exact c)]; exact e1, e2⟩
  · rw [List.getElem?_append_right (by omega)] at e
    have hi : i = as.length := by
      have := (List.getElem?_eq_some_iff.mp e).1
      rw [List.length_singleton] at this
      omega
    subst hi
    rw [Nat.sub_self] at e
    have : a = b := Option.some.inj e
    subst this
    exact ⟨x, by rw [h.len, List.getElem?_append_right (Nat.le_refl _), Nat.sub_self]; rfl, q⟩
/-- a list of sails stands at l -/
structure SailsAt (C : Addr) (H : Hp) (l : Addr) (as : List Addr) (xs : List Sail) : Prop where
  lst : H l = some (.lst (as.map V.ref))
  all : AllAt C H as xs
theorem SailsAt.same {C : Addr} {H H' : Hp} {l : Addr} {as : List Addr} {xs : List Sail} (s : Same H H') (h : SailsAt C H l as xs) : SailsAt C H' l as xs := ⟨s _ _ h.lst, h.all.same s⟩
def lF (s : Loft) (l : Addr) : List (Str × V) := [("least", .int s.lo), ("greatest", .int s.hi), ("sails", .ref l)]
theorem lF_least (s : Loft) (l : Addr) : (lF s l).lookup ("least" : Str) = some (.int s.lo) := lk_here
theorem lF_greatest (s : Loft) (l : Addr) : (lF s l).lookup ("greatest" : Str) = some (.int s.hi) := (lk_past (by decide +kernel)).trans lk_here
theorem lF_sails (s : Loft) (l : Addr) : (lF s l).lookup ("sails" : Str) = some (.ref l) := (lk_past (by decide +kernel)).trans ((lk_past (by decide +kernel)).trans lk_here)
theorem lF_no (s : Loft) (l : Addr) {m : Str} (h1 : (m == ("least" : Str)) = false) (h2 : (m == ("greatest" : Str)) = false) (h3 : (m == ("sails" : Str)) = false) : (lF s l).lookup m = none := (lk_past h1).trans ((lk_past h2).trans ((lk_past h3).trans rfl))
/-- a loft stands at p, its list of sails at l -/
structure LoftAt (CL CS : Addr) (H : Hp) (p l : Addr) (s : Loft) : Prop where
  ins : ∃ dx, H p = some (.ins CL dx (lF s l))
  sails : ∃ as, SailsAt CS H l as s.sails
theorem LoftAt.same {CL CS : Addr} {H H' : Hp} {p l : Addr} {s : Loft} (e : Same H H') (h : LoftAt CL CS H p l s) : LoftAt CL CS H' p l s := by
  obtain ⟨⟨dx, h1⟩, ⟨as, h2⟩⟩ := h
  exact ⟨⟨dx, e _ _ h1⟩, ⟨as, h2.same e⟩⟩
/-! ### what the top has written -/
structure Txt (K : PySem.W.Frag) (mg : Str → Option Value) (CS CL : Addr) : Prop where
  clS : Cls K CS
  nSl : NoAttr K CS "least"
  nSg : NoAttr K CS "greatest"
  nSc : NoAttr K CS "cost"
  clL : Cls K CL
  nLl : NoAttr K CL "least"
  nLg : NoAttr K CL "greatest"
  nLs : NoAttr K CL "sails"
  gS : mg "Sail" = some (.ref CS)
  gL : mg "Loft" = some (.ref CL)
  cWind : ∃ t, mg "GREATEST_WIND" = some (.int 40 t)
  cCost : ∃ t, mg "GREATEST_COST" = some (.int 1000 t)
  cK : ∃ t, mg "GREATEST_K" = some (.int 3 t)
  cMost : ∃ t, mg "MOST_SAILS" = some (.int 9 t)
  cOut : ∃ t, mg "OUT_OF_BOUNDS" = some (.int (-1) t)
  cFull : ∃ t, mg "LOFT_FULL" = some (.int (-5) t)
  cNot : ∃ t, mg "NOT_ENOUGH" = some (.int (-6) t)
  cBegins : ∃ t, mg "BEGINS" = some (.int 0 t)
  cSail : ∃ t, mg "SAIL" = some (.int 1 t)
  cCheck : ∃ t, mg "CHECK" = some (.int 2 t)
  cBest : ∃ t, mg "BEST" = some (.int 3 t)
  cLen : ∃ a, mg "CALL_LENGTHS" = some (.ref a) ∧ ∀ H, SqT K H a [.int 3, .int 4, .int 3, .int 2, .int 1]
  len : mg "len" = none
  range : mg "range" = none
  min : mg "min" = none
  sum : mg "sum" = none
/-! ### promises -/
def spSailInit (CS : Addr) : Sp := fun vs H Q _ => ∃ (p dx : Addr) (x : Sail), vs = [.ref p, .int x.lo, .int x.hi, .int x.cost] ∧ H p = some (.ins CS dx []) ∧
  ∀ H' : Hp, SailAt CS H' p x → (∀ b o, H b = some o → b ≠ p → H' b = some o) → Q .non H'
def spStands (CS : Addr) : Sp := fun vs H Q _ => ∃ (p : Addr) (x : Sail) (w : Nat), vs = [.ref p, .int w] ∧ SailAt CS H p x ∧ Q (.bl (stands x w)) H
def spAre : Sp := fun vs H Q _ => ∃ (a b : Nat), vs = [.int a, .int b] ∧ Q (.bl (decide (a ≤ b) && decide (b ≤ 40))) H
def spCount (CS : Addr) : Sp := fun vs H Q _ => ∃ (l : Addr) (as : List Addr) (xs : List Sail), vs = [.ref l] ∧ SailsAt CS H l as xs ∧ xs.length ≤ 9 ∧ Q (.int (2 ^ xs.length : Nat)) H
def spOf (CS : Addr) : Sp := fun vs H Q _ => ∃ (l : Addr) (as : List Addr) (xs : List Sail) (q : Nat), vs = [.ref l, .int q] ∧ SailsAt CS H l as xs ∧ xs.length ≤ 9 ∧
  ∀ (H' : Hp) (p : Addr) (bs : List Addr), Same H H' → H p = none → SailsAt CS H' p bs (pick xs q) → Q (.ref p) H'
def spTotal (CS : Addr) : Sp := fun vs H Q _ => ∃ (l : Addr) (as : List Addr) (xs : List Sail), vs = [.ref l] ∧ SailsAt CS H l as xs ∧ xs.length ≤ 9 ∧
  ∀ H' : Hp, Same H H' → Q (.int (costs xs : Nat)) H'
def spWorth (CS : Addr) : Sp := fun vs H Q _ => ∃ (l : Addr) (as : List Addr) (xs : List Sail) (q : Nat), vs = [.ref l, .int q] ∧ SailsAt CS H l as xs ∧ xs.length ≤ 9 ∧
  ∀ (H' : Hp) (p : Addr), Same H H' → H p = none → H' p = some (.tup [.int (costs (pick xs q) : Nat), .int ((pick xs q).length : Nat)]) → Q (.ref p) H'
def spStanding (CS : Addr) : Sp := fun vs H Q _ => ∃ (l : Addr) (as : List Addr) (xs : List Sail) (w : Nat), vs = [.ref l, .int w] ∧ SailsAt CS H l as xs ∧ xs.length ≤ 9 ∧
  ∀ H' : Hp, Same H H' → Q (.int (cnt xs w : Nat)) H'
def optV : Option Nat → V
  | none => .non
  | some n => .int n
def spFar (CS : Addr) : Sp := fun vs H Q _ => ∃ (l : Addr) (as : List Addr) (s : Loft) (w : Nat), vs = [.ref l, .int w] ∧ SailsAt CS H l as s.sails ∧ s.sails.length ≤ 9 ∧
  Q (optV (s.farthest w)) H
section
variable {P : Program} {w : World} {K : PySem.W.Frag} {mg : Str → Option Value} {base : Heap} {CS CL : Addr}
theorem scSailInit : FnScope ["self", "least", "greatest", "cost"] ["self", "least", "greatest", "cost"] (defScope sSailInit) := ⟨rfl, rfl, rfl, by decide +kernel, rfl, by decide +kernel, by decide +kernel⟩
theorem ok_sailInit {f : Addr} {fd : FuncData} (F : Fun K "__init__" "Sail.__init__" sSailInit f fd) (T : Txt K mg CS CL) : FnOk P w K mg base CX0 1 f fd ["self", "least", "greatest", "cost"] (spSailInit CS) := by
  refine F.ok scSailInit (fun vs H Q E h => ?_) (fun cdv A outer s H vs Q E hr h => ?_)
  · obtain ⟨p, dx, x, rfl, _⟩ := h
    rfl
  · obtain ⟨p, dx, x, rfl, hp, k⟩ := h
    refine ⟨_, pss_cons (ps_fld (pv 0) (pv 1) rfl) (pss_cons (ps_fld (pv 0) (pv 2) rfl) (pss_one (ps_fld (pv 0) (pv 3) rfl))), ?_⟩
    refine ⟨_, rfl, _, rfl, p, CS, dx, [], rfl, hp, T.clS, T.nSl, (by show 0 < 1000; decide), ?_⟩
    refine ⟨_, rfl, _, rfl, p, CS, dx, _, rfl, upd_same, T.clS, T.nSg, (by show 1 < 1000; decide), ?_⟩
    refine ⟨_, rfl, _, rfl, p, CS, dx, _, rfl, upd_same, T.clS, T.nSc, (by show 2 < 1000; decide), ?_⟩
    exact k _ ⟨dx, Eq.trans upd_same (congrArg (fun q => some (HO.ins CS dx q)) (sF_new x))⟩ fun b o e hb => by
      rw [upd_ne hb, upd_ne hb, upd_ne hb]
      exact e
theorem scStands : FnScope ["self", "wind"] ["self", "wind"] (defScope sStands) := ⟨rfl, rfl, rfl, by decide +kernel, rfl, by decide +kernel, by decide +kernel⟩
theorem ok_stands {f : Addr} {fd : FuncData} (F : Fun K "stands_in" "Sail.stands_in" sStands f fd) (T : Txt K mg CS CL) : FnOk P w K mg base CX0 1 f fd ["self", "wind"] (spStands CS) := by
  refine F.ok scStands (fun vs H Q E h => ?_) (fun cdv A outer s H vs Q E hr h => ?_)
  · obtain ⟨p, x, w, rfl, _⟩ := h
    rfl
  · obtain ⟨p, x, w, rfl, ⟨dx, hp⟩, k⟩ := h
    refine ⟨_, pss_one (ps_ret (pe_and (pe_cmp (pc_le (pe_fld (pv 0) rfl) (pv 1)) rfl) (pe_one (pe_cmp (pc_le (pv 1) (pe_fld (pv 0) rfl)) rfl)))), ?_⟩
    refine ⟨_, rfl, p, CS, dx, _, _, rfl, hp, T.clS, T.nSl, sF_least x, _, rfl, _, _, rfl, rfl, _, rfl, ?_⟩
    by_cases c : x.lo ≤ w
    · refine if_t (decide_eq_true (by omega)) ?_
      refine ⟨_, rfl, _, rfl, p, CS, dx, _, _, rfl, hp, T.clS, T.nSg, sF_greatest x, _, _, rfl, rfl, ?_⟩
      have e : decide ((w : Int) ≤ (x.hi : Int)) = stands x w := by
        unfold stands
        rw [decide_eq_true c, Bool.true_and]
        exact decide_eq_decide.mpr (by omega)
      show Q (V.bl (decide ((w : Int) ≤ (x.hi : Int)))) H
      rw [e]
      exact k
    · refine if_f (decide_eq_false (by omega)) ?_
      show Q (V.bl false) H
      have e : false = stands x w := by
        unfold stands
        rw [decide_eq_false c, Bool.false_and]
      rw [e]
      exact k
theorem scAre : FnScope ["least", "greatest"] ["least", "greatest"] (defScope sAre) := ⟨rfl, rfl, rfl, by decide +kernel, rfl, by decide +kernel, by decide +kernel⟩
theorem ok_are {f : Addr} {fd : FuncData} (F : Fun K "are_winds" "are_winds" sAre f fd) (T : Txt K mg CS CL) : FnOk P w K mg base CX0 1 f fd ["least", "greatest"] spAre := by
  refine F.ok scAre (fun vs H Q E h => ?_) (fun cdv A outer s H vs Q E hr h => ?_)
  · obtain ⟨a, b, rfl, _⟩ := h
    rfl
  · obtain ⟨a, b, rfl, k⟩ := h
    refine ⟨_, pss_one (ps_ret (pe_and (pe_cmp (pc_le (pv 0) (pv 1)) rfl) (pe_one (pe_cmp (pc_le (pv 1) (pe_num rfl T.cWind)) rfl)))), ?_⟩
    refine ⟨_, rfl, _, rfl, _, _, rfl, rfl, _, rfl, ?_⟩
    by_cases c : a ≤ b
    · refine if_t (decide_eq_true (by omega)) ?_
      refine ⟨_, rfl, _, _, rfl, rfl, ?_⟩
      have e : decide ((b : Int) ≤ 40) = (decide (a ≤ b) && decide (b ≤ 40)) := by
        rw [decide_eq_true c, Bool.true_and]
        exact decide_eq_decide.mpr (by omega)
      show Q (V.bl (decide ((b : Int) ≤ 40))) H
      rw [e]
      exact k
    · refine if_f (decide_eq_false (by omega)) ?_
      show Q (V.bl false) H
      have e : false = (decide (a ≤ b) && decide (b ≤ 40)) := by rw [decide_eq_false c, Bool.false_and]
      rw [e]
      exact k
theorem scCount : FnScope ["sails", "sets", "place"] ["sails"] (defScope sCount) := ⟨rfl, rfl, rfl, by decide +kernel, rfl, by decide +kernel, by decide +kernel⟩
theorem ok_count {f : Addr} {fd : FuncData} (F : Fun K "count_sets" "count_sets" sCount f fd) (T : Txt K mg CS CL) : FnOk P w K mg base CX0 1 f fd ["sails"] (spCount CS) := by
  refine F.ok scCount (fun vs H Q E h => ?_) (fun cdv A outer s H vs Q E hr h => ?_)
  · obtain ⟨l, as, xs, rfl, _⟩ := h
    rfl
  · obtain ⟨l, as, xs, rfl, hS, hn, k⟩ := h
    refine ⟨_, pss_cons (ps_set (i := 1) scCount.nd rfl (Or.inl rfl) pe_int)
      (pss_cons (ps_for PassesOwn.never rfl (pi_range1 rfl T.range (pa_cons (pe_callB call_len_seq (by rfl) T.len PySem.boot_len (pa_cons (pv 0) pa_nil)) pa_nil)) (pg_name (i := 2) scCount.nd rfl (Or.inl rfl))
        (pss_one (ps_set (i := 1) scCount.nd rfl (Or.inl rfl) (pe_op op_mul (pv 1) pe_int))))
      (pss_one (ps_ret (pv 1)))), ?_⟩
    have hl : (as.map V.ref).length = xs.length := by rw [List.length_map, hS.all.len]
    refine ⟨_, rfl, l, _, rfl, .inl (SqL.of hS.lst), _, rfl, (by rw [hl]; omega), (by rw [hl]; omega), for_range (lo := 0) (n := ((as.map V.ref).length : Int).toNat) (fun i σ H' => ∃ v : Option V, σ = [some (.ref l), some (.int (2 ^ i : Nat)), v] ∧ H' = H)
      ⟨none, rfl, rfl⟩ ?_ ?_⟩
    · rintro i σ H' hi ⟨v, rfl, rfl⟩
      rw [hl] at hi
      have hp : 2 ^ i ≤ 2 ^ 9 := Nat.pow_le_pow_right (by decide) (by omega)
      refine ⟨_, rfl, _, _, rfl, rfl, .inl (small64n hp), some (.int (0 + (i : Int))), ?_, rfl⟩
      have e : ((2 ^ i : Nat) : Int) * 2 = ((2 ^ (i + 1) : Nat) : Int) := by
        rw [Nat.pow_succ]
        exact (Int.natCast_mul _ _).symm
      show [some (V.ref l), some (V.int (((2 ^ i : Nat) : Int) * 2)), some (V.int (0 + (i : Int)))] = _
      rw [e]
    · rintro σ H' ⟨v, rfl, rfl⟩
      refine ⟨_, rfl, ?_⟩
      rw [hl]
      exact k
end
end Sw
namespace Sw
open PySem PySem.Spec PyProof.Rows L2
open Uw29 (Sail Loft Best stands)
/-! ### a def, a method, with all that a caller wants of it -/
def Dfn (P : Program) (w : World) (K : PySem.W.Frag) (mg : Str → Option Value) (base : Heap) (k : Nat) (x : Str) (ps : List Str) (sp : Sp) : Prop :=
  ∃ (f : Addr) (fd : FuncData), FnOk P w K mg base CX0 k f fd ps sp ∧ mg x = some (.ref f) ∧ PySem.W.keepIn K (.ref f) = true ∧ Binds K fd ps []
def Mth (P : Program) (w : World) (K : PySem.W.Frag) (mg : Str → Option Value) (base : Heap) (k : Nat) (C : Addr) (m : Str) (ps : List Str) (sp : Sp) : Prop :=
  ∃ (f : Addr) (fd : FuncData), FnOk P w K mg base CX0 k f fd ps sp ∧ Meth K C m f ∧ Binds K fd ps []
section
variable {X : Cx}
theorem pe_dfn {k : Nat} {x : Str} {ps : List Str} {sp : Sp} {e : Expr} {es : List Expr} {t : TA} {p pos : Pos} (D : Dfn X.prog X.w X.K X.mg X.base k x ps sp) (hr : Room k X.A) (hg : Gl X x) (ha : PA X (e :: es) t)
    (hdb : (x == ("__debug__" : Str)) = false := by decide) (he : starEach (e :: es) X.env = (false, eval e X.env) :: starEach es X.env := by rfl) (hpl : (backTo pos (starEach es X.env)).any (·.1) = false := by rfl) :
    PE X (.Call (.Name x p) (e :: es) [] pos) (tCall sp [] E0 t) := by
  obtain ⟨f, fd, F, hm, hk, hb⟩ := D
  exact pe_call F hr hg hm hk hb .nil pass0 ha hdb he hpl
theorem pe_mth {k : Nat} {C : Addr} {m : Str} {ps : List Str} {sp : Sp} {o e : Expr} {es : List Expr} {ta : TE} {t : TA} {apos pos : Pos} {pl : Sem Bool} (D : Mth X.prog X.w X.K X.mg X.base k C m ps sp) (hr : Room k X.A) (c : Cls X.K C) (he : PE X o ta) (ha : PA X (e :: es) t)
    (hst : starEach (e :: es) X.env = (false, eval e X.env) :: starEach es X.env := by rfl) (hpl : (backTo pos (starEach es X.env)).any (·.1) = false := by rfl)
    (ht : eval (.Call (.Attribute o m apos) (e :: es) [] pos) X.env = (do
      let ov ← eval o X.env
      standAt apos.atName
      let (f, first) ← holding [ov] (getMethod ov m pl)
      callWith pos f first (backTo pos (starEach (e :: es) X.env)) (backToKw pos (keywordEach [] X.env))) := by rfl) :
    PE X (.Call (.Attribute o m apos) (e :: es) [] pos) (tMeth C m sp [] E0 ta t) := by
  obtain ⟨f, fd, F, hm, hb⟩ := D
  exact pe_meth he c hm F hr hb .nil pass0 ha hst hpl ht
theorem pe_mth0 {k : Nat} {C : Addr} {m : Str} {ps : List Str} {sp : Sp} {o : Expr} {ta : TE} {apos pos : Pos} {pl : Sem Bool} (D : Mth X.prog X.w X.K X.mg X.base k C m ps sp) (hr : Room k X.A) (c : Cls X.K C) (he : PE X o ta)
    (ht : eval (.Call (.Attribute o m apos) [] [] pos) X.env = (do
      let ov ← eval o X.env
      standAt apos.atName
      let (f, first) ← holding [ov] (getMethod ov m pl)
      callWith pos f first (backTo pos (starEach [] X.env)) (backToKw pos (keywordEach [] X.env))) := by rfl) :
    PE X (.Call (.Attribute o m apos) [] [] pos) (tMeth C m sp [] E0 ta tNil) := by
  obtain ⟨f, fd, F, hm, hb⟩ := D
  exact pe_meth0 he c hm F hr hb .nil pass0 ht
end
/-! ### mathematics of one more -/
theorem pick_snoc {A : Type} (x : A) : ∀ (ys : List A) (q : Nat), pick (ys ++ [x]) q = pick ys q ++ (if q / 2 ^ ys.length % 2 = 1 then [x] else [])
  | [], q => by
    show (if q % 2 = 1 then [x] else []) ++ [] = [] ++ (if q / 2 ^ 0 % 2 = 1 then [x] else [])
    rw [Nat.pow_zero, Nat.div_one, List.append_nil, List.nil_append]
  | y :: ys, q => by
    have ih := pick_snoc x ys (q / 2)
    show (if q % 2 = 1 then [y] else []) ++ pick (ys ++ [x]) (q / 2) = ((if q % 2 = 1 then [y] else []) ++ pick ys (q / 2)) ++ _
    rw [ih, List.append_assoc, List.length_cons, Nat.pow_succ, Nat.mul_comm, ← Nat.div_div_eq_div_mul]
theorem cnt_snoc (ys : List Sail) (x : Sail) (w : Nat) : cnt (ys ++ [x]) w = cnt ys w + (if stands x w = true then 1 else 0) := by
  unfold cnt
  rw [List.filter_append, List.length_append, List.filter_cons]
  by_cases c : stands x w = true
  · rw [if_pos c, if_pos c]
    rfl
  · rw [if_neg c, if_neg c]
    rfl
theorem sail_at {s : Loft} {i : Nat} {x : Sail} (h : s.sails[i]? = some x) : s.sail i = x := by
  unfold Loft.sail
  rw [List.getD_eq_getElem?_getD, h]
  rfl
theorem SailAt.upd_lst {C : Addr} {H : Hp} {p a : Addr} {o : HO} {l : List V} {x : Sail} (hp : H p = some (.lst l)) (h : SailAt C H a x) : SailAt C (upd H p o) a x := by
  obtain ⟨dx, h⟩ := h
  exact ⟨dx, by rw [upd_ne (ne_of h hp (by intro z; cases z))]; exact h⟩
theorem AllAt.get {C : Addr} {H : Hp} {as : List Addr} {xs : List Sail} (h : AllAt C H as xs) {i : Nat} (hi : i < xs.length) : ∃ a x, as[i]? = some a ∧ xs[i]? = some x ∧ SailAt C H a x := by
  have hl := h.len
  have e := List.getElem?_eq_getElem (l := as) (i := i) (by omega)
  obtain ⟨x, h1, h2⟩ := h.at_ i _ e
  exact ⟨_, x, e, h1, h2⟩
section
variable {P : Program} {w : World} {K : PySem.W.Frag} {mg : Str → Option Value} {base : Heap} {CS CL : Addr}
theorem scOf : FnScope ["sails", "chosen", "taken", "rest", "sail"] ["sails", "chosen"] (defScope sOf) := ⟨rfl, rfl, rfl, by decide +kernel, rfl, by decide +kernel, by decide +kernel⟩
theorem ok_of {f : Addr} {fd : FuncData} (F : Fun K "sails_of_set" "sails_of_set" sOf f fd) : FnOk P w K mg base CX0 1 f fd ["sails", "chosen"] (spOf CS) := by
  refine F.ok scOf (fun vs H Q E h => ?_) (fun cdv A outer s H vs Q E hr h => ?_)
  · obtain ⟨l, as, xs, q, rfl, _⟩ := h
    rfl
  · obtain ⟨l, as, xs, q, rfl, hS, hn, k⟩ := h
    refine ⟨_, pss_cons (ps_set (i := 2) scOf.nd rfl (Or.inl rfl) (pe_lst pa_nil))
      (pss_cons (ps_set (i := 3) scOf.nd rfl (Or.inl rfl) (pv 1))
      (pss_cons (ps_for PassesOwn.never rfl (pi_list (pv 0)) (pg_name (i := 4) scOf.nd rfl (Or.inl rfl))
        (pss_cons (ps_if (pt_cmpR op_eq (pe_op op_mod (pv 3) pe_int) pe_int (nomark _))
            (pss_one (ps_expr (pe_bm PySem.F.plainAttrs_list PySem.F.slot_list_append PySem.F.type_list_append mt_append (pv 2) (pa_cons (pv 4) pa_nil)))) pss_nil)
          (pss_one (ps_set (i := 3) scOf.nd rfl (Or.inl rfl) (pe_op op_fdiv (pv 3) pe_int)))))
      (pss_one (ps_ret (pv 2))))), ?_⟩
    refine ⟨Nat.zero_le _, fun p np => ?_⟩
    have s1 : Same H (upd H p (.lst [])) := same_new np
    refine ⟨_, rfl, ?_⟩
    refine ⟨_, rfl, l, rfl, ⟨_, SqL.of (s1 _ _ hS.lst)⟩, for_list (K := K) (a := l) (xs := as.map V.ref) (fun i σ H' => ∃ (v : Option V) (bs : List Addr), σ = [some (.ref l), some (.int q), some (.ref p), some (.int (q / 2 ^ i : Nat)), v] ∧ Same H H' ∧ SailsAt CS H' p bs (pick (xs.take i) q))
      ⟨none, [], ?_, s1, upd_same, AllAt.nil⟩ (fun i σ H' _ ⟨_, _, _, s2, _⟩ => SqL.of (s2 _ _ hS.lst)) ?_ ?_⟩
    · show _ = [some (V.ref l), some (V.int q), some (V.ref p), some (V.int (q / 2 ^ 0 : Nat)), none]
      rw [Nat.pow_zero, Nat.div_one]
      rfl
    · rintro i y σ H' hi ⟨v, bs, rfl, s2, hB⟩
      obtain ⟨a, ha, rfl⟩ := map_at hi
      obtain ⟨x, hx, hA⟩ := hS.all.at_ i a ha
      have hA2 := hA.same s2
      have hil : (xs.take i).length = i := by
        have := (List.getElem?_eq_some_iff.mp hx).1
        rw [List.length_take]
        omega
      have hbl : (bs.map V.ref).length ≤ 9 := by
        rw [List.length_map, hB.all.len]
        have := pick_length_le (xs.take i) q
        rw [hil] at this
        have := (List.getElem?_eq_some_iff.mp hx).1
        omega
      have ediv : ((q / 2 ^ i : Nat) : Int) / 2 = ((q / 2 ^ (i + 1) : Nat) : Int) := by
        rw [Nat.pow_succ, ← Nat.div_div_eq_div_mul]
        rfl
      have epk : pick (xs.take (i + 1)) q = pick (xs.take i) q ++ (if q / 2 ^ i % 2 = 1 then [x] else []) := by
        rw [take_more hx, pick_snoc, hil]
      refine ⟨_, rfl, _, _, rfl, rfl, (by show (0 : Int) < 2; decide), rfl, _, rfl, ?_⟩
      by_cases c : q / 2 ^ i % 2 = 1
      · rw [if_pos c] at epk
        refine if_t (decide_eq_true (congrArg V.int ?_)) ?_
        · show ((q / 2 ^ i : Nat) : Int) % 2 = 1
          omega
        refine ⟨_, rfl, .inl ⟨rfl, _, SqL.of hB.lst⟩, _, rfl, p, _, _, rfl, rfl, hB.lst, small1000 (by omega), ?_⟩
        refine ⟨_, rfl, _, _, rfl, rfl, ⟨by decide, by decide⟩, some (.ref a), bs ++ [a], ?_, same_then s2 np, ?_, ?_⟩
        · show [some (V.ref l), some (V.int q), some (V.ref p), some (V.int (((q / 2 ^ i : Nat) : Int) / 2)), some (V.ref a)] = _
          rw [ediv]
        · rw [upd_same, List.map_append]
          rfl
        · rw [epk]
          exact (hB.all.keep fun _ _ z => z.upd_lst hB.lst).snoc (hA2.upd_lst hB.lst)
      · rw [if_neg c, List.append_nil] at epk
        refine if_f (decide_eq_false fun z => ?_) ?_
        · have z : ((q / 2 ^ i : Nat) : Int) % 2 = 1 := V.int.inj z
          omega
        refine ⟨_, rfl, _, _, rfl, rfl, ⟨by decide, by decide⟩, some (.ref a), bs, ?_, s2, ?_⟩
        · show [some (V.ref l), some (V.int q), some (V.ref p), some (V.int (((q / 2 ^ i : Nat) : Int) / 2)), some (V.ref a)] = _
          rw [ediv]
        · rw [epk]
          exact hB
    · rintro σ H' ⟨v, bs, rfl, s2, hB⟩
      refine ⟨_, rfl, ?_⟩
      rw [List.length_map, hS.all.len, List.take_length] at hB
      exact k H' p bs s2 np hB
theorem scTotal : FnScope ["sails", "sail"] ["sails"] (defScope sTotal) := ⟨rfl, rfl, rfl, by decide +kernel, rfl, by decide +kernel, by decide +kernel⟩
theorem ok_total {f : Addr} {fd : FuncData} (F : Fun K "total_cost" "total_cost" sTotal f fd) (T : Txt K mg CS CL) : FnOk P w K mg base CX0 1 f fd ["sails"] (spTotal CS) := by
  refine F.ok scTotal (fun vs H Q E h => ?_) (fun cdv A outer s H vs Q E hr h => ?_)
  · obtain ⟨l, as, xs, rfl, _⟩ := h
    rfl
  · obtain ⟨l, as, xs, rfl, hS, hn, k⟩ := h
    refine ⟨_, pss_one (ps_ret (pe_callB (cr_sum rfl) (by rfl) T.sum (by decide +kernel) (pa_cons (pe_lc (own := [("sail", 1)]) (g := gName 1) (tt := tYes) (te := tFld K (tVar 1) "cost") rfl scTotal.nd (pi_list (pv 0)) (blkOk_by (N := ["sails", "sail"]) (sc := defScope sTotal) (by decide +kernel))
      (fun _ _ _ _ _ => pg_name (i := 1) scTotal.nd rfl (Or.inl rfl)) (fun _ _ _ _ _ => pts_nil) (fun _ _ _ _ _ => by exact pe_fld (pv 1) rfl)) pa_nil))), ?_⟩
    have hl := hS.all.len
    refine ⟨_, rfl, l, rfl, ⟨_, SqL.of hS.lst⟩, fun D hD => lc_list (K := K) (a := l) (xs := as.map V.ref) (fun i H' => H' D = some (.lst (((xs.take i).map fun x => (x.cost : Int)).map V.int)) ∧ Same H H')
      ⟨upd_same, same_new hD⟩ (fun i H' _ ⟨_, s2⟩ => SqL.of (s2 _ _ hS.lst)) ?_ ?_⟩
    · rintro i y H' hi ⟨h1, s2⟩
      obtain ⟨a, ha, rfl⟩ := map_at hi
      obtain ⟨x, hx, hA⟩ := hS.all.at_ i a ha
      obtain ⟨dx, hA2⟩ := hA.same s2
      refine ⟨rfl, ?_⟩
      unfold tYes
      dsimp only
      rw [if_pos rfl]
      refine ⟨_, rfl, a, CS, dx, _, _, rfl, hA2, T.clS, T.nSc, sF_cost x, _, h1, small1000 ?_, ?_, same_then s2 hD⟩
      · rw [List.length_map, List.length_map, List.length_take]
        omega
      · rw [upd_same, take_more hx, List.map_append, List.map_append]
        rfl
    · rintro H' ⟨h1, s2⟩
      rw [List.length_map, hl, List.take_length] at h1
      refine ⟨D, _, rfl, SqL.of h1, ?_⟩
      rw [costs_sum]
      exact k H' s2
theorem scWorth : FnScope ["sails", "chosen", "taken"] ["sails", "chosen"] (defScope sWorth) := ⟨rfl, rfl, rfl, by decide +kernel, rfl, by decide +kernel, by decide +kernel⟩
theorem ok_worth {f : Addr} {fd : FuncData} (F : Fun K "worth_of_set" "worth_of_set" sWorth f fd) (T : Txt K mg CS CL) (DO : Dfn P w K mg base 1 "sails_of_set" ["sails", "chosen"] (spOf CS)) (DT : Dfn P w K mg base 1 "total_cost" ["sails"] (spTotal CS)) :
    FnOk P w K mg base CX0 2 f fd ["sails", "chosen"] (spWorth CS) := by
  refine F.ok scWorth (fun vs H Q E h => ?_) (fun cdv A outer s H vs Q E hr h => ?_)
  · obtain ⟨l, as, xs, q, rfl, _⟩ := h
    rfl
  · obtain ⟨l, as, xs, q, rfl, hS, hn, k⟩ := h
    refine ⟨_, pss_cons (ps_set (i := 2) scWorth.nd rfl (Or.inl rfl) (pe_dfn DO hr rfl (pa_cons (pv 0) (pa_cons (pv 1) pa_nil))))
      (pss_one (ps_ret (pe_tup (pa_cons (pe_dfn DT hr rfl (pa_cons (pv 2) pa_nil)) (pa_cons (pe_callB call_len_seq (by rfl) T.len PySem.boot_len (pa_cons (pv 2) pa_nil)) pa_nil))))), ?_⟩
    refine ⟨_, rfl, _, rfl, l, as, xs, q, rfl, hS, hn, fun H1 p bs s1 np hB => ?_⟩
    have hbl := pick_length_le xs q
    refine ⟨_, rfl, p, bs, _, rfl, hB, by omega, fun H2 s2 => ?_⟩
    refine ⟨_, rfl, p, _, rfl, .inl (SqL.of (s2 _ _ hB.lst)), (by show 2 ≤ sizeLine; decide), fun t nt => ?_⟩
    have s3 : Same H H2 := s1.trans s2
    refine k _ t (s3.trans (same_new nt)) (s3.free nt) ?_
    rw [upd_same, List.length_map, hB.all.len]
theorem scStanding : FnScope ["sails", "wind", "sail"] ["sails", "wind"] (defScope sStanding) := ⟨rfl, rfl, rfl, by decide +kernel, rfl, by decide +kernel, by decide +kernel⟩
theorem ok_standing {f : Addr} {fd : FuncData} (F : Fun K "count_standing" "count_standing" sStanding f fd) (T : Txt K mg CS CL) (MS : Mth P w K mg base 1 CS "stands_in" ["self", "wind"] (spStands CS)) :
    FnOk P w K mg base CX0 2 f fd ["sails", "wind"] (spStanding CS) := by
  refine F.ok scStanding (fun vs H Q E h => ?_) (fun cdv A outer s H vs Q E hr h => ?_)
  · obtain ⟨l, as, xs, q, rfl, _⟩ := h
    rfl
  · obtain ⟨l, as, xs, w, rfl, hS, hn, k⟩ := h
    refine ⟨_, pss_one (ps_ret (pe_callB call_len_seq (by rfl) T.len PySem.boot_len (pa_cons (pe_lc (own := [("sail", 2)]) (g := gName 2) rfl scStanding.nd (pi_list (pv 0)) (blkOk_by (N := ["sails", "wind", "sail"]) (sc := defScope sStanding) (by decide +kernel))
      (fun _ _ _ _ _ => pg_name (i := 2) scStanding.nd rfl (Or.inl rfl)) (fun _ _ _ _ _ => pts_one (pt_val (pe_mth MS hr T.clS (pv 2) (pa_cons (pv 1) pa_nil)))) (fun _ _ _ _ _ => pv 2)) pa_nil))), ?_⟩
    have hl := hS.all.len
    refine ⟨_, rfl, l, rfl, ⟨_, SqL.of hS.lst⟩, fun D hD => lc_list (K := K) (a := l) (xs := as.map V.ref) (fun i H' => ∃ bs : List V, H' D = some (.lst bs) ∧ bs.length = cnt (xs.take i) w ∧ bs.length ≤ i ∧ Same H H')
      ⟨[], upd_same, rfl, Nat.le_refl _, same_new hD⟩ (fun i H' _ ⟨_, _, _, _, s2⟩ => SqL.of (s2 _ _ hS.lst)) ?_ ?_⟩
    · rintro i y H' hi ⟨bs, h1, h2, h3, s2⟩
      obtain ⟨a, ha, rfl⟩ := map_at hi
      obtain ⟨x, hx, hA⟩ := hS.all.at_ i a ha
      have hA2 := hA.same s2
      obtain ⟨dx, hA3⟩ := hA2
      have hil := (List.getElem?_eq_some_iff.mp hx).1
      have ec := cnt_snoc (xs.take i) x w
      rw [← take_more hx] at ec
      refine ⟨rfl, _, rfl, a, dx, _, rfl, hA3, sF_no x (by decide +kernel) (by decide +kernel) (by decide +kernel), _, rfl, a, x, w, rfl, ⟨dx, hA3⟩, _, rfl, ?_⟩
      by_cases c : stands x w = true
      · rw [if_pos c] at ec
        refine if_t c ⟨_, rfl, bs, h1, small1000 (by omega), bs ++ [.ref a], upd_same, ?_, ?_, same_then s2 hD⟩
        · rw [List.length_append, ec, h2]
          rfl
        · rw [List.length_append, List.length_singleton]
          omega
      · rw [if_neg c] at ec
        exact if_f (by cases e : stands x w with | true => exact absurd e c | false => rfl) ⟨bs, h1, by rw [ec, h2]; rfl, by omega, s2⟩
    · rintro H' ⟨bs, h1, h2, h3, s2⟩
      rw [List.length_map, hl, List.take_length] at h2
      refine ⟨D, _, rfl, .inl (SqL.of h1), ?_⟩
      rw [h2]
      exact k H' s2
theorem scFar : FnScope ["sails", "wind", "farthest", "number"] ["sails", "wind"] (defScope sFar) := ⟨rfl, rfl, rfl, by decide +kernel, rfl, by decide +kernel, by decide +kernel⟩
theorem ok_far {f : Addr} {fd : FuncData} (F : Fun K "farthest_sail" "farthest_sail" sFar f fd) (T : Txt K mg CS CL) (MS : Mth P w K mg base 1 CS "stands_in" ["self", "wind"] (spStands CS)) :
    FnOk P w K mg base CX0 2 f fd ["sails", "wind"] (spFar CS) := by
  refine F.ok scFar (fun vs H Q E h => ?_) (fun cdv A outer s H vs Q E hr h => ?_)
  · obtain ⟨l, as, s, w, rfl, _⟩ := h
    rfl
  · obtain ⟨l, as, s, w, rfl, hS, hn, k⟩ := h
    refine ⟨_, pss_cons (ps_set (i := 2) scFar.nd rfl (Or.inl rfl) pe_non)
      (pss_cons (ps_for PassesOwn.never rfl (pi_range1 rfl T.range (pa_cons (pe_callB call_len_seq (by rfl) T.len PySem.boot_len (pa_cons (pv 0) pa_nil)) pa_nil)) (pg_name (i := 3) scFar.nd rfl (Or.inl rfl))
        (pss_one (ps_if (pt_val (pe_mth MS hr T.clS (pe_ix ix_list (pv 0) (pv 3) (fun _ _ => rfl)) (pa_cons (pv 1) pa_nil)))
          (pss_one (ps_if (PW.pt (pw_or (pt_cmpR op_isN (pv 2) pe_non (nomark _)) (pw_or1 (pt_cmpR op_gt (pe_fld (pe_ix ix_list (pv 0) (pv 3) (fun _ _ => rfl)) rfl) (pe_fld (pe_ix ix_list (pv 0) (pv 2) (fun _ _ => rfl)) rfl) (nomark _)))))
            (pss_one (ps_set (i := 2) scFar.nd rfl (Or.inl rfl) (pv 3))) pss_nil)) pss_nil)))
      (pss_one (ps_ret (pv 2)))), ?_⟩
    have hl : (as.map V.ref).length = s.sails.length := by rw [List.length_map, hS.all.len]
    refine ⟨_, rfl, l, _, rfl, .inl (SqL.of hS.lst), _, rfl, (by rw [hl]; omega), (by rw [hl]; omega), for_range (lo := 0) (n := ((as.map V.ref).length : Int).toNat) (fun i σ H' => ∃ v : Option V, σ = [some (.ref l), some (.int w), some (optV (far s w i)), v] ∧ H' = H)
      ⟨none, rfl, rfl⟩ ?_ ?_⟩
    · rintro i σ H' hi ⟨v, rfl, rfl⟩
      rw [hl] at hi
      have hi2 : i < s.sails.length := by omega
      obtain ⟨a, x, ha, hx, hA⟩ := hS.all.get hi2
      obtain ⟨dx, hA3⟩ := id hA
      have esa := sail_at hx
      have fs := far_succ s w i
      unfold fstep at fs
      rw [esa] at fs
      have e0 : (0 : Int) + (i : Int) = (i : Int) := by omega
      have hgi : atI (as.map V.ref) (0 + (i : Int)) = some (V.ref a) := at_of e0 (by rw [List.getElem?_map, ha]; rfl)
      refine ⟨_, rfl, _, rfl, l, _, _, _, rfl, rfl, SqL.of hS.lst, hgi, a, dx, _, rfl, hA3, sF_no x (by decide +kernel) (by decide +kernel) (by decide +kernel), _, rfl, a, x, w, rfl, hA, _, rfl, ?_⟩
      by_cases c : stands x w = true
      · rw [if_pos c] at fs
        refine if_t c ?_
        cases ef : far s w i with
        | none =>
          rw [ef] at fs
          refine ⟨_, rfl, rfl, _, rfl, if_t (decide_eq_true rfl) (if_t rfl ⟨_, rfl, some (.int (0 + (i : Int))), ?_, rfl⟩)⟩
          rw [fs, e0]
          rfl
        | some j =>
          rw [ef] at fs
          dsimp only at fs
          have hj := (far_good s w i j ef).1
          obtain ⟨b, y, hb, hy, hB⟩ := hS.all.get (i := j) (by omega)
          obtain ⟨dy, hB3⟩ := id hB
          rw [sail_at hy] at fs
          refine ⟨_, rfl, rfl, _, rfl, if_f (decide_eq_false (by intro z; cases z)) ?_⟩
          refine ⟨_, rfl, _, rfl, l, _, _, _, rfl, rfl, SqL.of hS.lst, hgi, a, CS, dx, _, _, rfl, hA3, T.clS, T.nSg, sF_greatest x, _, rfl, _, rfl, l, _, _, _, rfl, rfl, SqL.of hS.lst, atI_nat (by rw [List.getElem?_map, hb]; rfl), b, CS, dy, _, _, rfl, hB3, T.clS, T.nSg, sF_greatest y, _, _, rfl, rfl, _, rfl, ?_⟩
          by_cases d : y.hi < x.hi
          · rw [if_pos d] at fs
            refine if_t (decide_eq_true (by omega)) ⟨_, rfl, some (.int (0 + (i : Int))), ?_, rfl⟩
            rw [fs, e0]
            rfl
          · rw [if_neg d] at fs
            refine if_f (decide_eq_false (by omega)) ⟨some (.int (0 + (i : Int))), ?_, rfl⟩
            rw [fs]
            rfl
      · rw [if_neg c] at fs
        refine if_f (by cases e : stands x w with | true => exact absurd e c | false => rfl) ⟨some (.int (0 + (i : Int))), ?_, rfl⟩
        rw [fs]
        rfl
    · rintro σ H' ⟨v, rfl, rfl⟩
      refine ⟨_, rfl, ?_⟩
      rw [hl]
      exact k
end
end Sw
namespace Sw
open PySem PySem.Spec PyProof.Rows L2
open Uw29 (Sail Loft Best stands)
def Mak (P : Program) (w : World) (K : PySem.W.Frag) (mg : Str → Option Value) (base : Heap) (k : Nat) (C : Addr) (x : Str) (ps : List Str) (sp : Sp) : Prop :=
  ∃ (f : Addr) (fd : FuncData), Mk K C f ∧ FnOk P w K mg base CX0 k f fd ps sp ∧ mg x = some (.ref C) ∧ Binds K fd ps []
section
variable {X : Cx}
theorem pe_mak {k : Nat} {C : Addr} {x : Str} {ps : List Str} {sp : Sp} {e : Expr} {es : List Expr} {t : TA} {p pos : Pos} (D : Mak X.prog X.w X.K X.mg X.base k C x ps sp) (hr : Room (k + 1) X.A) (hg : Gl X x) (ha : PA X (e :: es) t)
    (hdb : (x == ("__debug__" : Str)) = false := by decide) (he : starEach (e :: es) X.env = (false, eval e X.env) :: starEach es X.env := by rfl) (hpl : (backTo pos (starEach es X.env)).any (·.1) = false := by rfl) :
    PE X (.Call (.Name x p) (e :: es) [] pos) (tMake C sp [] E0 t) := by
  obtain ⟨f, fd, M, F, hm, hb⟩ := D
  exact pe_make M F hr hg hm hb .nil pass0 ha hdb he hpl
theorem pe_mak0 {k : Nat} {C : Addr} {x : Str} {ps : List Str} {sp : Sp} {p pos : Pos} (D : Mak X.prog X.w X.K X.mg X.base k C x ps sp) (hr : Room (k + 1) X.A) (hg : Gl X x)
    (hdb : (x == ("__debug__" : Str)) = false := by decide) : PE X (.Call (.Name x p) [] [] pos) (tMake C sp [] E0 tNil) := by
  obtain ⟨f, fd, M, F, hm, hb⟩ := D
  exact pe_make0 M F hr hg hm hb .nil pass0 hdb
end
/-! ### what a call of the loft leaves behind -/
def Done (CL CS : Addr) (s : Loft) (c : Uw29.Call) (p l : Addr) (H : Hp) (Q : VK) : Prop :=
  ∀ (H' : Hp) (q l' : Addr), LoftAt CL CS H' p l' (Uw29.step s c).1 → (l' = l ∨ H l' = none) → H q = none → H' q = some (.lst ((ans s c).map V.int)) → (∀ b o, H b = some o → b ≠ p → b ≠ l → H' b = some o) → Q (.ref q) H'
theorem Done.same {CL CS : Addr} {s : Loft} {c : Uw29.Call} {p l : Addr} {H : Hp} {Q : VK} (d : Done CL CS s c p l H Q) (L : LoftAt CL CS H p l s) (e : (Uw29.step s c).1 = s) {H' : Hp} {q : Addr} (sm : Same H H') (nq : H q = none)
    (hq : H' q = some (.lst ((ans s c).map V.int))) : Q (.ref q) H' :=
  d H' q l (by rw [e]; exact L.same sm) (.inl rfl) nq hq fun b o h _ _ => sm b o h
def spLoftInit (CL CS : Addr) : Sp := fun vs H Q _ => ∃ (p dx : Addr), vs = [.ref p] ∧ H p = some (.ins CL dx []) ∧
  ∀ (H' : Hp) (l : Addr), LoftAt CL CS H' p l Uw29.init → H l = none → (∀ b o, H b = some o → b ≠ p → H' b = some o) → Q .non H'
def spBegins (CL CS : Addr) : Sp := fun vs H Q _ => ∃ (p l : Addr) (s : Loft) (a b : Nat), vs = [.ref p, .int a, .int b] ∧ LoftAt CL CS H p l s ∧ Good s ∧ Done CL CS s (.begins a b) p l H Q
def spSail (CL CS : Addr) : Sp := fun vs H Q _ => ∃ (p l : Addr) (s : Loft) (x : Sail), vs = [.ref p, .int x.lo, .int x.hi, .int x.cost] ∧ LoftAt CL CS H p l s ∧ Good s ∧ Done CL CS s (.sail x) p l H Q
section
variable {P : Program} {w : World} {K : PySem.W.Frag} {mg : Str → Option Value} {base : Heap} {CS CL : Addr}
theorem lF_new (s : Loft) (l : Addr) : putF "sails" (.ref l) (putF "greatest" (.int s.hi) (putF "least" (.int s.lo) [])) = lF s l := by
  have e1 : putF "greatest" (.int s.hi) (putF "least" (.int s.lo) []) = [(("least" : Str), V.int s.lo), ("greatest", .int s.hi)] := (put_past (by decide +kernel)).trans rfl
  rw [e1]
  exact (put_past (by decide +kernel)).trans (congrArg _ ((put_past (by decide +kernel)).trans rfl))
theorem lF_put (s : Loft) (l l' : Addr) (a b : Nat) : putF "sails" (.ref l') (putF "greatest" (.int b) (putF "least" (.int a) (lF s l))) = lF ⟨a, b, []⟩ l' := by
  have e1 : putF "least" (.int a) (lF s l) = lF ⟨a, s.hi, []⟩ l := put_here
  have e2 : putF "greatest" (.int b) (lF ⟨a, s.hi, []⟩ l) = lF ⟨a, b, []⟩ l := (put_past (by decide +kernel)).trans (congrArg _ put_here)
  have e3 : putF "sails" (.ref l') (lF ⟨a, b, []⟩ l) = lF ⟨a, b, []⟩ l' := (put_past (by decide +kernel)).trans (congrArg _ ((put_past (by decide +kernel)).trans (congrArg _ put_here)))
  rw [e1, e2, e3]
theorem scLoftInit : FnScope ["self"] ["self"] (defScope sLoftInit) := ⟨rfl, rfl, rfl, by decide +kernel, rfl, by decide +kernel, by decide +kernel⟩
theorem ok_loftInit {f : Addr} {fd : FuncData} (F : Fun K "__init__" "Loft.__init__" sLoftInit f fd) (T : Txt K mg CS CL) : FnOk P w K mg base CX0 1 f fd ["self"] (spLoftInit CL CS) := by
  refine F.ok scLoftInit (fun vs H Q E h => ?_) (fun cdv A outer s H vs Q E hr h => ?_)
  · obtain ⟨p, dx, rfl, _⟩ := h
    rfl
  · obtain ⟨p, dx, rfl, hp, k⟩ := h
    refine ⟨_, pss_cons (ps_fld (pv 0) pe_int rfl) (pss_cons (ps_fld (pv 0) pe_int rfl) (pss_one (ps_fld (pv 0) (pe_lst pa_nil) rfl))), ?_⟩
    refine ⟨_, rfl, p, CL, dx, [], rfl, hp, T.clL, T.nLl, (by show 0 < 1000; decide), ?_⟩
    refine ⟨_, rfl, p, CL, dx, _, rfl, upd_same, T.clL, T.nLg, (by show 1 < 1000; decide), ?_⟩
    refine ⟨Nat.zero_le _, fun l nl => ?_⟩
    have npl : p ≠ l := ne_of_none upd_same nl
    refine ⟨_, rfl, p, CL, dx, _, rfl, (by rw [upd_ne npl]; exact upd_same), T.clL, T.nLs, (by show 2 < 1000; decide), ?_⟩
    refine k _ l ⟨⟨dx, Eq.trans upd_same (congrArg (fun q => some (HO.ins CL dx q)) (lF_new Uw29.init l))⟩, ⟨[], ?_, AllAt.nil⟩⟩ ?_ fun b o e hb => ?_
    · rw [upd_ne npl.symm, upd_same]
      rfl
    · rw [upd_ne npl.symm, upd_ne npl.symm] at nl
      exact nl
    · have nbl : b ≠ l := ne_of_none (H := upd (upd H p _) p _) (o := o) (by rw [upd_ne hb, upd_ne hb]; exact e) nl
      rw [upd_ne hb, upd_ne nbl, upd_ne hb, upd_ne hb]
      exact e
theorem scBegins : FnScope ["self", "least", "greatest"] ["self", "least", "greatest"] (defScope sBegins) := ⟨rfl, rfl, rfl, by decide +kernel, rfl, by decide +kernel, by decide +kernel⟩
theorem ok_begins {f : Addr} {fd : FuncData} (F : Fun K "begins" "Loft.begins" sBegins f fd) (T : Txt K mg CS CL) (DA : Dfn P w K mg base 1 "are_winds" ["least", "greatest"] spAre) : FnOk P w K mg base CX0 2 f fd ["self", "least", "greatest"] (spBegins CL CS) := by
  refine F.ok scBegins (fun vs H Q E h => ?_) (fun cdv A outer s H vs Q E hr h => ?_)
  · obtain ⟨p, l, s, a, b, rfl, _⟩ := h
    rfl
  · obtain ⟨p, l, s, a, b, rfl, L, g, k⟩ := h
    refine ⟨_, pss_cons (ps_if (pt_not (pt_val (pe_dfn DA hr rfl (pa_cons (pv 1) (pa_cons (pv 2) pa_nil))))) (pss_one (ps_ret (pe_lst (pa_cons (pe_num rfl T.cOut) pa_nil)))) pss_nil)
      (pss_cons (ps_fld (pv 0) (pv 1) rfl) (pss_cons (ps_fld (pv 0) (pv 2) rfl) (pss_cons (ps_fld (pv 0) (pe_lst pa_nil) rfl) (pss_one (ps_ret (pe_lst (pa_cons pe_int pa_nil))))))), ?_⟩
    obtain ⟨⟨dx, hp⟩, ⟨as, hS⟩⟩ := id L
    refine ⟨_, rfl, _, rfl, a, b, rfl, _, rfl, ?_⟩
    have es : Uw29.step s (.begins a b) = if Uw29.WIND < b ∨ b < a then (s, Uw29.ok (-1)) else (⟨a, b, []⟩, Uw29.ok 0) := rfl
    unfold Uw29.WIND at es
    by_cases c : 40 < b ∨ b < a
    · rw [if_pos c] at es
      refine if_t ?_ ⟨by show 1 ≤ sizeLine; decide, fun q nq => ?_⟩
      · have : (decide (a ≤ b) && decide (b ≤ 40)) = false := by
          rw [Bool.and_eq_false_iff, decide_eq_false_iff_not, decide_eq_false_iff_not]
          omega
        rw [this]
        rfl
      · refine k.same L (by rw [es]) (same_new nq) nq ?_
        unfold ans
        rw [es, upd_same]
        rfl
    · rw [if_neg c] at es
      refine if_f ?_ ?_
      · have : (decide (a ≤ b) && decide (b ≤ 40)) = true := by
          rw [Bool.and_eq_true, decide_eq_true_eq, decide_eq_true_eq]
          omega
        rw [this]
        rfl
      refine ⟨_, rfl, _, rfl, p, CL, dx, _, rfl, hp, T.clL, T.nLl, (by show 3 < 1000; decide), ?_⟩
      refine ⟨_, rfl, _, rfl, p, CL, dx, _, rfl, upd_same, T.clL, T.nLg, (by rw [show putF "least" (V.int a) (lF s l) = lF ⟨a, s.hi, []⟩ l from put_here]; show 3 < 1000; decide), ?_⟩
      refine ⟨Nat.zero_le _, fun l' nl => ?_⟩
      have npl : p ≠ l' := ne_of_none upd_same nl
      have nl0 : H l' = none := by
        rw [upd_ne npl.symm, upd_ne npl.symm] at nl
        exact nl
      refine ⟨_, rfl, p, CL, dx, _, rfl, (by rw [upd_ne npl]; exact upd_same), T.clL, T.nLs, ?_, ?_⟩
      · rw [show putF "least" (V.int a) (lF s l) = lF ⟨a, s.hi, []⟩ l from put_here, show putF "greatest" (V.int b) (lF ⟨a, s.hi, []⟩ l) = lF ⟨a, b, []⟩ l from (put_past (by decide +kernel)).trans (congrArg _ put_here)]
        show 3 < 1000
        decide
      refine ⟨by show 1 ≤ sizeLine; decide, fun q nq => ?_⟩
      have nqp : p ≠ q := ne_of_none upd_same nq
      have nqp' : q ≠ p := nqp.symm
      rw [upd_ne nqp'] at nq
      have nql : l' ≠ q := ne_of_none upd_same nq
      have nql' : q ≠ l' := nql.symm
      rw [upd_ne nql', upd_ne nqp', upd_ne nqp'] at nq
      refine k _ q l' ?_ (.inr nl0) nq ?_ fun b' o e hb _ => ?_
      · rw [es]
        refine ⟨⟨dx, ?_⟩, ⟨[], ?_, AllAt.nil⟩⟩
        · rw [upd_ne nqp, upd_same, lF_put]
        · rw [upd_ne nql, upd_ne npl.symm, upd_same]
          rfl
      · unfold ans
        rw [es, upd_same]
        rfl
      · rw [upd_ne (ne_of_none e nq), upd_ne hb, upd_ne (ne_of_none e nl0), upd_ne hb, upd_ne hb]
        exact e
theorem scSail : FnScope ["self", "least", "greatest", "cost"] ["self", "least", "greatest", "cost"] (defScope sSail) := ⟨rfl, rfl, rfl, by decide +kernel, rfl, by decide +kernel, by decide +kernel⟩
theorem ok_sail {f : Addr} {fd : FuncData} (F : Fun K "sail" "Loft.sail" sSail f fd) (T : Txt K mg CS CL) (DA : Dfn P w K mg base 1 "are_winds" ["least", "greatest"] spAre)
    (MI : Mak P w K mg base 1 CS "Sail" ["self", "least", "greatest", "cost"] (spSailInit CS)) : FnOk P w K mg base CX0 3 f fd ["self", "least", "greatest", "cost"] (spSail CL CS) := by
  refine F.ok scSail (fun vs H Q E h => ?_) (fun cdv A outer s H vs Q E hr h => ?_)
  · obtain ⟨p, l, s, x, rfl, _⟩ := h
    rfl
  · obtain ⟨p, l, s, x, rfl, L, g, k⟩ := h
    have hr1 : Room 1 _ := hr.mono (by decide)
    refine ⟨_, pss_cons (ps_if (PW.pt (pw_or (pt_not (pt_val (pe_dfn DA hr1 rfl (pa_cons (pv 1) (pa_cons (pv 2) pa_nil))))) (pw_or1 (pt_cmpR op_gt (pv 3) (pe_num rfl T.cCost) (nomark _))))) (pss_one (ps_ret (pe_lst (pa_cons (pe_num rfl T.cOut) pa_nil)))) pss_nil)
      (pss_cons (ps_if (pt_cmpR op_eq (pe_callB call_len_seq (by rfl) T.len PySem.boot_len (pa_cons (pe_fld (pv 0) rfl) pa_nil)) (pe_num rfl T.cMost) (nomark _)) (pss_one (ps_ret (pe_lst (pa_cons (pe_num rfl T.cFull) pa_nil)))) pss_nil)
      (pss_cons (ps_expr (pe_bm PySem.F.plainAttrs_list PySem.F.slot_list_append PySem.F.type_list_append mt_append (pe_fld (pv 0) rfl) (pa_cons (pe_mak MI hr rfl (pa_cons (pv 1) (pa_cons (pv 2) (pa_cons (pv 3) pa_nil)))) pa_nil)))
      (pss_one (ps_ret (pe_lst (pa_cons (pe_op op_sub (pe_callB call_len_seq (by rfl) T.len PySem.boot_len (pa_cons (pe_fld (pv 0) rfl) pa_nil)) pe_int) pa_nil)))))), ?_⟩
    obtain ⟨⟨dx, hp⟩, ⟨as, hS⟩⟩ := id L
    have hl : (as.map V.ref).length = s.sails.length := by rw [List.length_map, hS.all.len]
    have es : Uw29.step s (.sail x) = if Uw29.WIND < x.hi ∨ x.hi < x.lo ∨ Uw29.PRICE < x.cost then (s, Uw29.ok (-1)) else if Uw29.SAILS ≤ s.sails.length then (s, Uw29.ok (-5)) else ({ s with sails := s.sails ++ [x] }, Uw29.ok (s.sails.length : Nat)) := rfl
    unfold Uw29.WIND Uw29.PRICE Uw29.SAILS at es
    -- the refusals told first
    have first : (40 < x.hi ∨ x.hi < x.lo ∨ 1000 < x.cost) → ∀ q, H q = none → Q (.ref q) (upd H q (.lst [.int (-1)])) := by
      intro c q nq
      rw [if_pos c] at es
      refine k.same L (by rw [es]) (same_new nq) nq ?_
      unfold ans
      rw [es, upd_same]
      rfl
    refine ⟨_, rfl, _, rfl, x.lo, x.hi, rfl, _, rfl, ?_⟩
    by_cases c : 40 < x.hi ∨ x.hi < x.lo
    · have e0 : (decide (x.lo ≤ x.hi) && decide (x.hi ≤ 40)) = false := by
        rw [Bool.and_eq_false_iff, decide_eq_false_iff_not, decide_eq_false_iff_not]
        omega
      rw [e0]
      refine if_t rfl (if_t rfl ⟨by show 1 ≤ sizeLine; decide, fun q nq => first (by omega) q nq⟩)
    · have e0 : (decide (x.lo ≤ x.hi) && decide (x.hi ≤ 40)) = true := by
        rw [Bool.and_eq_true, decide_eq_true_eq, decide_eq_true_eq]
        omega
      rw [e0]
      refine if_f rfl ⟨_, rfl, _, _, rfl, rfl, _, rfl, ?_⟩
      by_cases c2 : 1000 < x.cost
      · exact if_t (decide_eq_true (by omega)) ⟨by show 1 ≤ sizeLine; decide, fun q nq => first (by omega) q nq⟩
      · refine if_f (decide_eq_false (by omega)) ?_
        rw [if_neg (by omega : ¬ (40 < x.hi ∨ x.hi < x.lo ∨ 1000 < x.cost))] at es
        refine ⟨_, rfl, p, CL, dx, _, _, rfl, hp, T.clL, T.nLs, lF_sails s l, l, _, rfl, .inl (SqL.of hS.lst), rfl, _, rfl, ?_⟩
        have gf := g.few
        by_cases c3 : 9 ≤ s.sails.length
        · rw [if_pos c3] at es
          refine if_t (decide_eq_true (congrArg V.int (by rw [hl]; omega))) ⟨by show 1 ≤ sizeLine; decide, fun q nq => ?_⟩
          refine k.same L (by rw [es]) (same_new nq) nq ?_
          unfold ans
          rw [es, upd_same]
          rfl
        · rw [if_neg c3] at es
          refine if_f (decide_eq_false fun z => ?_) ?_
          · have z := V.int.inj z
            rw [hl] at z
            omega
          refine ⟨_, rfl, p, CL, dx, _, _, rfl, hp, T.clL, T.nLs, lF_sails s l, .inl ⟨rfl, _, SqL.of hS.lst⟩, _, rfl, _, rfl, _, rfl, fun y dy ny ndy ney => ?_⟩
          refine ⟨y, dy, x, rfl, upd_same, fun H1 hY kp => ⟨rfl, ?_⟩⟩
          have s1 : Same H H1 := Same.made ny ndy kp
          have hl1 := s1 _ _ hS.lst
          refine ⟨l, _, _, rfl, rfl, hl1, small1000 (by rw [hl]; omega), ?_⟩
          have npl : p ≠ l := ne_of hp hS.lst (by intro z; cases z)
          have hp1 : upd H1 l (.lst (as.map V.ref ++ [V.ref y])) p = some (.ins CL dx (lF s l)) := by rw [upd_ne npl]; exact s1 _ _ hp
          refine ⟨_, rfl, p, CL, dx, _, _, rfl, hp1, T.clL, T.nLs, lF_sails s l, l, _, rfl, .inl (SqL.of upd_same), _, _, rfl, rfl, (by show 1 ≤ sizeLine; decide), fun q nq => ?_⟩
          have nql : l ≠ q := ne_of_none upd_same nq
          have nq1 : H1 q = none := by rw [upd_ne nql.symm] at nq; exact nq
          refine k _ q l ?_ (.inl rfl) (s1.free nq1) ?_ fun b o e hb hb2 => ?_
          · rw [es]
            refine ⟨⟨dx, ?_⟩, ⟨as ++ [y], ?_, ?_⟩⟩
            · rw [upd_ne (ne_of_none hp1 nq)]
              exact hp1
            · rw [upd_ne nql, upd_same, List.map_append]
              rfl
            · have A1 : AllAt CS H1 (as ++ [y]) (s.sails ++ [x]) := (hS.all.same s1).snoc hY
              exact (A1.keep fun _ _ z => z.upd_lst hl1).same (same_new nq)
          · unfold ans
            rw [es, upd_same, List.length_append, hl]
            show some (HO.lst [V.int (((s.sails.length + 1 : Nat) : Int) - 1)]) = some (HO.lst [V.int (s.sails.length : Nat)])
            rw [show ((s.sails.length + 1 : Nat) : Int) - 1 = (s.sails.length : Nat) by omega]
          · rw [upd_ne (ne_of_none e (s1.free nq1)), upd_ne hb2]
            exact s1 _ _ e
end
end Sw
namespace Sw
open PySem PySem.Spec PyProof.Rows L2
open Uw29 (Sail Loft Best stands)
def spShort (CL CS : Addr) : Sp := fun vs H Q _ => ∃ (p l m : Addr) (s : Loft) (k : Nat) (bs : List Addr) (xs : List Sail), vs = [.ref p, .int k, .ref m] ∧ LoftAt CL CS H p l s ∧ Good s ∧ SailsAt CS H m bs xs ∧ xs.length ≤ 9 ∧
  ∀ H' : Hp, Same H H' → Q (optV (gapOf s k xs)) H'
theorem small62n {n : Nat} (h : n ≤ 2 ^ 9) : -(2 ^ 62) ≤ (n : Int) ∧ (n : Int) < 2 ^ 62 := by omega
def nV (n : Nat) : V := .int n
def spSets (CL CS : Addr) : Sp := fun vs H Q _ => ∃ (p l : Addr) (s : Loft) (k : Nat), vs = [.ref p, .int k] ∧ LoftAt CL CS H p l s ∧ Good s ∧
  ∀ (H' : Hp) (q : Addr), Same H H' → H q = none → H' q = some (.lst ((enoughs s k).map nV)) → Q (.ref q) H'
def spCheck (CL CS : Addr) : Sp := fun vs H Q _ => ∃ (p l : Addr) (s : Loft) (k q : Nat), vs = [.ref p, .int k, .int q] ∧ LoftAt CL CS H p l s ∧ Good s ∧ Done CL CS s (.check k q) p l H Q
def spBest (CL CS : Addr) : Sp := fun vs H Q _ => ∃ (p l : Addr) (s : Loft) (k : Nat), vs = [.ref p, .int k] ∧ LoftAt CL CS H p l s ∧ Good s ∧ Done CL CS s (.best k) p l H Q
def spFewest (CL CS : Addr) : Sp := fun vs H Q _ => ∃ (p l : Addr) (s : Loft), vs = [.ref p] ∧ LoftAt CL CS H p l s ∧ Good s ∧ Done CL CS s .fewest p l H Q
section
variable {P : Program} {w : World} {K : PySem.W.Frag} {mg : Str → Option Value} {base : Heap} {CS CL : Addr}
theorem scShort : FnScope ["self", "k", "sails", "wind"] ["self", "k", "sails"] (defScope sShort) := ⟨rfl, rfl, rfl, by decide +kernel, rfl, by decide +kernel, by decide +kernel⟩
theorem ok_short {f : Addr} {fd : FuncData} (F : Fun K "least_short_wind" "Loft.least_short_wind" sShort f fd) (T : Txt K mg CS CL) (DS : Dfn P w K mg base 2 "count_standing" ["sails", "wind"] (spStanding CS)) :
    FnOk P w K mg base CX0 3 f fd ["self", "k", "sails"] (spShort CL CS) := by
  refine F.ok scShort (fun vs H Q E h => ?_) (fun cdv A outer s H vs Q E hr h => ?_)
  · obtain ⟨p, l, m, s, k, bs, xs, rfl, _⟩ := h
    rfl
  · obtain ⟨p, l, m, s, k, bs, xs, rfl, L, g, hS, hn, ok⟩ := h
    refine ⟨_, pss_cons (ps_for PassesOwn.never rfl (pi_range2 rfl T.range (pa_cons (pe_fld (pv 0) rfl) (pa_cons (pe_op op_add (pe_fld (pv 0) rfl) pe_int) pa_nil))) (pg_name (i := 3) scShort.nd rfl (Or.inl rfl))
        (pss_one (ps_if (pt_cmpR op_lt (pe_dfn DS hr rfl (pa_cons (pv 2) (pa_cons (pv 3) pa_nil))) (pv 1) (nomark _)) (pss_one (ps_ret (pv 3))) pss_nil)))
      (pss_one (ps_ret pe_non)), ?_⟩
    obtain ⟨⟨dx, hp⟩, _⟩ := id L
    have gl := g.lohi
    have gh := g.hi
    refine ⟨_, rfl, p, CL, dx, _, _, rfl, hp, T.clL, T.nLl, lF_least s l, _, rfl, p, CL, dx, _, _, rfl, hp, T.clL, T.nLg, lF_greatest s l, _, _, rfl, rfl, _, _, rfl, ⟨by omega, by omega, by omega, by omega⟩,
      for_range (lo := (s.lo : Int)) (n := ((s.hi : Int) + 1 - (s.lo : Int)).toNat) (fun i σ H' => ∃ v : Option V, σ = [some (.ref p), some (.int k), some (.ref m), v] ∧ Same H H' ∧ ∀ j, j < i → ¬ cnt xs (s.lo + j) < k)
      ⟨none, rfl, Same.refl H, fun j hj => absurd hj (Nat.not_lt_zero _)⟩ ?_ ?_⟩
    · rintro i σ H' hi ⟨v, rfl, s1, hb⟩
      refine ⟨_, rfl, _, rfl, m, bs, xs, s.lo + i, rfl, hS.same s1, hn, fun H2 s2 => ⟨_, rfl, _, _, rfl, rfl, _, rfl, ?_⟩⟩
      by_cases c : cnt xs (s.lo + i) < k
      · refine if_t (decide_eq_true (by omega)) ⟨_, rfl, ?_⟩
        have e := gap_some (s := s) (k := k) (xs := xs) (i := i) (by omega) hb c
        have r := ok H2 (s1.trans s2)
        rw [e] at r
        exact r
      · refine if_f (decide_eq_false (by omega)) ⟨some (.int ((s.lo : Int) + (i : Int))), rfl, s1.trans s2, fun j hj => ?_⟩
        by_cases e : j = i
        · rw [e]
          exact c
        · exact hb j (by omega)
    · rintro σ H' ⟨v, rfl, s1, hb⟩
      have e := gap_none (s := s) (k := k) (xs := xs) fun j hj => hb j (by omega)
      have r := ok H' s1
      rw [e] at r
      exact r
theorem scSets : FnScope ["self", "k", "enough", "chosen"] ["self", "k"] (defScope sSets) := ⟨rfl, rfl, rfl, by decide +kernel, rfl, by decide +kernel, by decide +kernel⟩
theorem enough_pick (s : Loft) (k q : Nat) : s.enough k q = (gapOf s k (pick s.sails q)).isNone := by
  unfold Loft.enough
  rw [gap_pick]
theorem optV_none (o : Option Nat) : decide (optV o = .non) = o.isNone := by
  cases o with
  | none => rfl
  | some n => exact decide_eq_false (by intro z; cases z)
theorem ok_sets {f : Addr} {fd : FuncData} (F : Fun K "sets_enough" "Loft.sets_enough" sSets f fd) (T : Txt K mg CS CL) (DC : Dfn P w K mg base 1 "count_sets" ["sails"] (spCount CS)) (DO : Dfn P w K mg base 1 "sails_of_set" ["sails", "chosen"] (spOf CS))
    (MS : Mth P w K mg base 3 CL "least_short_wind" ["self", "k", "sails"] (spShort CL CS)) : FnOk P w K mg base CX0 4 f fd ["self", "k"] (spSets CL CS) := by
  refine F.ok scSets (fun vs H Q E h => ?_) (fun cdv A outer s H vs Q E hr h => ?_)
  · obtain ⟨p, l, s, k, rfl, _⟩ := h
    rfl
  · obtain ⟨p, l, s, k, rfl, L, g, ok⟩ := h
    have hr1 : Room 1 _ := hr.mono (by decide)
    refine ⟨_, pss_cons (ps_set (i := 2) scSets.nd rfl (Or.inl rfl) (pe_lst pa_nil))
      (pss_cons (ps_for PassesOwn.never rfl (pi_range1 rfl T.range (pa_cons (pe_dfn DC hr1 rfl (pa_cons (pe_fld (pv 0) rfl) pa_nil)) pa_nil)) (pg_name (i := 3) scSets.nd rfl (Or.inl rfl))
        (pss_one (ps_if (pt_cmpR op_isN (pe_mth MS hr T.clL (pv 0) (pa_cons (pv 1) (pa_cons (pe_dfn DO hr1 rfl (pa_cons (pe_fld (pv 0) rfl) (pa_cons (pv 3) pa_nil))) pa_nil))) pe_non (nomark _))
          (pss_one (ps_expr (pe_bm PySem.F.plainAttrs_list PySem.F.slot_list_append PySem.F.type_list_append mt_append (pv 2) (pa_cons (pv 3) pa_nil)))) pss_nil)))
      (pss_one (ps_ret (pv 2)))), ?_⟩
    refine ⟨Nat.zero_le _, fun t nt => ?_⟩
    have s0 : Same H (upd H t (.lst [])) := same_new nt
    obtain ⟨⟨dx, hp⟩, ⟨as, hS⟩⟩ := id L
    have gf := g.few
    have hpow : 2 ^ s.sails.length ≤ 2 ^ 9 := Nat.pow_le_pow_right (by decide) gf
    have hz : -(2 ^ 62) ≤ ((2 ^ s.sails.length : Nat) : Int) ∧ ((2 ^ s.sails.length : Nat) : Int) < 2 ^ 62 := small62n hpow
    refine ⟨_, rfl, p, CL, dx, _, _, rfl, s0 _ _ hp, T.clL, T.nLs, lF_sails s l, l, as, s.sails, rfl, hS.same s0, gf, _, rfl, hz.1, hz.2, ?_⟩
    refine for_range (lo := 0) (n := ((2 ^ s.sails.length : Nat) : Int).toNat) (fun i σ H' => ∃ v : Option V, σ = [some (.ref p), some (.int k), some (.ref t), v] ∧ Same H H' ∧ H' t = some (.lst (((List.range i).filter (s.enough k)).map nV)))
      ⟨none, rfl, s0, upd_same⟩ ?_ ?_
    · rintro i σ H' hi ⟨v, rfl, s1, ht⟩
      have hi2 : i < 2 ^ s.sails.length := by omega
      have e0 : (0 : Int) + (i : Int) = (i : Int) := by omega
      have hlen : (((List.range i).filter (s.enough k)).map nV).length ≤ 1000 := by
        rw [List.length_map]
        have := List.length_filter_le (s.enough k) (List.range i)
        rw [List.length_range] at this
        omega
      have er := List.filter_append (p := s.enough k) (List.range i) [i]
      rw [← List.range_succ] at er
      refine ⟨_, rfl, p, dx, _, rfl, s1 _ _ hp, lF_no s l (by decide +kernel) (by decide +kernel) (by decide +kernel), _, rfl, _, rfl, p, CL, dx, _, _, rfl, s1 _ _ hp, T.clL, T.nLs, lF_sails s l, _, rfl, l, as, s.sails, i, (by rw [e0]; rfl), hS.same s1, gf, fun H2 m bs s2 nm hB => ?_⟩
      have s12 := s1.trans s2
      have hpl := pick_length_le s.sails i
      refine ⟨p, l, m, s, k, bs, _, rfl, L.same s12, g, hB, by omega, fun H3 s3 => ⟨rfl, _, rfl, ?_⟩⟩
      have s13 := s12.trans s3
      have ht3 := s3 _ _ (s2 _ _ ht)
      rw [optV_none, ← enough_pick]
      by_cases c : s.enough k i = true
      · refine if_t c ⟨_, rfl, .inl ⟨rfl, _, SqL.of ht3⟩, _, rfl, t, _, _, rfl, rfl, ht3, small1000 hlen, some (.int (0 + (i : Int))), rfl, same_then s13 nt, ?_⟩
        rw [upd_same, er, List.filter_cons, if_pos c, List.filter_nil, List.map_append, e0]
        rfl
      · refine if_f (by cases e : s.enough k i with | true => exact absurd e c | false => rfl) ⟨some (.int (0 + (i : Int))), rfl, s13, ?_⟩
        rw [er, List.filter_cons, if_neg c, List.filter_nil, List.append_nil]
        exact ht3
    · rintro σ H' ⟨v, rfl, s1, ht⟩
      refine ⟨_, rfl, ?_⟩
      exact ok H' t s1 nt ht
theorem scCheck : FnScope ["self", "k", "chosen", "taken", "wind"] ["self", "k", "chosen"] (defScope sCheck) := ⟨rfl, rfl, rfl, by decide +kernel, rfl, by decide +kernel, by decide +kernel⟩
theorem ok_check {f : Addr} {fd : FuncData} (F : Fun K "check" "Loft.check" sCheck f fd) (T : Txt K mg CS CL) (DC : Dfn P w K mg base 1 "count_sets" ["sails"] (spCount CS)) (DO : Dfn P w K mg base 1 "sails_of_set" ["sails", "chosen"] (spOf CS))
    (DT : Dfn P w K mg base 1 "total_cost" ["sails"] (spTotal CS)) (DS : Dfn P w K mg base 2 "count_standing" ["sails", "wind"] (spStanding CS))
    (MS : Mth P w K mg base 3 CL "least_short_wind" ["self", "k", "sails"] (spShort CL CS)) : FnOk P w K mg base CX0 4 f fd ["self", "k", "chosen"] (spCheck CL CS) := by
  refine F.ok scCheck (fun vs H Q E h => ?_) (fun cdv A outer s H vs Q E hr h => ?_)
  · obtain ⟨p, l, s, k, q, rfl, _⟩ := h
    rfl
  · obtain ⟨p, l, s, k, q, rfl, L, g, ok⟩ := h
    have hr1 : Room 1 _ := hr.mono (by decide)
    have hr2 : Room 2 _ := hr.mono (by decide)
    refine ⟨_, pss_cons (ps_if (PW.pt (pw_or (pt_cmpR op_gt (pv 1) (pe_num rfl T.cK) (nomark _)) (pw_or1 (pt_cmpR op_ge (pv 2) (pe_dfn DC hr1 rfl (pa_cons (pe_fld (pv 0) rfl) pa_nil)) (nomark _))))) (pss_one (ps_ret (pe_lst (pa_cons (pe_num rfl T.cOut) pa_nil)))) pss_nil)
      (pss_cons (ps_set (i := 3) scCheck.nd rfl (Or.inl rfl) (pe_dfn DO hr1 rfl (pa_cons (pe_fld (pv 0) rfl) (pa_cons (pv 2) pa_nil))))
      (pss_cons (ps_set (i := 4) scCheck.nd rfl (Or.inl rfl) (pe_mth MS hr T.clL (pv 0) (pa_cons (pv 1) (pa_cons (pv 3) pa_nil))))
      (pss_cons (ps_if (pt_cmpR op_isN (pv 4) pe_non (nomark _)) (pss_one (ps_ret (pe_lst (pa_cons (pe_dfn DT hr1 rfl (pa_cons (pv 3) pa_nil)) (pa_cons (pe_callB call_len_seq (by rfl) T.len PySem.boot_len (pa_cons (pv 3) pa_nil)) pa_nil))))) pss_nil)
      (pss_one (ps_ret (pe_lst (pa_cons (pe_num rfl T.cNot) (pa_cons (pv 4) (pa_cons (pe_dfn DS hr2 rfl (pa_cons (pv 3) (pa_cons (pv 4) pa_nil))) pa_nil))))))))), ?_⟩
    obtain ⟨⟨dx, hp⟩, ⟨as, hS⟩⟩ := id L
    have gf := g.few
    have es : Uw29.step s (.check k q) = if 3 < k ∨ 2 ^ s.sails.length ≤ q then (s, Uw29.ok (-1)) else (s, match s.gap k q with
      | some w => ⟨-6, [w, s.many q w]⟩
      | none => ⟨(s.cost q : Nat), [(s.members q).length]⟩) := rfl
    have first : (3 < k ∨ 2 ^ s.sails.length ≤ q) → ∀ t, H t = none → Q (.ref t) (upd H t (.lst [.int (-1)])) := by
      intro c t nt
      rw [if_pos c] at es
      refine ok.same L (by rw [es]) (same_new nt) nt ?_
      unfold ans
      rw [es, upd_same]
      rfl
    refine ⟨_, rfl, _, _, rfl, rfl, _, rfl, ?_⟩
    by_cases c : 3 < k
    · exact if_t (decide_eq_true (by omega)) (if_t rfl ⟨by show 1 ≤ sizeLine; decide, fun t nt => first (.inl c) t nt⟩)
    · refine if_f (decide_eq_false (by omega)) ?_
      refine ⟨_, rfl, _, rfl, p, CL, dx, _, _, rfl, hp, T.clL, T.nLs, lF_sails s l, l, as, s.sails, rfl, hS, gf, _, _, rfl, rfl, _, rfl, ?_⟩
      by_cases c2 : 2 ^ s.sails.length ≤ q
      · exact if_t (decide_eq_true (Int.ofNat_le.mpr c2)) ⟨by show 1 ≤ sizeLine; decide, fun t nt => first (.inr c2) t nt⟩
      · refine if_f (decide_eq_false fun z => c2 (Int.ofNat_le.mp z)) ?_
        rw [if_neg (fun z => z.elim c c2)] at es
        refine ⟨_, rfl, p, CL, dx, _, _, rfl, hp, T.clL, T.nLs, lF_sails s l, _, rfl, l, as, s.sails, q, rfl, hS, gf, fun H1 m bs s1 nm hB => ?_⟩
        have hpl := pick_length_le s.sails q
        refine ⟨_, rfl, p, dx, _, rfl, s1 _ _ hp, lF_no s l (by decide +kernel) (by decide +kernel) (by decide +kernel), _, rfl, _, rfl, p, l, m, s, k, bs, _, rfl, L.same s1, g, hB, by omega, fun H2 s2 => ?_⟩
        have s12 := s1.trans s2
        have hB2 := hB.same s2
        rw [gap_pick] at es
        refine ⟨_, rfl, rfl, _, rfl, ?_⟩
        cases e : gapOf s k (pick s.sails q) with
        | none =>
          rw [e] at es
          refine if_t (decide_eq_true rfl) ⟨_, rfl, m, bs, _, rfl, hB2, by omega, fun H3 s3 => ?_⟩
          have hB3 := hB2.same s3
          refine ⟨_, rfl, m, _, rfl, .inl (SqL.of hB3.lst), (by show 2 ≤ sizeLine; decide), fun t nt => ?_⟩
          have s13 := s12.trans s3
          refine ok.same L (by rw [es]) (s13.trans (same_new nt)) (s13.free nt) ?_
          unfold ans
          rw [es, upd_same, List.length_map, hB.all.len, cost_pick, members_len]
          rfl
        | some w =>
          rw [e] at es
          refine if_f (decide_eq_false (by intro z; cases z)) ⟨_, rfl, _, rfl, _, rfl, m, bs, _, w, rfl, hB2, by omega, fun H3 s3 => ⟨by show 3 ≤ sizeLine; decide, fun t nt => ?_⟩⟩
          have s13 := s12.trans s3
          refine ok.same L (by rw [es]) (s13.trans (same_new nt)) (s13.free nt) ?_
          unfold ans
          rw [es, upd_same, ← many_pick]
          rfl
end
end Sw
namespace Sw
open PySem PySem.Spec PyProof.Rows L2
open Uw29 (Sail Loft Best stands)
section
variable {P : Program} {w : World} {K : PySem.W.Frag} {mg : Str → Option Value} {base : Heap} {CS CL : Addr}
theorem scFewest : FnScope ["self", "taken", "wind", "number"] ["self"] (defScope sFewest) := ⟨rfl, rfl, rfl, by decide +kernel, rfl, by decide +kernel, by decide +kernel⟩
def windOf (σ : L2.St) : Int := match σ[2]? with
  | some (some (V.int z)) => z
  | _ => 0
theorem ok_fewest {f : Addr} {fd : FuncData} (F : Fun K "fewest" "Loft.fewest" sFewest f fd) (T : Txt K mg CS CL) (DF : Dfn P w K mg base 2 "farthest_sail" ["sails", "wind"] (spFar CS)) :
    FnOk P w K mg base CX0 3 f fd ["self"] (spFewest CL CS) := by
  refine F.ok scFewest (fun vs H Q E h => ?_) (fun cdv A outer s H vs Q E hr h => ?_)
  · obtain ⟨p, l, s, rfl, _⟩ := h
    rfl
  · obtain ⟨p, l, s, rfl, L, g, ok⟩ := h
    refine ⟨_, pss_cons (ps_set (i := 1) scFewest.nd rfl (Or.inl rfl) (pe_lst pa_nil))
      (pss_cons (ps_set (i := 2) scFewest.nd rfl (Or.inl rfl) (pe_fld (pv 0) rfl))
      (pss_cons (ps_while PassesOwn.never (pt_cmpR op_le (pv 2) (pe_fld (pv 0) rfl) (nomark _))
        (pss_cons (ps_set (i := 3) scFewest.nd rfl (Or.inl rfl) (pe_dfn DF hr rfl (pa_cons (pe_fld (pv 0) rfl) (pa_cons (pv 2) pa_nil))))
        (pss_cons (ps_if (pt_cmpR op_isN (pv 3) pe_non (nomark _)) (pss_one (ps_ret (pe_lst (pa_cons (pe_num rfl T.cNot) (pa_cons (pv 2) pa_nil))))) pss_nil)
        (pss_cons (ps_expr (pe_bm PySem.F.plainAttrs_list PySem.F.slot_list_append PySem.F.type_list_append mt_append (pv 1) (pa_cons (pv 3) pa_nil)))
        (pss_one (ps_set (i := 2) scFewest.nd rfl (Or.inl rfl) (pe_op op_add (pe_fld (pe_ix ix_list (pe_fld (pv 0) rfl) (pv 3) (fun _ _ => rfl)) rfl) pe_int)))))))
      (pss_one (ps_ret (pe_op op_cat (pe_lst (pa_cons (pe_callB call_len_seq (by rfl) T.len PySem.boot_len (pa_cons (pv 1) pa_nil)) pa_nil)) (pv 1)))))), ?_⟩
    obtain ⟨⟨dx, hp⟩, ⟨as, hS⟩⟩ := id L
    have gl := g.lohi
    have gh := g.hi
    have gf := g.few
    have es : ans s .fewest = Uw29Neutral.out (match s.plain with
      | .error w => ⟨-6, [w]⟩
      | .ok l => ⟨(l.length : Nat), l⟩) := rfl
    refine ⟨Nat.zero_le _, fun t nt => ?_⟩
    have s0 : Same H (upd H t (.lst [])) := same_new nt
    refine ⟨_, rfl, p, CL, dx, _, _, rfl, s0 _ _ hp, T.clL, T.nLl, lF_least s l, ?_⟩
    refine while_by (fun σ H' => ∃ (ts : List Nat) (w f : Nat) (v : Option V), σ = [some (.ref p), some (.ref t), some (.int w), v] ∧ Same H H' ∧ H' t = some (.lst (ts.map nV)) ∧ glue ts (s.plainFrom f w) = s.plain ∧ s.hi + 1 ≤ w + f ∧ ts.length + f ≤ s.hi + 1)
      (fun σ _ => ((s.hi : Int) + 1 - windOf σ).toNat) ⟨[], s.lo, s.hi + 1, none, rfl, s0, upd_same, ?_, by omega, by show 0 + _ ≤ _; omega⟩ ?_ ?_
    · unfold Loft.plain
      cases s.plainFrom (s.hi + 1) s.lo <;> rfl
    · rintro σ H' ⟨ts, w, f, v, rfl, s1, ht, hg, hf, hn⟩
      refine ⟨_, rfl, _, rfl, p, CL, dx, _, _, rfl, s1 _ _ hp, T.clL, T.nLg, lF_greatest s l, _, _, rfl, rfl, _, rfl, ?_⟩
      by_cases c : w ≤ s.hi
      · refine if_t (decide_eq_true (by omega)) ?_
        refine ⟨_, rfl, p, CL, dx, _, _, rfl, s1 _ _ hp, T.clL, T.nLs, lF_sails s l, _, rfl, l, as, s, w, rfl, hS.same s1, gf, ?_⟩
        obtain ⟨f, rfl⟩ : ∃ f', f = f' + 1 := ⟨f - 1, by omega⟩
        refine ⟨_, rfl, rfl, _, rfl, ?_⟩
        cases e : s.farthest w with
        | none =>
          refine if_t (decide_eq_true rfl) ⟨_, rfl, by show 2 ≤ sizeLine; decide, fun q nq => ?_⟩
          refine ok.same L rfl (s1.trans (same_new nq)) (s1.free nq) ?_
          rw [plain_none (by omega) e] at hg
          rw [es, ← hg, upd_same]
          rfl
        | some i =>
          refine if_f (decide_eq_false (by intro z; cases z)) ?_
          obtain ⟨hi, hst⟩ := far_good s w _ i e
          obtain ⟨a, x, ha, hx, hA⟩ := hS.all.get hi
          rw [sail_at hx] at hst
          have hst : w ≤ x.hi := by
            unfold stands at hst
            rw [Bool.and_eq_true, decide_eq_true_eq, decide_eq_true_eq] at hst
            exact hst.2
          rw [plain_some (by omega) e, sail_at hx] at hg
          refine ⟨_, rfl, .inl ⟨rfl, _, SqL.of ht⟩, _, rfl, t, _, _, rfl, rfl, ht, small1000 (by rw [List.length_map]; omega), ?_⟩
          have s2 : Same H (upd H' t (.lst (ts.map nV ++ [optV (some i)]))) := same_then s1 nt
          obtain ⟨dy, hA2⟩ := hA.same s2
          refine ⟨_, rfl, p, CL, dx, _, _, rfl, s2 _ _ hp, T.clL, T.nLs, lF_sails s l, _, rfl, l, _, _, _, rfl, rfl, SqL.of (s2 _ _ hS.lst), atI_nat (by rw [List.getElem?_map, ha]; rfl), a, CS, dy, _, _, rfl, hA2, T.clS, T.nSg, sF_greatest x, _, _, rfl, rfl, ?_⟩
          refine ⟨⟨ts ++ [i], x.hi + 1, f, some (optV (some i)), rfl, s2, ?_, hg, by omega, by rw [List.length_append, List.length_singleton]; omega⟩, ?_⟩
          · rw [upd_same, List.map_append]
            rfl
          · show ((s.hi : Int) + 1 - ((x.hi : Int) + 1)).toNat < ((s.hi : Int) + 1 - (w : Int)).toNat
            omega
      · refine if_f (decide_eq_false (by omega)) ?_
        rw [plain_done (by omega)] at hg
        have hg : Except.ok (ts ++ []) = s.plain := hg
        rw [List.append_nil] at hg
        refine ⟨_, rfl, t, _, rfl, .inl (SqL.of ht), (by show 1 ≤ sizeLine; decide), fun q nq => ?_⟩
        have nqt : t ≠ q := ne_of_none ht nq
        refine ⟨_, rfl, q, t, _, _, rfl, rfl, upd_same, (by rw [upd_ne nqt]; exact ht), ?_, fun r nr => ?_⟩
        · rw [List.length_map]
          show 1 + ts.length ≤ sizeLine
          have : 1000 < sizeLine := small1000 (Nat.le_refl _)
          omega
        · have s2 : Same H (upd H' q (.lst [V.int ((ts.map nV).length : Nat)])) := s1.trans (same_new nq)
          refine ok.same L rfl (s2.trans (same_new nr)) (s2.free nr) ?_
          rw [es, ← hg, upd_same, List.length_map]
          show some (HO.lst ([V.int (ts.length : Nat)] ++ ts.map nV)) = some (HO.lst (V.int (ts.length : Nat) :: (ts.map fun (n : Nat) => (n : Int)).map V.int))
          rw [List.map_map]
          rfl
    · rintro σ H' Q1 Q2 hq ⟨a1, a2, a3, a4, a5, a6, a7, a8, a9, b1, b2, b3, b4, b5, b6, b7, b8, b9, c1, c2, c3⟩
      exact ⟨a1, a2, a3, a4, a5, a6, a7, a8, a9, b1, b2, b3, b4, b5, b6, b7, b8, b9, c1, c2, hq _ _ c3⟩
/-! ### best -/
structure PairsAt (H : Hp) (ts : List Addr) (ws : List W2) : Prop where
  len : ts.length = ws.length
  at_ : ∀ (i : Nat) (t : Addr), ts[i]? = some t → ∃ m, ws[i]? = some m ∧ H t = some (.tup [.int (m.1 : Nat), .int (m.2 : Nat)])
theorem PairsAt.keep {H H' : Hp} {ts : List Addr} {ws : List W2} (h : PairsAt H ts ws) (k : ∀ t m, H t = some (.tup m) → H' t = some (.tup m)) : PairsAt H' ts ws :=
  ⟨h.len, fun i t e => by obtain ⟨m, e1, e2⟩ := h.at_ i t e; exact ⟨m, e1, k t _ e2⟩⟩
theorem PairsAt.snoc {H : Hp} {ts : List Addr} {ws : List W2} {t : Addr} {m : W2} (h : PairsAt H ts ws) (q : H t = some (.tup [.int (m.1 : Nat), .int (m.2 : Nat)])) : PairsAt H (ts ++ [t]) (ws ++ [m]) := by
  refine ⟨by rw [List.length_append, List.length_append, h.len]; rfl, fun i b e => ?_⟩
  by_cases c : i < ts.length
  · rw [List.getElem?_append_left c] at e
    obtain ⟨y, e1, e2⟩ := h.at_ i b e
    exact ⟨y, by rw [List.getElem?_append_left (by rw [← h.len]; exact c)]; exact e1, e2⟩
  · rw [List.getElem?_append_right (by omega)] at e
    have hi : i = ts.length := by
      have := (List.getElem?_eq_some_iff.mp e).1
      rw [List.length_singleton] at this
      omega
    subst hi
    rw [Nat.sub_self] at e
    have : t = b := Option.some.inj e
    subst this
    exact ⟨m, by rw [h.len, List.getElem?_append_right (Nat.le_refl _), Nat.sub_self]; rfl, q⟩
theorem pair_dp {K : PySem.W.Frag} {H : Hp} {t : Addr} {m : W2} (h : H t = some (.tup [.int (m.1 : Nat), .int (m.2 : Nat)])) : Dp K H (.ref t) (prD m) :=
  Dp.tup (SqT.of h) (DpAll.cons (Dp.int _) (DpAll.cons (Dp.int _) DpAll.nil))
theorem PairsAt.dp {K : PySem.W.Frag} {H : Hp} : ∀ {ts : List Addr} {ws : List W2}, PairsAt H ts ws → DpAll K H (ts.map V.ref) (ws.map prD)
  | [], [], _ => DpAll.nil
  | [], _ :: _, h => by have := h.len; cases this
  | _ :: _, [], h => by have := h.len; cases this
  | t :: ts, m :: ws, h => by
    refine DpAll.cons ?_ (PairsAt.dp ⟨Nat.succ.inj h.len, fun i a e => h.at_ (i + 1) a e⟩)
    obtain ⟨m', e1, e2⟩ := h.at_ 0 t rfl
    have e3 : m = m' := Option.some.inj e1
    rw [e3]
    exact pair_dp e2
theorem scBest : FnScope ["self", "k", "enough", "worths", "least", "chosen"] ["self", "k"] (defScope sBest) := ⟨rfl, rfl, rfl, by decide +kernel, rfl, by decide +kernel, by decide +kernel⟩
theorem ok_best {f : Addr} {fd : FuncData} (F : Fun K "best" "Loft.best" sBest f fd) (T : Txt K mg CS CL) (DW : Dfn P w K mg base 2 "worth_of_set" ["sails", "chosen"] (spWorth CS)) (ME : Mth P w K mg base 4 CL "sets_enough" ["self", "k"] (spSets CL CS)) :
    FnOk P w K mg base CX0 5 f fd ["self", "k"] (spBest CL CS) := by
  refine F.ok scBest (fun vs H Q E h => ?_) (fun cdv A outer s H vs Q E hr h => ?_)
  · obtain ⟨p, l, s, k, rfl, _⟩ := h
    rfl
  · obtain ⟨p, l, s, k, rfl, L, g, ok⟩ := h
    have hr2 : Room 2 _ := hr.mono (by decide)
    refine ⟨_, pss_cons (ps_if (pt_cmpR op_gt (pv 1) (pe_num rfl T.cK) (nomark _)) (pss_one (ps_ret (pe_lst (pa_cons (pe_num rfl T.cOut) pa_nil)))) pss_nil)
      (pss_cons (ps_set (i := 2) scBest.nd rfl (Or.inl rfl) (pe_mth ME hr T.clL (pv 0) (pa_cons (pv 1) pa_nil)))
      (pss_cons (ps_if (pt_cmpR op_eq (pe_callB call_len_seq (by rfl) T.len PySem.boot_len (pa_cons (pv 2) pa_nil)) pe_int (nomark _)) (pss_one (ps_ret (pe_lst (pa_cons (pe_num rfl T.cNot) pa_nil)))) pss_nil)
      (pss_cons (ps_setLc (i := 3) (own := [("chosen", 5)]) (g := gName 5) (tt := tYes) (te := tCall (spWorth CS) [] E0 (tCons (tFld K (tVar 0) "sails") (tCons (tVar 5) tNil))) rfl scBest.nd rfl rfl (sw_true rfl rfl rfl (by decide +kernel)) (pi_list (pv 2))
        (blkOk_by (N := ["self", "k", "enough", "worths", "least", "chosen"]) (sc := defScope sBest) (by decide +kernel)) (fun _ _ _ _ _ => pg_name (i := 5) scBest.nd rfl (Or.inl rfl)) (fun _ _ _ _ _ => pts_nil)
        (fun _ _ _ _ _ => by exact pe_dfn DW hr2 rfl (pa_cons (pe_fld (pv 0) rfl) (pa_cons (pv 5) pa_nil))))
      (pss_cons (ps_set (i := 4) scBest.nd rfl (Or.inl rfl) (pe_callB (cr_minP rfl hr) (by rfl) T.min (by decide +kernel) (pa_cons (pv 3) pa_nil)))
      (pss_one (ps_ret (pe_lst (pa_cons (pe_ix ix_tup (pv 4) pe_int (fun _ _ => rfl)) (pa_cons (pe_ix ix_tup (pv 4) pe_int (fun _ _ => rfl))
        (pa_cons (pe_bm PySem.F.plainAttrs_list PySem.F.slot_list_count PySem.F.type_list_count (mt_countP hr) (pv 3) (pa_cons (pv 4) pa_nil))
        (pa_cons (pe_ix ix_list (pv 2) (pe_bm PySem.F.plainAttrs_list PySem.F.slot_list_index PySem.F.type_list_index (mt_indexP hr) (pv 3) (pa_cons (pv 4) pa_nil)) (fun _ _ => rfl)) pa_nil))))))))))), ?_⟩
    obtain ⟨⟨dx, hp⟩, ⟨as, hS⟩⟩ := id L
    have gf := g.few
    have es : Uw29.step s (.best k) = if 3 < k then (s, Uw29.ok (-1)) else (s, match s.best k with
      | none => Uw29.ok (-6)
      | some b => ⟨(b.cost : Nat), [b.size, b.many, b.set_]⟩) := rfl
    refine ⟨_, rfl, _, _, rfl, rfl, _, rfl, ?_⟩
    by_cases c : 3 < k
    · rw [if_pos c] at es
      refine if_t (decide_eq_true (by omega)) ⟨by show 1 ≤ sizeLine; decide, fun q nq => ?_⟩
      refine ok.same L (by rw [es]) (same_new nq) nq ?_
      unfold ans
      rw [es, upd_same]
      rfl
    · rw [if_neg c] at es
      refine if_f (decide_eq_false (by omega)) ?_
      refine ⟨_, rfl, p, dx, _, rfl, hp, lF_no s l (by decide +kernel) (by decide +kernel) (by decide +kernel), _, rfl, p, l, s, k, rfl, L, g, fun H1 e s1 ne he => ?_⟩
      have hel : ((enoughs s k).map nV).length ≤ 1000 := by
        rw [List.length_map]
        unfold enoughs
        have h1 := List.length_filter_le (s.enough k) (List.range (2 ^ s.sails.length))
        rw [List.length_range] at h1
        have h2 : 2 ^ s.sails.length ≤ 2 ^ 9 := Nat.pow_le_pow_right (by decide) gf
        omega
      refine ⟨_, rfl, e, _, rfl, .inl (SqL.of he), rfl, _, rfl, ?_⟩
      by_cases c2 : enoughs s k = []
      · rw [best_nil c2] at es
        refine if_t (decide_eq_true (by rw [c2]; rfl)) ⟨by show 1 ≤ sizeLine; decide, fun q nq => ?_⟩
        refine ok.same L (by rw [es]) (s1.trans (same_new nq)) (s1.free nq) ?_
        unfold ans
        rw [es, upd_same]
        rfl
      · refine if_f (decide_eq_false fun z => ?_) ?_
        · have z := V.int.inj z
          rw [List.length_map] at z
          exact c2 (List.eq_nil_of_length_eq_zero (by omega))
        refine ⟨_, rfl, e, rfl, ⟨_, SqL.of he⟩, fun D hD => lc_list (K := K) (a := e) (xs := (enoughs s k).map nV) (fun i H' => ∃ ts : List Addr, H' D = some (.lst (ts.map V.ref)) ∧ PairsAt H' ts (((enoughs s k).take i).map (worth s)) ∧ Same H1 H')
          ⟨[], upd_same, ⟨rfl, fun i t e => by simp at e⟩, same_new hD⟩ (fun i H' _ ⟨_, _, _, s2⟩ => SqL.of (s2 _ _ he)) ?_ ?_⟩
        · rintro i y H' hi ⟨ts, h1, h2, s2⟩
          obtain ⟨q, hq, rfl⟩ := map_at hi
          have s12 := s1.trans s2
          refine ⟨rfl, ?_⟩
          unfold tYes
          dsimp only
          rw [if_pos rfl]
          refine ⟨_, rfl, p, CL, dx, _, _, rfl, s12 _ _ hp, T.clL, T.nLs, lF_sails s l, _, rfl, l, as, s.sails, q, rfl, hS.same s12, gf, fun H2 t s3 nt ht => ?_⟩
          have h3 := s3 _ _ h1
          have hil := (List.getElem?_eq_some_iff.mp hq).1
          rw [List.length_map] at hel
          refine ⟨_, h3, small1000 ?_, ts ++ [t], ?_, ?_, same_then (s2.trans s3) hD⟩
          · rw [List.length_map, h2.len, List.length_map, List.length_take]
            omega
          · rw [upd_same, List.map_append]
            rfl
          · rw [take_more hq, List.map_append]
            have P1 : PairsAt H2 (ts ++ [t]) (((enoughs s k).take i).map (worth s) ++ [worth s q]) := (h2.keep fun t m z => s3 _ _ z).snoc ht
            exact P1.keep fun t' m z => by rw [upd_ne (ne_of z h3 (by intro z; cases z))]; exact z
        · rintro H' ⟨ts, h1, h2, s2⟩
          rw [List.length_map, List.take_length] at h2
          have s12 := s1.trans s2
          have he2 := s2 _ _ he
          obtain ⟨q0, E', eE⟩ : ∃ q0 E', enoughs s k = q0 :: E' := by
            cases e : enoughs s k with
            | nil => exact absurd e c2
            | cons a b => exact ⟨a, b, rfl⟩
          have hdp : DpAll K H' (ts.map V.ref) ((enoughs s k).map (worth s) |>.map prD) := h2.dp
          have ews : (enoughs s k).map (worth s) = worth s q0 :: E'.map (worth s) := by rw [eE]; rfl
          refine ⟨_, rfl, D, _, worth s q0, E'.map (worth s), rfl, SqL.of h1, (by rw [← ews]; exact hdp), fun i v m hv hm hl => ?_⟩
          rw [← ews] at hm hl
          obtain ⟨t, ht, rfl⟩ := map_at hv
          obtain ⟨m', e1, hT⟩ := h2.at_ i t ht
          have em : m' = m := Option.some.inj (e1.symm.trans hm)
          subst em
          have hmem : m' ∈ (enoughs s k).map (worth s) := List.mem_of_getElem? hm
          refine ⟨_, rfl, t, _, _, _, rfl, rfl, SqT.of hT, atI_nat (j := 0) rfl, ?_⟩
          refine ⟨_, rfl, t, _, _, _, rfl, rfl, SqT.of hT, atI_nat (j := 1) rfl, ?_⟩
          refine ⟨_, rfl, .inl ⟨rfl, _, SqL.of h1⟩, _, rfl, D, _, (enoughs s k).map (worth s), _, m', rfl, rfl, SqL.of h1, hdp, pair_dp hT, ?_⟩
          refine ⟨_, rfl, _, rfl, .inl ⟨rfl, _, SqL.of h1⟩, _, rfl, D, _, (enoughs s k).map (worth s), _, m', rfl, rfl, SqL.of h1, hdp, pair_dp hT, hmem, fun j hj hjn => ?_⟩
          rw [List.getElem?_map] at hj
          obtain ⟨q, hq, hqw⟩ : ∃ q, (enoughs s k)[j]? = some q ∧ worth s q = m' := by
            cases e : (enoughs s k)[j]? with
            | none => rw [e] at hj; cases hj
            | some q => rw [e] at hj; exact ⟨q, rfl, Option.some.inj hj⟩
          have hb := best_told (s := s) (k := k) hq hqw (fun i z hi hz => hjn i (worth s z) hi (by rw [List.getElem?_map, hz]; rfl)) fun z hz => hl _ (List.mem_map_of_mem hz)
          rw [hb] at es
          refine ⟨e, _, _, _, rfl, rfl, SqL.of he2, atI_nat (by rw [List.getElem?_map, hq]; rfl), by show 4 ≤ sizeLine; decide, fun r nr => ?_⟩
          refine ok.same L (by rw [es]) (s12.trans (same_new nr)) (s12.free nr) ?_
          unfold ans
          rw [es, upd_same, List.countP_map]
          rfl
end
end Sw
namespace Sw
open PySem PySem.Spec PyProof.Rows L2
open Uw29 (Sail Loft Best stands)
def spCall (CL CS : Addr) : Sp := fun vs H Q _ => ∃ (p l c : Addr) (s : Loft) (cl : Uw29.Call), vs = [.ref p, .ref c] ∧ LoftAt CL CS H p l s ∧ Good s ∧ H c = some (.lst ((toInts (nums cl)).map V.int)) ∧ Done CL CS s cl p l H Q
def spAns (K : PySem.W.Frag) : Sp := fun vs H Q _ => ∃ (a : Addr) (ns : List Int), vs = [.ref a] ∧ SqL K H a (ns.map V.int) ∧ Small ns ∧ ns.length ≤ 400 ∧ PyUw29.answers_asked ns = true ∧
  ∀ (H' : Hp) (p : Addr), H' p = some (.lst ((PyUw29.answers ns).map V.int)) → Q (.ref p) H'
theorem cl_len (cl : Uw29.Call) : atI [V.int 3, .int 4, .int 3, .int 2, .int 1] (((nums cl).headD 0 : Nat) : Int) = some (.int ((nums cl).length : Nat)) := by
  cases cl with
  | begins a b => exact atI_nat (j := 0) rfl
  | sail x => exact atI_nat (j := 1) rfl
  | check k q => exact atI_nat (j := 2) rfl
  | best k => exact atI_nat (j := 3) rfl
  | fewest => exact atI_nat (j := 4) rfl
theorem cl_ne (cl : Uw29.Call) : ∃ r, nums cl = (nums cl).headD 0 :: r := by
  cases cl with
  | begins a b => exact ⟨_, rfl⟩
  | sail x => exact ⟨_, rfl⟩
  | check k q => exact ⟨_, rfl⟩
  | best k => exact ⟨_, rfl⟩
  | fewest => exact ⟨_, rfl⟩
theorem LoftAt.upd_told {CL CS : Addr} {H : Hp} {p l t : Addr} {s : Loft} {xs : List V} {o : HO} (h : LoftAt CL CS H p l s) (ht : H t = some (.lst xs)) (n : l ≠ t) : LoftAt CL CS (upd H t o) p l s := by
  obtain ⟨⟨dx, h1⟩, ⟨as, h2⟩⟩ := h
  exact ⟨⟨dx, by rw [upd_ne (ne_of h1 ht (by intro z; cases z))]; exact h1⟩, ⟨as, by rw [upd_ne n]; exact h2.lst, h2.all.keep fun _ _ z => z.upd_lst ht⟩⟩
theorem cut_call {ns : List Int} {i : Nat} {m rest : List Int} (h : ns.drop i = m ++ rest) (hi : i ≤ ns.length) : cutV (ns.map V.int) (some (i : Int)) (some ((i : Int) + ((m.length : Nat) : Int))) = m.map V.int := by
  have hl : (ns.drop i).length = (m ++ rest).length := by rw [h]
  rw [List.length_drop, List.length_append] at hl
  have e0 : (i : Int) + ((m.length : Nat) : Int) = ((i + m.length : Nat) : Int) := rfl
  unfold cutV
  rw [e0, HT.sIx_nat, HT.sIx_nat, List.length_map, Nat.min_eq_left hi, Nat.min_eq_left (by omega), ← List.map_drop, h, ← List.map_take, show i + m.length - i = m.length by omega, List.take_left]
section
variable {P : Program} {w : World} {K : PySem.W.Frag} {mg : Str → Option Value} {base : Heap} {CS CL : Addr}
theorem scCall : FnScope ["loft", "call"] ["loft", "call"] (defScope sCall) := ⟨rfl, rfl, rfl, by decide +kernel, rfl, by decide +kernel, by decide +kernel⟩
theorem ok_call {f : Addr} {fd : FuncData} (F : Fun K "answer_call" "answer_call" sCall f fd) (T : Txt K mg CS CL) (M1 : Mth P w K mg base 2 CL "begins" ["self", "least", "greatest"] (spBegins CL CS)) (M2 : Mth P w K mg base 3 CL "sail" ["self", "least", "greatest", "cost"] (spSail CL CS))
    (M3 : Mth P w K mg base 4 CL "check" ["self", "k", "chosen"] (spCheck CL CS)) (M4 : Mth P w K mg base 5 CL "best" ["self", "k"] (spBest CL CS)) (M5 : Mth P w K mg base 3 CL "fewest" ["self"] (spFewest CL CS)) :
    FnOk P w K mg base CX0 6 f fd ["loft", "call"] (spCall CL CS) := by
  refine F.ok scCall (fun vs H Q E h => ?_) (fun cdv A outer s H vs Q E hr h => ?_)
  · obtain ⟨p, l, c, s, cl, rfl, _⟩ := h
    rfl
  · obtain ⟨p, l, c, s, cl, rfl, L, g, hc, d⟩ := h
    have hr2 : Room 2 _ := hr.mono (by decide)
    have hr3 : Room 3 _ := hr.mono (by decide)
    have hr4 : Room 4 _ := hr.mono (by decide)
    refine ⟨_, pss_cons (ps_if (pt_cmpR op_eq (pe_ix ix_list (pv 1) pe_int (fun _ _ => rfl)) (pe_num rfl T.cBegins) (nomark _))
        (pss_one (ps_ret (pe_mth M1 hr2 T.clL (pv 0) (pa_cons (pe_ix ix_list (pv 1) pe_int (fun _ _ => rfl)) (pa_cons (pe_ix ix_list (pv 1) pe_int (fun _ _ => rfl)) pa_nil))))) pss_nil)
      (pss_cons (ps_if (pt_cmpR op_eq (pe_ix ix_list (pv 1) pe_int (fun _ _ => rfl)) (pe_num rfl T.cSail) (nomark _))
        (pss_one (ps_ret (pe_mth M2 hr3 T.clL (pv 0) (pa_cons (pe_ix ix_list (pv 1) pe_int (fun _ _ => rfl)) (pa_cons (pe_ix ix_list (pv 1) pe_int (fun _ _ => rfl)) (pa_cons (pe_ix ix_list (pv 1) pe_int (fun _ _ => rfl)) pa_nil)))))) pss_nil)
      (pss_cons (ps_if (pt_cmpR op_eq (pe_ix ix_list (pv 1) pe_int (fun _ _ => rfl)) (pe_num rfl T.cCheck) (nomark _))
        (pss_one (ps_ret (pe_mth M3 hr4 T.clL (pv 0) (pa_cons (pe_ix ix_list (pv 1) pe_int (fun _ _ => rfl)) (pa_cons (pe_ix ix_list (pv 1) pe_int (fun _ _ => rfl)) pa_nil))))) pss_nil)
      (pss_cons (ps_if (pt_cmpR op_eq (pe_ix ix_list (pv 1) pe_int (fun _ _ => rfl)) (pe_num rfl T.cBest) (nomark _))
        (pss_one (ps_ret (pe_mth M4 hr T.clL (pv 0) (pa_cons (pe_ix ix_list (pv 1) pe_int (fun _ _ => rfl)) pa_nil)))) pss_nil)
      (pss_one (ps_ret (pe_mth0 M5 hr3 T.clL (pv 0))))))), ?_⟩
    obtain ⟨⟨dx, hp⟩, _⟩ := id L
    have no : ∀ {a b : Int}, a ≠ b → decide (V.int a = V.int b) = false := fun h => decide_eq_false fun z => h (V.int.inj z)
    cases cl with
    | begins a b =>
      have h0 := atI_nat (xs := (toInts (nums (.begins a b))).map V.int) (j := 0) rfl
      have h1 := atI_nat (xs := (toInts (nums (.begins a b))).map V.int) (j := 1) rfl
      have h2 := atI_nat (xs := (toInts (nums (.begins a b))).map V.int) (j := 2) rfl
      refine ⟨_, rfl, c, _, _, _, rfl, rfl, SqL.of hc, h0, rfl, _, rfl, if_t (decide_eq_true rfl) ?_⟩
      exact ⟨_, rfl, p, dx, _, rfl, hp, lF_no s l (by decide +kernel) (by decide +kernel) (by decide +kernel), _, rfl, c, _, _, _, rfl, rfl, SqL.of hc, h1, _, rfl, c, _, _, _, rfl, rfl, SqL.of hc, h2, p, l, s, a, b, rfl, L, g, d⟩
    | sail x =>
      have h0 := atI_nat (xs := (toInts (nums (.sail x))).map V.int) (j := 0) rfl
      have h1 := atI_nat (xs := (toInts (nums (.sail x))).map V.int) (j := 1) rfl
      have h2 := atI_nat (xs := (toInts (nums (.sail x))).map V.int) (j := 2) rfl
      have h3 := atI_nat (xs := (toInts (nums (.sail x))).map V.int) (j := 3) rfl
      refine ⟨_, rfl, c, _, _, _, rfl, rfl, SqL.of hc, h0, rfl, _, rfl, if_f (no (by decide)) ?_⟩
      refine ⟨_, rfl, c, _, _, _, rfl, rfl, SqL.of hc, h0, rfl, _, rfl, if_t (decide_eq_true rfl) ?_⟩
      exact ⟨_, rfl, p, dx, _, rfl, hp, lF_no s l (by decide +kernel) (by decide +kernel) (by decide +kernel), _, rfl, c, _, _, _, rfl, rfl, SqL.of hc, h1, _, rfl, c, _, _, _, rfl, rfl, SqL.of hc, h2, _, rfl, c, _, _, _, rfl, rfl, SqL.of hc, h3, p, l, s, x, rfl, L, g, d⟩
    | check k q =>
      have h0 := atI_nat (xs := (toInts (nums (.check k q))).map V.int) (j := 0) rfl
      have h1 := atI_nat (xs := (toInts (nums (.check k q))).map V.int) (j := 1) rfl
      have h2 := atI_nat (xs := (toInts (nums (.check k q))).map V.int) (j := 2) rfl
      refine ⟨_, rfl, c, _, _, _, rfl, rfl, SqL.of hc, h0, rfl, _, rfl, if_f (no (by decide)) ?_⟩
      refine ⟨_, rfl, c, _, _, _, rfl, rfl, SqL.of hc, h0, rfl, _, rfl, if_f (no (by decide)) ?_⟩
      refine ⟨_, rfl, c, _, _, _, rfl, rfl, SqL.of hc, h0, rfl, _, rfl, if_t (decide_eq_true rfl) ?_⟩
      exact ⟨_, rfl, p, dx, _, rfl, hp, lF_no s l (by decide +kernel) (by decide +kernel) (by decide +kernel), _, rfl, c, _, _, _, rfl, rfl, SqL.of hc, h1, _, rfl, c, _, _, _, rfl, rfl, SqL.of hc, h2, p, l, s, k, q, rfl, L, g, d⟩
    | best k =>
      have h0 := atI_nat (xs := (toInts (nums (.best k))).map V.int) (j := 0) rfl
      have h1 := atI_nat (xs := (toInts (nums (.best k))).map V.int) (j := 1) rfl
      refine ⟨_, rfl, c, _, _, _, rfl, rfl, SqL.of hc, h0, rfl, _, rfl, if_f (no (by decide)) ?_⟩
      refine ⟨_, rfl, c, _, _, _, rfl, rfl, SqL.of hc, h0, rfl, _, rfl, if_f (no (by decide)) ?_⟩
      refine ⟨_, rfl, c, _, _, _, rfl, rfl, SqL.of hc, h0, rfl, _, rfl, if_f (no (by decide)) ?_⟩
      refine ⟨_, rfl, c, _, _, _, rfl, rfl, SqL.of hc, h0, rfl, _, rfl, if_t (decide_eq_true rfl) ?_⟩
      exact ⟨_, rfl, p, dx, _, rfl, hp, lF_no s l (by decide +kernel) (by decide +kernel) (by decide +kernel), _, rfl, c, _, _, _, rfl, rfl, SqL.of hc, h1, p, l, s, k, rfl, L, g, d⟩
    | fewest =>
      have h0 := atI_nat (xs := (toInts (nums .fewest)).map V.int) (j := 0) rfl
      refine ⟨_, rfl, c, _, _, _, rfl, rfl, SqL.of hc, h0, rfl, _, rfl, if_f (no (by decide)) ?_⟩
      refine ⟨_, rfl, c, _, _, _, rfl, rfl, SqL.of hc, h0, rfl, _, rfl, if_f (no (by decide)) ?_⟩
      refine ⟨_, rfl, c, _, _, _, rfl, rfl, SqL.of hc, h0, rfl, _, rfl, if_f (no (by decide)) ?_⟩
      refine ⟨_, rfl, c, _, _, _, rfl, rfl, SqL.of hc, h0, rfl, _, rfl, if_f (no (by decide)) ?_⟩
      exact ⟨_, rfl, p, dx, _, rfl, hp, lF_no s l (by decide +kernel) (by decide +kernel) (by decide +kernel), p, l, s, rfl, L, g, d⟩
def startOf (σ : L2.St) : Int := match σ[3]? with
  | some (some (V.int z)) => z
  | _ => 0
theorem scAns : FnScope ["calls", "loft", "told", "start", "end", "answer"] ["calls"] (defScope sAns) := ⟨rfl, rfl, rfl, by decide +kernel, rfl, by decide +kernel, by decide +kernel⟩
theorem ok_ans {f : Addr} {fd : FuncData} (F : Fun K "answers" "answers" sAns f fd) (T : Txt K mg CS CL) (MI : Mak P w K mg base 1 CL "Loft" ["self"] (spLoftInit CL CS)) (DC : Dfn P w K mg base 6 "answer_call" ["loft", "call"] (spCall CL CS)) :
    FnOk P w K mg base CX0 7 f fd ["calls"] (spAns K) := by
  refine F.ok scAns (fun vs H Q E h => ?_) (fun cdv A outer s H vs Q E hr h => ?_)
  · obtain ⟨a, ns, rfl, _⟩ := h
    rfl
  · obtain ⟨a, ns, rfl, hS, hsm, hlen, hask, k⟩ := h
    obtain ⟨aT, hT1, hT2⟩ := T.cLen
    have hr2 : Room 2 _ := hr.mono (by decide)
    refine ⟨_, pss_cons (ps_set (i := 1) scAns.nd rfl (Or.inl rfl) (pe_mak0 MI hr2 rfl))
      (pss_cons (ps_set (i := 2) scAns.nd rfl (Or.inl rfl) (pe_lst pa_nil))
      (pss_cons (ps_set (i := 3) scAns.nd rfl (Or.inl rfl) pe_int)
      (pss_cons (ps_while PassesOwn.never (pt_cmpR op_lt (pv 3) (pe_callB call_len_seq (by rfl) T.len PySem.boot_len (pa_cons (pv 0) pa_nil)) (nomark _))
        (pss_cons (ps_set (i := 4) scAns.nd rfl (Or.inl rfl) (pe_op op_add (pv 3) (pe_ix ix_tup (pe_glob (v := .ref aT) rfl hT1 rfl) (pe_ix ix_list (pv 0) (pv 3) (fun _ _ => rfl)) (fun _ _ => rfl))))
        (pss_cons (ps_set (i := 5) scAns.nd rfl (Or.inl rfl) (pe_dfn DC hr rfl (pa_cons (pv 1) (pa_cons (pe_slice sl_list (pv 0) (po_some (pv 3)) (po_some (pv 4))) pa_nil))))
        (pss_cons (ps_expr (pe_bm PySem.F.plainAttrs_list PySem.F.slot_list_append PySem.F.type_list_append mt_append (pv 2) (pa_cons (pe_callB call_len_seq (by rfl) T.len PySem.boot_len (pa_cons (pv 5) pa_nil)) pa_nil)))
        (pss_cons (ps_expr (pe_bm PySem.F.plainAttrs_list PySem.F.slot_list_extend PySem.F.type_list_extend mt_extend (pv 2) (pa_cons (pv 5) pa_nil)))
        (pss_one (ps_set (i := 3) scAns.nd rfl (Or.inl rfl) (pv 4))))))))
      (pss_one (ps_ret (pv 2)))))), ?_⟩
    -- loft = Loft(); told = []
    intro p dp np ndp nep
    refine ⟨p, dp, rfl, upd_same, fun H1 l0 L1 nl0 kp => ⟨rfl, ?_⟩⟩
    have s1 : Same H H1 := Same.made np ndp kp
    have nl0' : H l0 = none := by
      cases e : H l0 with
      | none => rfl
      | some o =>
        rw [upd_ne (ne_of_none e np), upd_ne (ne_of_none e ndp), e] at nl0
        cases nl0
    refine ⟨Nat.zero_le _, fun t nt => ?_⟩
    have nt0 : H t = none := s1.free nt
    have s2 : Same H (upd H1 t (.lst [])) := s1.trans (same_new nt)
    obtain ⟨cs0, hc0, hto, hshort⟩ := asked_start hask
    have nlt0 : l0 ≠ t := by
      obtain ⟨as, h⟩ := L1.sails
      exact ne_of_none h.lst nt
    refine while_by (fun σ H' => ∃ (i : Nat) (out : List Int) (s : Loft) (l : Addr) (v4 v5 : Option V) (f : Nat) (cs : List (List (List Int))), σ = [some (.ref a), some (.ref p), some (.ref t), some (.int i), v4, v5] ∧ Same H H' ∧ LoftAt CL CS H' p l s ∧ Good s ∧
        H' t = some (.lst (out.map V.int)) ∧ l ≠ t ∧ H l = none ∧ i ≤ ns.length ∧ PyFlat.calls PyUw29.shape f (ns.drop i) = some cs ∧ out ++ told s cs = PyUw29.answers ns)
      (fun σ _ => ((ns.length : Int) - startOf σ).toNat)
      ⟨0, [], Uw29.init, l0, none, none, ns.length, cs0, rfl, s2, L1.same (same_new nt), good_init, upd_same, nlt0, nl0', Nat.zero_le _, hc0, hto⟩ ?_ ?_
    · rintro σ H' ⟨i, out, s, l, v4, v5, f, cs, rfl, s3, L, g, ht, nlt, nl, hi, hcs, ho⟩
      refine ⟨_, rfl, _, rfl, a, _, rfl, .inl (s3.seq hS), _, _, rfl, rfl, _, rfl, ?_⟩
      by_cases c : i < ns.length
      · refine if_t (decide_eq_true (by rw [List.length_map]; omega)) ?_
        have hdl := List.length_drop (l := ns) (i := i)
        have hne : ns.drop i ≠ [] := fun z => by
          rw [z, List.length_nil] at hdl
          omega
        obtain ⟨cl, rest, f', cs', hd, hcs', hans⟩ := take_call hne (fun z hz => hsm z (List.mem_of_mem_drop hz)) hcs
        have hml : (toInts (nums cl)).length = (nums cl).length := List.length_map _
        have hdl2 : (toInts (nums cl) ++ rest).length = ns.length - i := by rw [← hd, hdl]
        rw [List.length_append, hml] at hdl2
        obtain ⟨r0, hr0⟩ := cl_ne cl
        have hat : (ns.map V.int)[i]? = some (V.int (((nums cl).headD 0 : Nat) : Int)) := by
          have e : ns[i]? = (ns.drop i)[0]? := by rw [List.getElem?_drop, Nat.add_zero]
          rw [List.getElem?_map, e, hd, hr0]
          rfl
        have hnp : 0 < (nums cl).length := by rw [hr0]; exact Nat.succ_pos _
        refine ⟨_, rfl, _, rfl, _, rfl, a, _, _, _, rfl, rfl, s3.seq hS, atI_nat hat, aT, _, _, _, rfl, rfl, hT2 _, cl_len cl, _, _, rfl, rfl, ?_⟩
        refine ⟨_, rfl, _, rfl, _, rfl, _, rfl, _, rfl, _, rfl, a, _, rfl, s3.seq hS, fun c nc => ?_⟩
        have hcut : cutV (ns.map V.int) (some (i : Int)) (some ((i : Int) + (((nums cl).length : Nat) : Int))) = (toInts (nums cl)).map V.int := by
          have := cut_call hd hi
          rw [hml] at this
          exact this
        have s4 : Same H' (upd H' c (.lst (cutV (ns.map V.int) (some (i : Int)) (some ((i : Int) + (((nums cl).length : Nat) : Int)))))) := same_new nc
        refine ⟨p, l, c, s, cl, rfl, L.same s4, g, (by rw [← hcut]; exact upd_same), fun H5 q l' L5 hl' nq hq fr => ?_⟩
        have hans := hans s
        rw [hans] at ho
        have hol : out.length + (1 + (ans s cl).length) ≤ 10000000 := by
          have : (out ++ (((ans s cl).length : Int) :: ans s cl ++ told (Uw29.step s cl).1 cs')).length ≤ 10000000 := by rw [ho]; exact hshort
          rw [List.length_append, List.length_append, List.length_cons] at this
          omega
        have hsz := sizeLine_eq
        obtain ⟨dx, hp⟩ := L.ins
        have npt : t ≠ p := ne_of ht hp (by intro z; cases z)
        have ht4 := s4 _ _ ht
        have ht5 : H5 t = some (.lst (out.map V.int)) := fr t _ ht4 npt nlt.symm
        have nqt : q ≠ t := (ne_of_none ht4 nq).symm
        have nlt' : l' ≠ t := by
          rcases hl' with rfl | z
          · exact nlt
          · exact (ne_of_none ht4 z).symm
        have nl' : H l' = none := by
          rcases hl' with rfl | z
          · exact nl
          · exact (s3.trans s4).free z
        refine ⟨_, rfl, .inl ⟨rfl, _, SqL.of ht5⟩, _, rfl, q, _, rfl, .inl (SqL.of hq), t, _, _, rfl, rfl, ht5, (by rw [List.length_map]; omega), ?_⟩
        refine ⟨_, rfl, .inl ⟨rfl, _, SqL.of upd_same⟩, _, rfl, t, q, _, _, rfl, rfl, upd_same, (by rw [upd_ne nqt]; exact hq), (by rw [List.length_append, List.length_map, List.length_map, List.length_singleton]; omega), ?_⟩
        refine ⟨_, rfl, ⟨i + (nums cl).length, out ++ (((ans s cl).length : Int) :: ans s cl), (Uw29.step s cl).1, l', some (.int ((i : Int) + (((nums cl).length : Nat) : Int))), some (.ref q), f', cs', rfl, ?_, (L5.upd_told ht5 nlt').upd_told upd_same nlt', good_step g cl, ?_, nlt', nl', by omega, ?_, ?_⟩, ?_⟩
        · intro b o e
          have nbt : b ≠ t := ne_of_none e nt0
          rw [upd_ne nbt, upd_ne nbt]
          exact fr b o (s4 _ _ (s3 _ _ e)) (ne_of_none e np) (ne_of_none e nl)
        · rw [upd_same, List.length_map, List.map_append, List.append_assoc]
          rfl
        · rw [← List.drop_drop, hd, ← hml, List.drop_left]
          exact hcs'
        · rw [List.append_assoc]
          exact ho
        · show ((ns.length : Int) - ((i : Int) + (((nums cl).length : Nat) : Int))).toNat < ((ns.length : Int) - (i : Int)).toNat
          omega
      · refine if_f (decide_eq_false (by rw [List.length_map]; omega)) ⟨_, rfl, ?_⟩
        rw [List.drop_eq_nil_of_le (by omega)] at hcs
        rw [calls_nil hcs, List.append_nil] at ho
        rw [ho] at ht
        exact k H' t ht
    · rintro σ H' Q1 Q2 hq ⟨a1, a2, a3, a4, a5, a6, a7, a8, a9, b1, b2, b3, b4, b5, b6⟩
      exact ⟨a1, a2, a3, a4, a5, a6, a7, a8, a9, b1, b2, b3, b4, b5, hq _ _ b6⟩
end
end Sw
namespace Sw
open PySem PySem.Spec PyProof.Rows L2
open PySem.W (Codec)
open Uw29 (Sail Loft)
/-! ### what the top has written -/
theorem all_mk {P : Program} {w : World} {K : PySem.W.Frag} {h : Heap} {mg : Str → Option Value}
    {fa CS CL aT f_sinit f_stands f_linit f_begins f_sail f_check f_best f_fewest f_sets f_short f_are f_count f_of f_total f_worth f_standing f_far f_call f_ans : Addr}
    {od_sinit an_sinit od_stands an_stands od_linit an_linit od_begins an_begins od_sail an_sail od_check an_check od_best an_best od_fewest an_fewest od_sets an_sets od_short an_short od_are an_are od_count an_count od_of an_of od_total an_total od_worth an_worth od_standing an_standing od_far an_far od_call an_call od_ans an_ans odT : Option Addr}
    {sl_sinit sl_stands sl_linit sl_begins sl_sail sl_check sl_best sl_fewest sl_sets sl_short sl_are sl_count sl_of sl_total sl_worth sl_standing sl_far sl_call sl_ans slT : Array (Option Value)}
    {oc_sinit kV_sinit dc_sinit pm_sinit cd_sinit ct_sinit oc_stands kV_stands dc_stands pm_stands cd_stands ct_stands oc_linit kV_linit dc_linit pm_linit cd_linit ct_linit oc_begins kV_begins dc_begins pm_begins cd_begins ct_begins oc_sail kV_sail dc_sail pm_sail cd_sail ct_sail oc_check kV_check dc_check pm_check cd_check ct_check oc_best kV_best dc_best pm_best cd_best ct_best oc_fewest kV_fewest dc_fewest pm_fewest cd_fewest ct_fewest oc_sets kV_sets dc_sets pm_sets cd_sets ct_sets oc_short kV_short dc_short pm_short cd_short ct_short oc_are kV_are dc_are pm_are cd_are ct_are oc_count kV_count dc_count pm_count cd_count ct_count oc_of kV_of dc_of pm_of cd_of ct_of oc_total kV_total dc_total pm_total cd_total ct_total oc_worth kV_worth dc_worth pm_worth cd_worth ct_worth oc_standing kV_standing dc_standing pm_standing cd_standing ct_standing oc_far kV_far dc_far pm_far cd_far ct_far oc_call kV_call dc_call pm_call cd_call ct_call oc_ans kV_ans dc_ans pm_ans cd_ans ct_ans : Value}
    {t1 t2 t3 t4 t5 nT : Nat}
    (X : K.In h) (G : h.Ns mainGlobals mg) (hfa : mg "answers" = some (.ref fa))
    (aS : PySem.W.nsIn K mainGlobals "Sail" = some (some (.ref CS)))
    (aL : PySem.W.nsIn K mainGlobals "Loft" = some (some (.ref CL)))
    (a_sinit : PySem.W.findIn K (.ref CS) "__init__" = some (some (.ref f_sinit)))
    (i_sinit : PySem.W.isFn K (.ref f_sinit) = true)
    (l_sinit : K.lookup f_sinit = some ⟨oc_sinit, od_sinit, .func (PySem.W.fnOf "__init__" "Sail.__init__" (defArgs sSailInit) (defBody sSailInit) (defScope sSailInit) .none kV_sinit dc_sinit pm_sinit an_sinit cd_sinit ct_sinit), sl_sinit⟩)
    (c_sinit : PySem.W.codeIn K cd_sinit "Sail.__init__" = true)
    (k_sinit : PySem.W.keepIn K (.ref f_sinit) = true)
    (a_stands : PySem.W.findIn K (.ref CS) "stands_in" = some (some (.ref f_stands)))
    (i_stands : PySem.W.isFn K (.ref f_stands) = true)
    (l_stands : K.lookup f_stands = some ⟨oc_stands, od_stands, .func (PySem.W.fnOf "stands_in" "Sail.stands_in" (defArgs sStands) (defBody sStands) (defScope sStands) .none kV_stands dc_stands pm_stands an_stands cd_stands ct_stands), sl_stands⟩)
    (c_stands : PySem.W.codeIn K cd_stands "Sail.stands_in" = true)
    (k_stands : PySem.W.keepIn K (.ref f_stands) = true)
    (a_linit : PySem.W.findIn K (.ref CL) "__init__" = some (some (.ref f_linit)))
    (i_linit : PySem.W.isFn K (.ref f_linit) = true)
    (l_linit : K.lookup f_linit = some ⟨oc_linit, od_linit, .func (PySem.W.fnOf "__init__" "Loft.__init__" (defArgs sLoftInit) (defBody sLoftInit) (defScope sLoftInit) .none kV_linit dc_linit pm_linit an_linit cd_linit ct_linit), sl_linit⟩)
    (c_linit : PySem.W.codeIn K cd_linit "Loft.__init__" = true)
    (k_linit : PySem.W.keepIn K (.ref f_linit) = true)
    (a_begins : PySem.W.findIn K (.ref CL) "begins" = some (some (.ref f_begins)))
    (i_begins : PySem.W.isFn K (.ref f_begins) = true)
    (l_begins : K.lookup f_begins = some ⟨oc_begins, od_begins, .func (PySem.W.fnOf "begins" "Loft.begins" (defArgs sBegins) (defBody sBegins) (defScope sBegins) .none kV_begins dc_begins pm_begins an_begins cd_begins ct_begins), sl_begins⟩)
    (c_begins : PySem.W.codeIn K cd_begins "Loft.begins" = true)
    (k_begins : PySem.W.keepIn K (.ref f_begins) = true)
    (a_sail : PySem.W.findIn K (.ref CL) "sail" = some (some (.ref f_sail)))
    (i_sail : PySem.W.isFn K (.ref f_sail) = true)
    (l_sail : K.lookup f_sail = some ⟨oc_sail, od_sail, .func (PySem.W.fnOf "sail" "Loft.sail" (defArgs sSail) (defBody sSail) (defScope sSail) .none kV_sail dc_sail pm_sail an_sail cd_sail ct_sail), sl_sail⟩)
    (c_sail : PySem.W.codeIn K cd_sail "Loft.sail" = true)
    (k_sail : PySem.W.keepIn K (.ref f_sail) = true)
    (a_check : PySem.W.findIn K (.ref CL) "check" = some (some (.ref f_check)))
    (i_check : PySem.W.isFn K (.ref f_check) = true)
    (l_check : K.lookup f_check = some ⟨oc_check, od_check, .func (PySem.W.fnOf "check" "Loft.check" (defArgs sCheck) (defBody sCheck) (defScope sCheck) .none kV_check dc_check pm_check an_check cd_check ct_check), sl_check⟩)
    (c_check : PySem.W.codeIn K cd_check "Loft.check" = true)
    (k_check : PySem.W.keepIn K (.ref f_check) = true)
    (a_best : PySem.W.findIn K (.ref CL) "best" = some (some (.ref f_best)))
    (i_best : PySem.W.isFn K (.ref f_best) = true)
    (l_best : K.lookup f_best = some ⟨oc_best, od_best, .func (PySem.W.fnOf "best" "Loft.best" (defArgs sBest) (defBody sBest) (defScope sBest) .none kV_best dc_best pm_best an_best cd_best ct_best), sl_best⟩)
    (c_best : PySem.W.codeIn K cd_best "Loft.best" = true)
    (k_best : PySem.W.keepIn K (.ref f_best) = true)
    (a_fewest : PySem.W.findIn K (.ref CL) "fewest" = some (some (.ref f_fewest)))
    (i_fewest : PySem.W.isFn K (.ref f_fewest) = true)
    (l_fewest : K.lookup f_fewest = some ⟨oc_fewest, od_fewest, .func (PySem.W.fnOf "fewest" "Loft.fewest" (defArgs sFewest) (defBody sFewest) (defScope sFewest) .none kV_fewest dc_fewest pm_fewest an_fewest cd_fewest ct_fewest), sl_fewest⟩)
    (c_fewest : PySem.W.codeIn K cd_fewest "Loft.fewest" = true)
    (k_fewest : PySem.W.keepIn K (.ref f_fewest) = true)
    (a_sets : PySem.W.findIn K (.ref CL) "sets_enough" = some (some (.ref f_sets)))
    (i_sets : PySem.W.isFn K (.ref f_sets) = true)
    (l_sets : K.lookup f_sets = some ⟨oc_sets, od_sets, .func (PySem.W.fnOf "sets_enough" "Loft.sets_enough" (defArgs sSets) (defBody sSets) (defScope sSets) .none kV_sets dc_sets pm_sets an_sets cd_sets ct_sets), sl_sets⟩)
    (c_sets : PySem.W.codeIn K cd_sets "Loft.sets_enough" = true)
    (k_sets : PySem.W.keepIn K (.ref f_sets) = true)
    (a_short : PySem.W.findIn K (.ref CL) "least_short_wind" = some (some (.ref f_short)))
    (i_short : PySem.W.isFn K (.ref f_short) = true)
    (l_short : K.lookup f_short = some ⟨oc_short, od_short, .func (PySem.W.fnOf "least_short_wind" "Loft.least_short_wind" (defArgs sShort) (defBody sShort) (defScope sShort) .none kV_short dc_short pm_short an_short cd_short ct_short), sl_short⟩)
    (c_short : PySem.W.codeIn K cd_short "Loft.least_short_wind" = true)
    (k_short : PySem.W.keepIn K (.ref f_short) = true)
    (a_are : PySem.W.nsIn K mainGlobals "are_winds" = some (some (.ref f_are)))
    (l_are : K.lookup f_are = some ⟨oc_are, od_are, .func (PySem.W.fnOf "are_winds" "are_winds" (defArgs sAre) (defBody sAre) (defScope sAre) .none kV_are dc_are pm_are an_are cd_are ct_are), sl_are⟩)
    (c_are : PySem.W.codeIn K cd_are "are_winds" = true)
    (k_are : PySem.W.keepIn K (.ref f_are) = true)
    (a_count : PySem.W.nsIn K mainGlobals "count_sets" = some (some (.ref f_count)))
    (l_count : K.lookup f_count = some ⟨oc_count, od_count, .func (PySem.W.fnOf "count_sets" "count_sets" (defArgs sCount) (defBody sCount) (defScope sCount) .none kV_count dc_count pm_count an_count cd_count ct_count), sl_count⟩)
    (c_count : PySem.W.codeIn K cd_count "count_sets" = true)
    (k_count : PySem.W.keepIn K (.ref f_count) = true)
    (a_of : PySem.W.nsIn K mainGlobals "sails_of_set" = some (some (.ref f_of)))
    (l_of : K.lookup f_of = some ⟨oc_of, od_of, .func (PySem.W.fnOf "sails_of_set" "sails_of_set" (defArgs sOf) (defBody sOf) (defScope sOf) .none kV_of dc_of pm_of an_of cd_of ct_of), sl_of⟩)
    (c_of : PySem.W.codeIn K cd_of "sails_of_set" = true)
    (k_of : PySem.W.keepIn K (.ref f_of) = true)
    (a_total : PySem.W.nsIn K mainGlobals "total_cost" = some (some (.ref f_total)))
    (l_total : K.lookup f_total = some ⟨oc_total, od_total, .func (PySem.W.fnOf "total_cost" "total_cost" (defArgs sTotal) (defBody sTotal) (defScope sTotal) .none kV_total dc_total pm_total an_total cd_total ct_total), sl_total⟩)
    (c_total : PySem.W.codeIn K cd_total "total_cost" = true)
    (k_total : PySem.W.keepIn K (.ref f_total) = true)
    (a_worth : PySem.W.nsIn K mainGlobals "worth_of_set" = some (some (.ref f_worth)))
    (l_worth : K.lookup f_worth = some ⟨oc_worth, od_worth, .func (PySem.W.fnOf "worth_of_set" "worth_of_set" (defArgs sWorth) (defBody sWorth) (defScope sWorth) .none kV_worth dc_worth pm_worth an_worth cd_worth ct_worth), sl_worth⟩)
    (c_worth : PySem.W.codeIn K cd_worth "worth_of_set" = true)
    (k_worth : PySem.W.keepIn K (.ref f_worth) = true)
    (a_standing : PySem.W.nsIn K mainGlobals "count_standing" = some (some (.ref f_standing)))
    (l_standing : K.lookup f_standing = some ⟨oc_standing, od_standing, .func (PySem.W.fnOf "count_standing" "count_standing" (defArgs sStanding) (defBody sStanding) (defScope sStanding) .none kV_standing dc_standing pm_standing an_standing cd_standing ct_standing), sl_standing⟩)
    (c_standing : PySem.W.codeIn K cd_standing "count_standing" = true)
    (k_standing : PySem.W.keepIn K (.ref f_standing) = true)
    (a_far : PySem.W.nsIn K mainGlobals "farthest_sail" = some (some (.ref f_far)))
    (l_far : K.lookup f_far = some ⟨oc_far, od_far, .func (PySem.W.fnOf "farthest_sail" "farthest_sail" (defArgs sFar) (defBody sFar) (defScope sFar) .none kV_far dc_far pm_far an_far cd_far ct_far), sl_far⟩)
    (c_far : PySem.W.codeIn K cd_far "farthest_sail" = true)
    (k_far : PySem.W.keepIn K (.ref f_far) = true)
    (a_call : PySem.W.nsIn K mainGlobals "answer_call" = some (some (.ref f_call)))
    (l_call : K.lookup f_call = some ⟨oc_call, od_call, .func (PySem.W.fnOf "answer_call" "answer_call" (defArgs sCall) (defBody sCall) (defScope sCall) .none kV_call dc_call pm_call an_call cd_call ct_call), sl_call⟩)
    (c_call : PySem.W.codeIn K cd_call "answer_call" = true)
    (k_call : PySem.W.keepIn K (.ref f_call) = true)
    (a_ans : PySem.W.nsIn K mainGlobals "answers" = some (some (.ref f_ans)))
    (l_ans : K.lookup f_ans = some ⟨oc_ans, od_ans, .func (PySem.W.fnOf "answers" "answers" (defArgs sAns) (defBody sAns) (defScope sAns) .none kV_ans dc_ans pm_ans an_ans cd_ans ct_ans), sl_ans⟩)
    (c_ans : PySem.W.codeIn K cd_ans "answers" = true)
    (k_ans : PySem.W.keepIn K (.ref f_ans) = true)
    (pgCS : PySem.W.plainGet K CS Str.empty = true)
    (hdCS : PySem.W.hasDictIn K CS = true)
    (poCS : PySem.W.plainOver K CS = true)
    (saCS : PySem.W.findIn K (.ref CS) "__setattr__" = some (some (.builtin "object.__setattr__")))
    (mkCS : PySem.W.makesIn K CS = true)
    (kcCS : PySem.W.keepIn K (.ref CS) = true)
    (pgCL : PySem.W.plainGet K CL Str.empty = true)
    (hdCL : PySem.W.hasDictIn K CL = true)
    (poCL : PySem.W.plainOver K CL = true)
    (saCL : PySem.W.findIn K (.ref CL) "__setattr__" = some (some (.builtin "object.__setattr__")))
    (mkCL : PySem.W.makesIn K CL = true)
    (kcCL : PySem.W.keepIn K (.ref CL) = true)
    (nSl : PySem.W.findIn K (.ref CS) "least" = some none)
    (nSg : PySem.W.findIn K (.ref CS) "greatest" = some none)
    (nSc : PySem.W.findIn K (.ref CS) "cost" = some none)
    (nLl : PySem.W.findIn K (.ref CL) "least" = some none)
    (nLg : PySem.W.findIn K (.ref CL) "greatest" = some none)
    (nLs : PySem.W.findIn K (.ref CL) "sails" = some none)
    (cWind : ∃ t, PySem.W.nsIn K mainGlobals "GREATEST_WIND" = some (some (.int 40 t)))
    (cCost : ∃ t, PySem.W.nsIn K mainGlobals "GREATEST_COST" = some (some (.int 1000 t)))
    (cK : ∃ t, PySem.W.nsIn K mainGlobals "GREATEST_K" = some (some (.int 3 t)))
    (cMost : ∃ t, PySem.W.nsIn K mainGlobals "MOST_SAILS" = some (some (.int 9 t)))
    (cOut : ∃ t, PySem.W.nsIn K mainGlobals "OUT_OF_BOUNDS" = some (some (.int (-1) t)))
    (cFull : ∃ t, PySem.W.nsIn K mainGlobals "LOFT_FULL" = some (some (.int (-5) t)))
    (cNot : ∃ t, PySem.W.nsIn K mainGlobals "NOT_ENOUGH" = some (some (.int (-6) t)))
    (cBegins : ∃ t, PySem.W.nsIn K mainGlobals "BEGINS" = some (some (.int 0 t)))
    (cSail : ∃ t, PySem.W.nsIn K mainGlobals "SAIL" = some (some (.int 1 t)))
    (cCheck : ∃ t, PySem.W.nsIn K mainGlobals "CHECK" = some (some (.int 2 t)))
    (cBest : ∃ t, PySem.W.nsIn K mainGlobals "BEST" = some (some (.int 3 t)))
    (aLen : PySem.W.nsIn K mainGlobals "CALL_LENGTHS" = some (some (.ref aT)))
    (lLen : K.lookup aT = some ⟨.type "tuple", odT, .seq #[.int 3 t1, .int 4 t2, .int 3 t3, .int 2 t4, .int 1 t5] nT, slT⟩)
    (z_len : PySem.W.nsIn K mainGlobals "len" = some none)
    (z_range : PySem.W.nsIn K mainGlobals "range" = some none)
    (z_min : PySem.W.nsIn K mainGlobals "min" = some none)
    (z_sum : PySem.W.nsIn K mainGlobals "sum" = some none) :
    ∃ fd : FuncData, (∀ (s : Shared) (us : List Value), us.length = (["calls"] : List Str).length → BindsTo s fd ⟨us, []⟩ ((["calls"] : List Str).zip us)) ∧ ∀ base : Heap, K.In base → base.Ns mainGlobals mg → FnOk P w K mg base CX0 7 fa fd ["calls"] (spAns K) := by
  have e := hfa.symm.trans (PySem.W.mg_of X G a_ans)
  cases e
  have num : ∀ {x : Str} {n : Int}, (∃ t, PySem.W.nsIn K mainGlobals x = some (some (.int n t))) → ∃ t, mg x = some (.int n t) := fun ⟨t, z⟩ => ⟨t, PySem.W.mg_of X G z⟩
  have T : Txt K mg CS CL := ⟨⟨pgCS, hdCS, poCS, saCS⟩, nSl, nSg, nSc, ⟨pgCL, hdCL, poCL, saCL⟩, nLl, nLg, nLs, PySem.W.mg_of X G aS, PySem.W.mg_of X G aL,
    num cWind, num cCost, num cK, num cMost, num cOut, num cFull, num cNot, num cBegins, num cSail, num cCheck, num cBest,
    ⟨aT, PySem.W.mg_of X G aLen, fun H => .inr ⟨_, _, _, lLen, rfl, rfl, (by show 5 ≤ sizeLine; decide), .cons ⟨_, rfl⟩ (.cons ⟨_, rfl⟩ (.cons ⟨_, rfl⟩ (.cons ⟨_, rfl⟩ (.cons ⟨_, rfl⟩ .nil))))⟩⟩,
    PySem.W.mg_none_of X G z_len, PySem.W.mg_none_of X G z_range, PySem.W.mg_none_of X G z_min, PySem.W.mg_none_of X G z_sum⟩
  have F_sinit := fun_mk (st := sSailInit) l_sinit c_sinit k_sinit
  have b_sinit := F_sinit.binds (ps := ["self", "least", "greatest", "cost"]) fun _ _ _ _ _ _ us hl => match us, hl with | [_, _, _, _], _ => rfl
  have F_stands := fun_mk (st := sStands) l_stands c_stands k_stands
  have b_stands := F_stands.binds (ps := ["self", "wind"]) fun _ _ _ _ _ _ us hl => match us, hl with | [_, _], _ => rfl
  have F_linit := fun_mk (st := sLoftInit) l_linit c_linit k_linit
  have b_linit := F_linit.binds (ps := ["self"]) fun _ _ _ _ _ _ us hl => match us, hl with | [_], _ => rfl
  have F_begins := fun_mk (st := sBegins) l_begins c_begins k_begins
  have b_begins := F_begins.binds (ps := ["self", "least", "greatest"]) fun _ _ _ _ _ _ us hl => match us, hl with | [_, _, _], _ => rfl
  have F_sail := fun_mk (st := sSail) l_sail c_sail k_sail
  have b_sail := F_sail.binds (ps := ["self", "least", "greatest", "cost"]) fun _ _ _ _ _ _ us hl => match us, hl with | [_, _, _, _], _ => rfl
  have F_check := fun_mk (st := sCheck) l_check c_check k_check
  have b_check := F_check.binds (ps := ["self", "k", "chosen"]) fun _ _ _ _ _ _ us hl => match us, hl with | [_, _, _], _ => rfl
  have F_best := fun_mk (st := sBest) l_best c_best k_best
  have b_best := F_best.binds (ps := ["self", "k"]) fun _ _ _ _ _ _ us hl => match us, hl with | [_, _], _ => rfl
  have F_fewest := fun_mk (st := sFewest) l_fewest c_fewest k_fewest
  have b_fewest := F_fewest.binds (ps := ["self"]) fun _ _ _ _ _ _ us hl => match us, hl with | [_], _ => rfl
  have F_sets := fun_mk (st := sSets) l_sets c_sets k_sets
  have b_sets := F_sets.binds (ps := ["self", "k"]) fun _ _ _ _ _ _ us hl => match us, hl with | [_, _], _ => rfl
  have F_short := fun_mk (st := sShort) l_short c_short k_short
  have b_short := F_short.binds (ps := ["self", "k", "sails"]) fun _ _ _ _ _ _ us hl => match us, hl with | [_, _, _], _ => rfl
  have F_are := fun_mk (st := sAre) l_are c_are k_are
  have b_are := F_are.binds (ps := ["least", "greatest"]) fun _ _ _ _ _ _ us hl => match us, hl with | [_, _], _ => rfl
  have F_count := fun_mk (st := sCount) l_count c_count k_count
  have b_count := F_count.binds (ps := ["sails"]) fun _ _ _ _ _ _ us hl => match us, hl with | [_], _ => rfl
  have F_of := fun_mk (st := sOf) l_of c_of k_of
  have b_of := F_of.binds (ps := ["sails", "chosen"]) fun _ _ _ _ _ _ us hl => match us, hl with | [_, _], _ => rfl
  have F_total := fun_mk (st := sTotal) l_total c_total k_total
  have b_total := F_total.binds (ps := ["sails"]) fun _ _ _ _ _ _ us hl => match us, hl with | [_], _ => rfl
  have F_worth := fun_mk (st := sWorth) l_worth c_worth k_worth
  have b_worth := F_worth.binds (ps := ["sails", "chosen"]) fun _ _ _ _ _ _ us hl => match us, hl with | [_, _], _ => rfl
  have F_standing := fun_mk (st := sStanding) l_standing c_standing k_standing
  have b_standing := F_standing.binds (ps := ["sails", "wind"]) fun _ _ _ _ _ _ us hl => match us, hl with | [_, _], _ => rfl
  have F_far := fun_mk (st := sFar) l_far c_far k_far
  have b_far := F_far.binds (ps := ["sails", "wind"]) fun _ _ _ _ _ _ us hl => match us, hl with | [_, _], _ => rfl
  have F_call := fun_mk (st := sCall) l_call c_call k_call
  have b_call := F_call.binds (ps := ["loft", "call"]) fun _ _ _ _ _ _ us hl => match us, hl with | [_, _], _ => rfl
  have F_ans := fun_mk (st := sAns) l_ans c_ans k_ans
  refine ⟨PySem.W.fnOf "answers" "answers" (defArgs sAns) (defBody sAns) (defScope sAns) .none kV_ans dc_ans pm_ans an_ans cd_ans ct_ans, fun s us hu => match us, hu with | [_], _ => .of_eq rfl, fun base _ _ => ?_⟩
  have MI : Mak P w K mg base 1 CS "Sail" ["self", "least", "greatest", "cost"] (spSailInit CS) := ⟨_, _, ⟨mkCS, a_sinit, i_sinit, kcCS⟩, ok_sailInit F_sinit T, T.gS, b_sinit⟩
  have MS : Mth P w K mg base 1 CS "stands_in" ["self", "wind"] (spStands CS) := ⟨_, _, ok_stands F_stands T, ⟨a_stands, i_stands, k_stands⟩, b_stands⟩
  have ML : Mak P w K mg base 1 CL "Loft" ["self"] (spLoftInit CL CS) := ⟨_, _, ⟨mkCL, a_linit, i_linit, kcCL⟩, ok_loftInit F_linit T, T.gL, b_linit⟩
  have D1 : Dfn P w K mg base 1 "are_winds" ["least", "greatest"] spAre := ⟨_, _, ok_are F_are T, PySem.W.mg_of X G a_are, k_are, b_are⟩
  have D2 : Dfn P w K mg base 1 "count_sets" ["sails"] (spCount CS) := ⟨_, _, ok_count F_count T, PySem.W.mg_of X G a_count, k_count, b_count⟩
  have D3 : Dfn P w K mg base 1 "sails_of_set" ["sails", "chosen"] (spOf CS) := ⟨_, _, ok_of F_of, PySem.W.mg_of X G a_of, k_of, b_of⟩
  have D4 : Dfn P w K mg base 1 "total_cost" ["sails"] (spTotal CS) := ⟨_, _, ok_total F_total T, PySem.W.mg_of X G a_total, k_total, b_total⟩
  have D5 : Dfn P w K mg base 2 "worth_of_set" ["sails", "chosen"] (spWorth CS) := ⟨_, _, ok_worth F_worth T D3 D4, PySem.W.mg_of X G a_worth, k_worth, b_worth⟩
  have D6 : Dfn P w K mg base 2 "count_standing" ["sails", "wind"] (spStanding CS) := ⟨_, _, ok_standing F_standing T MS, PySem.W.mg_of X G a_standing, k_standing, b_standing⟩
  have D7 : Dfn P w K mg base 2 "farthest_sail" ["sails", "wind"] (spFar CS) := ⟨_, _, ok_far F_far T MS, PySem.W.mg_of X G a_far, k_far, b_far⟩
  have MSh : Mth P w K mg base 3 CL "least_short_wind" ["self", "k", "sails"] (spShort CL CS) := ⟨_, _, ok_short F_short T D6, ⟨a_short, i_short, k_short⟩, b_short⟩
  have MSe : Mth P w K mg base 4 CL "sets_enough" ["self", "k"] (spSets CL CS) := ⟨_, _, ok_sets F_sets T D2 D3 MSh, ⟨a_sets, i_sets, k_sets⟩, b_sets⟩
  have M1 : Mth P w K mg base 2 CL "begins" ["self", "least", "greatest"] (spBegins CL CS) := ⟨_, _, ok_begins F_begins T D1, ⟨a_begins, i_begins, k_begins⟩, b_begins⟩
  have M2 : Mth P w K mg base 3 CL "sail" ["self", "least", "greatest", "cost"] (spSail CL CS) := ⟨_, _, ok_sail F_sail T D1 MI, ⟨a_sail, i_sail, k_sail⟩, b_sail⟩
  have M3 : Mth P w K mg base 4 CL "check" ["self", "k", "chosen"] (spCheck CL CS) := ⟨_, _, ok_check F_check T D2 D3 D4 D6 MSh, ⟨a_check, i_check, k_check⟩, b_check⟩
  have M4 : Mth P w K mg base 5 CL "best" ["self", "k"] (spBest CL CS) := ⟨_, _, ok_best F_best T D5 MSe, ⟨a_best, i_best, k_best⟩, b_best⟩
  have M5 : Mth P w K mg base 3 CL "fewest" ["self"] (spFewest CL CS) := ⟨_, _, ok_fewest F_fewest T D7, ⟨a_fewest, i_fewest, k_fewest⟩, b_fewest⟩
  have D8 : Dfn P w K mg base 6 "answer_call" ["loft", "call"] (spCall CL CS) := ⟨_, _, ok_call F_call T M1 M2 M3 M4 M5, PySem.W.mg_of X G a_call, k_call, b_call⟩
  exact ok_ans F_ans T ML D8
end Sw
open PySem PySem.W PyProof.Rows
set_option maxRecDepth 100000 in
set_option maxHeartbeats 0 in
theorem PySem.Challenge.cw_sailwardrobe_s01_answers_holds : PySem.Challenge.rw_sailwardrobe_s01_answers.Holds := by
  w_on; k_headS; (case hw => exact ⟨[.list [.int 4]], by decide +kernel, by decide +kernel⟩)
  k_fillS
  refine L2.walk_specK (r := PySem.Challenge.rw_sailwardrobe_s01_answers) (k := 7) (CX := L2.CX0) (ps := ["calls"]) (sp := Sw.spAns) (by decide +kernel) rfl rfl ⟨rfl, by decide, by decide⟩ (fun w h Y => PySem.W.kIn_of Y) ?F ?S (fun _ _ _ _ z => z)
  case F =>
    intro w mg fa h Y KX G hmg
    refine' Sw.all_mk KX G hmg ?aS ?aL ?a_sinit ?i_sinit ?l_sinit ?c_sinit ?k_sinit ?a_stands ?i_stands ?l_stands ?c_stands ?k_stands ?a_linit ?i_linit ?l_linit ?c_linit ?k_linit ?a_begins ?i_begins ?l_begins ?c_begins ?k_begins ?a_sail ?i_sail ?l_sail ?c_sail ?k_sail ?a_check ?i_check ?l_check ?c_check ?k_check ?a_best ?i_best ?l_best ?c_best ?k_best ?a_fewest ?i_fewest ?l_fewest ?c_fewest ?k_fewest ?a_sets ?i_sets ?l_sets ?c_sets ?k_sets ?a_short ?i_short ?l_short ?c_short ?k_short ?a_are ?l_are ?c_are ?k_are ?a_count ?l_count ?c_count ?k_count ?a_of ?l_of ?c_of ?k_of ?a_total ?l_total ?c_total ?k_total ?a_worth ?l_worth ?c_worth ?k_worth ?a_standing ?l_standing ?c_standing ?k_standing ?a_far ?l_far ?c_far ?k_far ?a_call ?l_call ?c_call ?k_call ?a_ans ?l_ans ?c_ans ?k_ans ?pgCS ?hdCS ?poCS ?saCS ?mkCS ?kcCS ?pgCL ?hdCL ?poCL ?saCL ?mkCL ?kcCL ?nSl ?nSg ?nSc ?nLl ?nLg ?nLs ?cWind ?cCost ?cK ?cMost ?cOut ?cFull ?cNot ?cBegins ?cSail ?cCheck ?cBest ?aLen ?lLen ?z_len ?z_range ?z_min ?z_sum
    (case aS => k_is)
    (case aL => k_is)
    (case a_sinit => k_is)
    (case i_sinit => k_is)
    (case l_sinit => k_is)
    (case c_sinit => k_is)
    (case k_sinit => k_is)
    (case a_stands => k_is)
    (case i_stands => k_is)
    (case l_stands => k_is)
    (case c_stands => k_is)
    (case k_stands => k_is)
    (case a_linit => k_is)
    (case i_linit => k_is)
    (case l_linit => k_is)
    (case c_linit => k_is)
    (case k_linit => k_is)
    (case a_begins => k_is)
    (case i_begins => k_is)
    (case l_begins => k_is)
    (case c_begins => k_is)
    (case k_begins => k_is)
    (case a_sail => k_is)
    (case i_sail => k_is)
    (case l_sail => k_is)
    (case c_sail => k_is)
    (case k_sail => k_is)
    (case a_check => k_is)
    (case i_check => k_is)
    (case l_check => k_is)
    (case c_check => k_is)
    (case k_check => k_is)
    (case a_best => k_is)
    (case i_best => k_is)
    (case l_best => k_is)
    (case c_best => k_is)
    (case k_best => k_is)
    (case a_fewest => k_is)
    (case i_fewest => k_is)
    (case l_fewest => k_is)
    (case c_fewest => k_is)
    (case k_fewest => k_is)
    (case a_sets => k_is)
    (case i_sets => k_is)
    (case l_sets => k_is)
    (case c_sets => k_is)
    (case k_sets => k_is)
    (case a_short => k_is)
    (case i_short => k_is)
    (case l_short => k_is)
    (case c_short => k_is)
    (case k_short => k_is)
    (case a_are => k_is)
    (case l_are => k_is)
    (case c_are => k_is)
    (case k_are => k_is)
    (case a_count => k_is)
    (case l_count => k_is)
    (case c_count => k_is)
    (case k_count => k_is)
    (case a_of => k_is)
    (case l_of => k_is)
    (case c_of => k_is)
    (case k_of => k_is)
    (case a_total => k_is)
    (case l_total => k_is)
    (case c_total => k_is)
    (case k_total => k_is)
    (case a_worth => k_is)
    (case l_worth => k_is)
    (case c_worth => k_is)
    (case k_worth => k_is)
    (case a_standing => k_is)
    (case l_standing => k_is)
    (case c_standing => k_is)
    (case k_standing => k_is)
    (case a_far => k_is)
    (case l_far => k_is)
    (case c_far => k_is)
    (case k_far => k_is)
    (case a_call => k_is)
    (case l_call => k_is)
    (case c_call => k_is)
    (case k_call => k_is)
    (case a_ans => k_is)
    (case l_ans => k_is)
    (case c_ans => k_is)
    (case k_ans => k_is)
    (case pgCS => k_is)
    (case hdCS => k_is)
    (case poCS => k_is)
    (case saCS => k_is)
    (case mkCS => k_is)
    (case kcCS => k_is)
    (case pgCL => k_is)
    (case hdCL => k_is)
    (case poCL => k_is)
    (case saCL => k_is)
    (case mkCL => k_is)
    (case kcCL => k_is)
    (case nSl => k_is)
    (case nSg => k_is)
    (case nSc => k_is)
    (case nLl => k_is)
    (case nLg => k_is)
    (case nLs => k_is)
    (case cWind => exact ⟨_, by k_is⟩)
    (case cCost => exact ⟨_, by k_is⟩)
    (case cK => exact ⟨_, by k_is⟩)
    (case cMost => exact ⟨_, by k_is⟩)
    (case cOut => exact ⟨_, by k_is⟩)
    (case cFull => exact ⟨_, by k_is⟩)
    (case cNot => exact ⟨_, by k_is⟩)
    (case cBegins => exact ⟨_, by k_is⟩)
    (case cSail => exact ⟨_, by k_is⟩)
    (case cCheck => exact ⟨_, by k_is⟩)
    (case cBest => exact ⟨_, by k_is⟩)
    (case aLen => k_is)
    (case lLen => k_is)
    (case z_len => k_is)
    (case z_range => k_is)
    (case z_min => k_is)
    (case z_sum => k_is)
  case S =>
    intro K H xs a hO hwi hask hx
    cases hx with
    | cons h1 h2 =>
      cases h2
      cases h1 with
      | lst hs ha =>
        have e := L2.ints_dw a.1 _ ha
        subst e
        have q : ((Codec.inLen 0 400 a.1 && a.1.all (Codec.inInt 0 4294967295)) && true) = true := hwi
        rw [Bool.and_eq_true, Bool.and_eq_true] at q
        exact ⟨_, a.1, rfl, hs, fun z hz => Codec.inInt_iff.mp (List.all_eq_true.mp q.1.2 z hz), (Codec.inNat_iff.mp q.1.1).2, hask, fun H' p hp => .lst (L2.SqL.of hp) (L2.dw_ints _)⟩
#print axioms PySem.Challenge.cw_sailwardrobe_s01_answers_holds
