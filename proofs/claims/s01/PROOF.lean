import PyProof.Rows.All
import Wide.All
import OpenK.AllK
import Wide.FinOn
import Open.SpecLaws
import KE.OsHead
import KE.OsGo
import HandS.ForSpec
import HandS.ForMost
import HandS.Evl
import HandS.Deep
import HandS.Conv
import HandS.SetFor
import PySem.Challenge.RW_ordersalone_s01_answers
set_option Elab.async false
set_option linter.all false
set_option maxRecDepth 100000
set_option maxHeartbeats 4000000
/-! The table of who can have heard of whom: it is the paths over what is told. -/
namespace Oa
open Kv416

/-- n rows of n -/
def Sq (n : Nat) (t : Table) : Prop := t.length = n ∧ ∀ (i : Nat), i < n → (t.getD i []).length = n

theorem getD_lt {α : Type} {l : List α} {i : Nat} {d : α} (h : i < l.length) : l.getD i d = l[i] := by
  simp [List.getD, List.getElem?_eq_getElem h]
theorem getD_ge {α : Type} {l : List α} {i : Nat} {d : α} (h : l.length ≤ i) : l.getD i d = d := by
  simp [List.getD, List.getElem?_eq_none h]

theorem at_out_row {n : Nat} {t : Table} (s : Sq n t) {i j : Nat} (h : n ≤ i) : at_ t i j = false := by
  unfold at_
  rw [getD_ge (l := t) (by rw [s.1]; exact h)]
  rfl
theorem at_out_col {n : Nat} {t : Table} (s : Sq n t) {i j : Nat} (h : n ≤ j) : at_ t i j = false := by
  by_cases hi : i < n
  · unfold at_
    exact getD_ge (by rw [s.2 i hi]; exact h)
  · exact at_out_row s (by omega)
theorem at_in {n : Nat} {t : Table} (s : Sq n t) {i j : Nat} (h : at_ t i j = true) : i < n ∧ j < n := by
  constructor
  · exact Nat.lt_of_not_le fun q => by rw [at_out_row s q] at h; cases h
  · exact Nat.lt_of_not_le fun q => by rw [at_out_col s q] at h; cases h

theorem via_row (t : Table) (k i : Nat) (h : i < t.length) : (via t k).getD i [] = (t[i]).zipIdx.map fun x => x.1 || (at_ t i k && at_ t k x.2) := by
  unfold via
  rw [getD_lt (by simpa using h)]
  simp
theorem via_sq {n : Nat} {t : Table} (s : Sq n t) (k : Nat) : Sq n (via t k) := by
  refine ⟨?_, fun i hi => ?_⟩
  · unfold via
    simp [s.1]
  · rw [via_row t k i (by rw [s.1]; exact hi)]
    have := s.2 i hi
    rw [getD_lt (by rw [s.1]; exact hi)] at this
    simp [this]
theorem via_at {n : Nat} {t : Table} (s : Sq n t) (k i j : Nat) : at_ (via t k) i j = (at_ t i j || (at_ t i k && at_ t k j)) := by
  by_cases hi : i < n
  · by_cases hj : j < n
    · have hi' : i < t.length := by rw [s.1]; exact hi
      have hl := s.2 i hi
      rw [getD_lt hi'] at hl
      have hj' : j < (t[i]).length := by rw [hl]; exact hj
      show ((via t k).getD i []).getD j false = _
      rw [via_row t k i hi', getD_lt (by simpa using hj')]
      simp only [List.getElem_map, List.getElem_zipIdx, Nat.zero_add]
      have e : at_ t i j = (t[i])[j] := by
        unfold at_
        rw [getD_lt hi', getD_lt hj']
      rw [e]
    · have hj' : n ≤ j := by omega
      rw [at_out_col (via_sq s k) hj', at_out_col s hj', at_out_col s hj']
      simp
  · have hi' : n ≤ i := by omega
    rw [at_out_row (via_sq s k) hi', at_out_row s hi', at_out_row s hi']
    simp

/-- a table from what stands at each place -/
def tab (n : Nat) (f : Nat → Nat → Bool) : Table := (List.range n).map fun i => (List.range n).map fun j => f i j
theorem tab_sq (n : Nat) (f : Nat → Nat → Bool) : Sq n (tab n f) := by
  refine ⟨by simp [tab], fun i hi => ?_⟩
  unfold tab
  rw [getD_lt (by simpa using hi)]
  simp
theorem tab_at {n : Nat} {f : Nat → Nat → Bool} {i j : Nat} (hi : i < n) (hj : j < n) : at_ (tab n f) i j = f i j := by
  unfold at_ tab
  simp [List.getD, hi, hj]
/-- two tables of the same size are one if they say the same at each place -/
theorem tab_ext {n : Nat} {t u : Table} (s : Sq n t) (r : Sq n u) (h : ∀ i j, i < n → j < n → at_ t i j = at_ u i j) : t = u := by
  apply List.ext_getElem (by rw [s.1, r.1])
  intro i h1 h2
  have hi : i < n := by rw [← s.1]; exact h1
  have l1 := s.2 i hi
  have l2 := r.2 i hi
  rw [getD_lt h1] at l1
  rw [getD_lt h2] at l2
  apply List.ext_getElem (by rw [l1, l2])
  intro j g1 g2
  have hj : j < n := by rw [← l1]; exact g1
  have e := h i j hi hj
  unfold at_ at e
  rw [getD_lt h1, getD_lt h2, getD_lt g1, getD_lt g2] at e
  exact e
theorem tab_of {n : Nat} {t : Table} (s : Sq n t) : t = tab n (at_ t) :=
  tab_ext s (tab_sq _ _) fun _ _ hi hj => (tab_at hi hj).symm

/-- the first k rounds -/
def rounds (a : Now) (k : Nat) : Table := (List.range k).foldl via (tab a.n a.direct)
theorem rounds_succ (a : Now) (k : Nat) : rounds a (k + 1) = via (rounds a k) k := by
  unfold rounds
  rw [List.range_succ, List.foldl_append]
  rfl
theorem table_eq (a : Now) : a.table = rounds a a.n := rfl
theorem rounds_sq (a : Now) : ∀ k, Sq a.n (rounds a k)
  | 0 => tab_sq _ _
  | k + 1 => by rw [rounds_succ]; exact via_sq (rounds_sq a k) k
theorem table_sq (a : Now) : Sq a.n a.table := rounds_sq a _

/-- a path over what is told -/
inductive Path (l : List (Nat × Nat)) : Nat → Nat → Prop
  | one {i j : Nat} : (i, j) ∈ l → Path l i j
  | more {i j k : Nat} : Path l i j → Path l j k → Path l i k
theorem Path.mono {l r : List (Nat × Nat)} (h : ∀ p ∈ l, p ∈ r) {i j : Nat} (p : Path l i j) : Path r i j := by
  induction p with
  | one m => exact .one (h _ m)
  | more _ _ a b => exact .more a b

def Inside (a : Now) : Prop := ∀ p ∈ a.told, p.1 < a.n ∧ p.2 < a.n
theorem Path.inside {a : Now} (h : Inside a) {i j : Nat} (p : Path a.told i j) : i < a.n ∧ j < a.n := by
  induction p with
  | one m => exact h _ m
  | more _ _ x y => exact ⟨x.1, y.2⟩

theorem rounds_sound (a : Now) : ∀ (k i j : Nat), at_ (rounds a k) i j = true → Path a.told i j
  | 0, i, j, h => by
    have b := at_in (rounds_sq a 0) h
    have h' : at_ (tab a.n a.direct) i j = true := h
    rw [tab_at b.1 b.2] at h'
    unfold Now.direct at h'
    exact .one (by simpa using h')
  | k + 1, i, j, h => by
    rw [rounds_succ, via_at (rounds_sq a k)] at h
    rcases Bool.or_eq_true _ _ ▸ h with h | h
    · exact rounds_sound a k i j h
    · have h2 := Bool.and_eq_true _ _ ▸ h
      exact .more (rounds_sound a k i k h2.1) (rounds_sound a k k j h2.2)
theorem rounds_keep (a : Now) : ∀ (k i j : Nat), i < a.n → j < a.n → a.direct i j = true → at_ (rounds a k) i j = true
  | 0, i, j, hi, hj, h => by
    show at_ (tab a.n a.direct) i j = true
    rw [tab_at hi hj]
    exact h
  | k + 1, i, j, hi, hj, h => by
    rw [rounds_succ, via_at (rounds_sq a k), rounds_keep a k i j hi hj h]
    rfl
theorem rounds_closed (a : Now) : ∀ (k m i j : Nat), m < k → at_ (rounds a k) i m = true → at_ (rounds a k) m j = true → at_ (rounds a k) i j = true
  | 0, m, i, j, h, _, _ => absurd h (Nat.not_lt_zero m)
  | k + 1, m, i, j, h, h1, h2 => by
    have ih := rounds_closed a k
    rw [rounds_succ, via_at (rounds_sq a k)] at h1 h2 ⊢
    simp only [Bool.or_eq_true, Bool.and_eq_true] at h1 h2 ⊢
    by_cases hm : m = k
    · subst hm
      have g1 : at_ (rounds a m) i m = true := by
        rcases h1 with h | h
        · exact h
        · exact h.1
      have g2 : at_ (rounds a m) m j = true := by
        rcases h2 with h | h
        · exact h
        · exact h.2
      exact Or.inr ⟨g1, g2⟩
    · have hk : m < k := by omega
      rcases h1 with h1 | ⟨h1, h1'⟩
      · rcases h2 with h2 | ⟨h2, h2'⟩
        · exact Or.inl (ih m i j hk h1 h2)
        · exact Or.inr ⟨ih m i k hk h1 h2, h2'⟩
      · rcases h2 with h2 | ⟨h2, h2'⟩
        · exact Or.inr ⟨h1, ih m k j hk h1' h2⟩
        · exact Or.inr ⟨h1, h2'⟩
/-- the table tells just the paths -/
theorem table_path {a : Now} (h : Inside a) {i j : Nat} : at_ a.table i j = true ↔ Path a.told i j := by
  constructor
  · intro q
    exact rounds_sound a a.n i j q
  · intro p
    induction p with
    | one m =>
      have b := h _ m
      exact rounds_keep a a.n _ _ b.1 b.2 (by unfold Now.direct; simpa using m)
    | more p _ x y =>
      have b := Path.inside h p
      exact rounds_closed a a.n _ _ _ b.2 x y

/-! What holds of what is told -/
structure Good (a : Now) : Prop where
  lo : 1 ≤ a.n
  hi : a.n ≤ 6
  ins : Inside a
  nd : a.told.Nodup
  acy : ∀ i, ¬ Path a.told i i
theorem Good.irr {a : Now} (g : Good a) (i : Nat) : at_ a.table i i = false := by
  cases e : at_ a.table i i with
  | false => rfl
  | true => exact absurd ((table_path g.ins).mp e) (g.acy i)
theorem Good.trans {a : Now} (g : Good a) {i j k : Nat} (h1 : at_ a.table i j = true) (h2 : at_ a.table j k = true) : at_ a.table i k = true :=
  (table_path g.ins).mpr (.more ((table_path g.ins).mp h1) ((table_path g.ins).mp h2))

theorem good_begin {n : Nat} (h : ¬ (n = 0 ∨ 6 < n)) : Good ⟨n, []⟩ := by
  refine ⟨(by show 1 ≤ n; omega), (by show n ≤ 6; omega), (fun p m => by cases m), List.nodup_nil, fun i p => ?_⟩
  have : ∀ {x y : Nat}, ¬ Path [] x y := by
    intro x y p
    induction p with
    | one m => cases m
    | more _ _ x _ => exact x
  exact this p

theorem path_snoc {l : List (Nat × Nat)} {i j x y : Nat} (p : Path (l ++ [(i, j)]) x y) : Path l x y ∨ ((x = i ∨ Path l x i) ∧ (j = y ∨ Path l j y)) := by
  induction p with
  | one m =>
    rw [List.mem_append] at m
    rcases m with m | m
    · exact Or.inl (.one m)
    · have e := List.mem_singleton.mp m
      cases e
      exact Or.inr ⟨Or.inl rfl, Or.inl rfl⟩
  | more _ _ a b =>
    rcases a with a | ⟨a1, a2⟩
    · rcases b with b | ⟨b1, b2⟩
      · exact Or.inl (.more a b)
      · refine Or.inr ⟨Or.inr ?_, b2⟩
        rcases b1 with rfl | b1
        · exact a
        · exact .more a b1
    · rcases b with b | ⟨b1, b2⟩
      · refine Or.inr ⟨a1, Or.inr ?_⟩
        rcases a2 with rfl | a2
        · exact b
        · exact .more a2 b
      · exact Or.inr ⟨a1, b2⟩
theorem good_tell {a : Now} (g : Good a) {i j : Nat} (hi : i < a.n) (hj : j < a.n) (hne : i ≠ j) (hh : a.heard j i = false) (hd : a.direct i j = false) :
    Good { a with told := a.told ++ [(i, j)] } := by
  have hn : ¬ Path a.told j i := fun p => by
    have := (table_path g.ins).mpr p
    unfold Now.heard at hh
    rw [hh] at this
    cases this
  have hm : (i, j) ∉ a.told := fun m => by
    have : a.direct i j = true := by unfold Now.direct; simpa using m
    rw [hd] at this
    cases this
  refine ⟨g.lo, g.hi, fun p m => ?_, ?_, fun x p => ?_⟩
  · rcases List.mem_append.mp m with m | m
    · exact g.ins p m
    · cases List.mem_singleton.mp m
      exact ⟨hi, hj⟩
  · show (a.told ++ [(i, j)]).Nodup
    rw [List.nodup_append]
    refine ⟨g.nd, by simp, fun p m q m2 e => ?_⟩
    cases List.mem_singleton.mp m2
    subst e
    exact hm m
  · rcases path_snoc p with p | ⟨p1, p2⟩
    · exact g.acy x p
    · rcases p1 with rfl | p1
      · rcases p2 with rfl | p2
        · exact hne rfl
        · exact hn p2
      · rcases p2 with rfl | p2
        · exact hn p1
        · exact hn (.more p2 p1)
theorem good_sub {a : Now} (g : Good a) (f : Nat × Nat → Bool) : Good { a with told := a.told.filter f } := by
  refine ⟨g.lo, g.hi, fun p m => g.ins p ((List.mem_filter.mp m).1), g.nd.filter _, fun x p => g.acy x (p.mono fun q m => (List.mem_filter.mp m).1)⟩
theorem path_swap {l : List (Nat × Nat)} {i j : Nat} (p : Path (l.map fun q => (q.2, q.1)) i j) : Path l j i := by
  induction p with
  | one m =>
    obtain ⟨q, hq, e⟩ := List.mem_map.mp m
    cases e
    exact .one hq
  | more _ _ a b => exact .more b a
theorem nodup_map {α β : Type} {f : α → β} : ∀ {l : List α}, (∀ x ∈ l, ∀ y ∈ l, f x = f y → x = y) → l.Nodup → (l.map f).Nodup
  | [], _, _ => List.nodup_nil
  | a :: l, h, n => by
    rw [List.map_cons]
    rw [List.nodup_cons] at n ⊢
    refine ⟨fun m => ?_, nodup_map (fun x hx y hy => h x (List.mem_cons_of_mem _ hx) y (List.mem_cons_of_mem _ hy)) n.2⟩
    obtain ⟨b, hb, e⟩ := List.mem_map.mp m
    have := h b (List.mem_cons_of_mem _ hb) a List.mem_cons_self e
    subst this
    exact n.1 hb
theorem good_turn {a : Now} (g : Good a) : Good { a with told := a.told.map fun q => (q.2, q.1) } := by
  refine ⟨g.lo, g.hi, fun p m => ?_, nodup_map ?_ g.nd, fun x p => g.acy x (path_swap p)⟩
  · obtain ⟨q, hq, e⟩ := List.mem_map.mp m
    subst e
    exact ⟨(g.ins q hq).2, (g.ins q hq).1⟩
  · rintro ⟨x1, x2⟩ _ ⟨y1, y2⟩ _ e
    cases e
    rfl

theorem mem_pairsOf {a : Now} {p : Nat × Nat} : p ∈ a.pairsOf ↔ p.1 < a.n ∧ p.2 < a.n ∧ at_ a.table p.1 p.2 = true := by
  unfold Now.pairsOf Now.all
  simp only [List.mem_flatMap, List.mem_range, List.mem_map, List.mem_filter]
  constructor
  · rintro ⟨i, hi, j, ⟨hj, h⟩, rfl⟩
    exact ⟨hi, hj, h⟩
  · rintro ⟨hi, hj, h⟩
    exact ⟨p.1, hi, p.2, ⟨hj, h⟩, rfl⟩
theorem nodup_flatMap {α β : Type} {f : α → List β} : ∀ {l : List α}, l.Nodup → (∀ x ∈ l, (f x).Nodup) → (∀ x ∈ l, ∀ y ∈ l, x ≠ y → ∀ b, b ∈ f x → b ∉ f y) → (l.flatMap f).Nodup
  | [], _, _, _ => List.nodup_nil
  | a :: l, n, h, d => by
    rw [List.flatMap_cons, List.nodup_append]
    rw [List.nodup_cons] at n
    refine ⟨h a List.mem_cons_self, nodup_flatMap n.2 (fun x hx => h x (List.mem_cons_of_mem _ hx)) (fun x hx y hy => d x (List.mem_cons_of_mem _ hx) y (List.mem_cons_of_mem _ hy)), fun x hx y hy e => ?_⟩
    subst e
    obtain ⟨c, hc, hxc⟩ := List.mem_flatMap.mp hy
    exact d a List.mem_cons_self c (List.mem_cons_of_mem _ hc) (fun q => n.1 (q ▸ hc)) x hx hxc
theorem pairsOf_nodup (a : Now) : a.pairsOf.Nodup := by
  unfold Now.pairsOf Now.all
  refine nodup_flatMap List.nodup_range (fun i _ => nodup_map (fun x _ y _ e => (Prod.mk.inj e).2) (List.nodup_range.filter _)) ?_
  intro i _ j _ hij b h1 h2
  obtain ⟨x, _, e1⟩ := List.mem_map.mp h1
  obtain ⟨y, _, e2⟩ := List.mem_map.mp h2
  rw [← e2] at e1
  exact hij (Prod.mk.inj e1).1
/-- an event's number when i is gone -/
def down (i x : Nat) : Nat := if i < x then x - 1 else x
def up (i x : Nat) : Nat := if x < i then x else x + 1
theorem up_down {i x : Nat} (h : x ≠ i) : up i (down i x) = x := by
  unfold up down
  by_cases c : i < x
  · rw [if_pos c, if_neg (by omega)]
    omega
  · rw [if_neg c, if_pos (by omega)]
theorem good_without {a : Now} (g : Good a) {i : Nat} (hi : i < a.n) (h1 : a.n ≠ 1) :
    Good ⟨a.n - 1, (a.pairsOf.filter fun q => q.1 != i && q.2 != i).map fun q => (down i q.1, down i q.2)⟩ := by
  have mem : ∀ {q : Nat × Nat}, q ∈ (a.pairsOf.filter fun q => q.1 != i && q.2 != i) → q.1 < a.n ∧ q.2 < a.n ∧ at_ a.table q.1 q.2 = true ∧ q.1 ≠ i ∧ q.2 ≠ i := by
    intro q h
    rw [List.mem_filter, mem_pairsOf] at h
    obtain ⟨⟨x, y, z⟩, w⟩ := h
    simp only [Bool.and_eq_true, bne_iff_ne] at w
    exact ⟨x, y, z, w.1, w.2⟩
  have b := g.hi
  have bl := g.lo
  refine ⟨by show 1 ≤ a.n - 1; omega, by show a.n - 1 ≤ 6; omega, fun p m => ?_, nodup_map ?_ ((pairsOf_nodup a).filter _), fun x p => ?_⟩
  · obtain ⟨q, hq, e⟩ := List.mem_map.mp m
    subst e
    obtain ⟨x, y, _, u, v⟩ := mem hq
    show down i q.1 < a.n - 1 ∧ down i q.2 < a.n - 1
    unfold down
    constructor <;> split <;> omega
  · rintro ⟨x1, x2⟩ hx ⟨y1, y2⟩ hy e
    obtain ⟨_, _, _, u1, v1⟩ := mem hx
    obtain ⟨_, _, _, u2, v2⟩ := mem hy
    have e1 := (Prod.mk.inj e).1
    have e2 := (Prod.mk.inj e).2
    have f1 := congrArg (up i) e1
    have f2 := congrArg (up i) e2
    rw [up_down u1, up_down u2] at f1
    rw [up_down v1, up_down v2] at f2
    show (x1, x2) = (y1, y2)
    rw [show x1 = y1 from f1, show x2 = y2 from f2]
  · have key : ∀ {x y : Nat}, Path ((a.pairsOf.filter fun q => q.1 != i && q.2 != i).map fun q => (down i q.1, down i q.2)) x y → Path a.told (up i x) (up i y) := by
      intro x y p
      induction p with
      | one m =>
        obtain ⟨q, hq, e⟩ := List.mem_map.mp m
        cases e
        obtain ⟨_, _, z, u, v⟩ := mem hq
        rw [up_down u, up_down v]
        exact (table_path g.ins).mp z
      | more _ _ x y => exact .more x y
    exact g.acy _ (key p)

/-- all that is kept is good -/
structure Fine (s : Abs) : Prop where
  now : Good s.now
  past : ∀ w ∈ s.past, Good w
  few : s.past.length ≤ 10
theorem fine_to {s : Abs} (f : Fine s) {w : Now} (g : Good w) (x : Ans) : Fine (s.to_ w x).1 := by
  refine ⟨g, fun v hv => ?_, ?_⟩
  · have := List.mem_of_mem_take hv
    rcases List.mem_cons.mp this with e | e
    · rw [e]; exact f.now
    · exact f.past v e
  · show ((s.now :: s.past).take 10).length ≤ 10
    rw [List.length_take]
    omega
end Oa

/-! What is kept stays good; the orders grown event by event are the specification's. -/
namespace Oa
open Kv416

theorem no_iff {a : Now} {i : Nat} : a.no i = true ↔ a.n ≤ i := by
  unfold Now.no
  exact decide_eq_true_iff
theorem fine_does {s : Abs} (f : Fine s) (c : Call) : Fine (s.does c).1 := by
  cases c with
  | begin_ n =>
    show Fine (if n = 0 ∨ 6 < n then (s, say (-22)) else (⟨⟨n, []⟩, []⟩, say 0)).1
    split
    · exact f
    · exact ⟨good_begin (by assumption), (fun w h => by cases h), Nat.zero_le _⟩
  | tell i j =>
    show Fine (if s.now.no i ∨ s.now.no j then (s, say (-2)) else if i = j ∨ s.now.heard j i then (s, say (-35)) else if s.now.direct i j then (s, say (-17)) else s.to_ { s.now with told := s.now.told ++ [(i, j)] } (num (s.now.told.length + 1))).1
    split
    · exact f
    · rename_i h1
      split
      · exact f
      · rename_i h2
        split
        · exact f
        · rename_i h3
          rw [no_iff, no_iff] at h1
          refine fine_to f (good_tell f.now (by omega) (by omega) (fun e => h2 (Or.inl e)) ?_ ?_) _
          · cases e : s.now.heard j i with
            | false => rfl
            | true => exact absurd (Or.inr e) h2
          · cases e : s.now.direct i j with
            | false => rfl
            | true => exact absurd e h3
  | untell i j =>
    show Fine (if s.now.no i ∨ s.now.no j then (s, say (-2)) else if s.now.direct i j = false then (s, say (-33)) else s.to_ { s.now with told := s.now.told.filter fun q => q != (i, j) } (num (s.now.told.length - 1))).1
    split
    · exact f
    · split
      · exact f
      · exact fine_to f (good_sub f.now _) _
  | turn => exact fine_to f (good_turn f.now) _
  | without i =>
    show Fine (if s.now.no i then (s, say (-2)) else if s.now.n = 1 then (s, say (-6)) else s.to_ ⟨s.now.n - 1, ((s.now.pairsOf.filter fun q => q.1 != i && q.2 != i).map fun q => (down i q.1, down i q.2))⟩ (num (s.now.n - 1))).1
    split
    · exact f
    · rename_i h1
      rw [no_iff] at h1
      split
      · exact f
      · exact fine_to f (good_without f.now (by omega) (by assumption)) _
  | back =>
    obtain ⟨now, past⟩ := s
    cases past with
    | nil => exact f
    | cons w l => exact ⟨f.past w List.mem_cons_self, fun v h => f.past v (List.mem_cons_of_mem _ h), Nat.le_of_succ_le f.few⟩
  | told => exact f
  | heard i j => simp only [Abs.does]; split <;> exact f
  | pairs => exact f
  | past i => simp only [Abs.does]; split <;> exact f
  | links => exact f
  | orders => exact f
  | order k => simp only [Abs.does]; split <;> exact f
  | fits l => simp only [Abs.does]; split <;> exact f
  | first => exact f
  | sooner i j => simp only [Abs.does]; split <;> (try split) <;> exact f
  | place i => simp only [Abs.does]; split <;> exact f
  | line => simp only [Abs.does]; split <;> exact f
  | events => simp only [Abs.does]; split <;> exact f
  | fewest => exact f
  | row => exact f
  | apart => exact f
  | state => exact f
/-- before a begin there is nothing to be good -/
def FineS : State → Prop
  | none => True
  | some a => Fine a
theorem fine_act {s : State} (f : FineS s) (c : Call) : FineS (act s c).1 := by
  cases s with
  | some a => exact fine_does f c
  | none =>
    cases c with
    | begin_ n =>
      have f1 : Fine (⟨⟨1, []⟩, []⟩ : Abs) := ⟨good_begin (n := 1) (by omega), (fun w h => by cases h), Nat.zero_le _⟩
      have f2 := fine_does f1 (.begin_ n)
      show FineS (if ((Abs.mk ⟨1, []⟩ []).does (.begin_ n)).2.ret < 0 then (none, ((Abs.mk ⟨1, []⟩ []).does (.begin_ n)).2) else (some ((Abs.mk ⟨1, []⟩ []).does (.begin_ n)).1, ((Abs.mk ⟨1, []⟩ []).does (.begin_ n)).2)).1
      split
      · exact True.intro
      · exact f2
    | _ => exact True.intro

/-! ### orders -/
theorem fits_cons (t : Table) (x : Nat) (q : List Nat) : fits t (x :: q) = (q.all (fun j => !at_ t j x) && fits t q) := by
  unfold fits
  rw [List.zipIdx_cons, List.all_cons]
  congr 1
  rw [List.zipIdx_succ, List.all_map]
  rfl

/-- which events may come behind a row -/
def follows (n : Nat) (t : Table) (row : List Nat) (e : Nat) : Bool := !row.contains e && ((List.range n).filter fun j => at_ t j e).all fun j => row.contains j
def cands (n : Nat) (t : Table) (row : List Nat) : List Nat := (List.range n).filter (follows n t row)
/-- all rows longer by one -/
def longer (n : Nat) (t : Table) (rows : List (List Nat)) : List (List Nat) := rows.flatMap fun row => (cands n t row).map fun e => row ++ [e]
def grown (n : Nat) (t : Table) : Nat → List (List Nat)
  | 0 => [[]]
  | k + 1 => longer n t (grown n t k)
def ext (n : Nat) (t : Table) : Nat → List Nat → List (List Nat)
  | 0, row => [row]
  | f + 1, row => (cands n t row).flatMap fun e => ext n t f (row ++ [e])
def times (n : Nat) (t : Table) : Nat → List (List Nat) → List (List Nat)
  | 0, l => l
  | f + 1, l => times n t f (longer n t l)
theorem times_ext (n : Nat) (t : Table) : ∀ (f : Nat) (l : List (List Nat)), times n t f l = l.flatMap (ext n t f)
  | 0, l => by
    show l = l.flatMap fun row => [row]
    rw [List.flatMap_singleton']
  | f + 1, l => by
    show times n t f (longer n t l) = _
    rw [times_ext n t f, longer, List.flatMap_assoc]
    congr 1
    funext row
    rw [List.flatMap_map]
    rfl
theorem times_grown (n : Nat) (t : Table) : ∀ (f k : Nat), times n t f (grown n t k) = grown n t (k + f)
  | 0, k => rfl
  | f + 1, k => by
    show times n t f (longer n t (grown n t k)) = _
    have := times_grown n t f (k + 1)
    rw [show k + (f + 1) = k + 1 + f by omega, ← this]
    rfl
theorem grown_ext (n : Nat) (t : Table) (k : Nat) : grown n t k = ext n t k [] := by
  have := times_grown n t k 0
  rw [Nat.zero_add] at this
  rw [← this, times_ext]
  show [([] : List Nat)].flatMap (ext n t k) = _
  simp

theorem perms_perm : ∀ (f : Nat) (l : List Nat), l.Nodup → l.length = f → ∀ q ∈ perms f l, q.Perm l
  | 0, l, _, hl, q, h => by
    have e : q = [] := List.mem_singleton.mp h
    have e2 : l = [] := List.eq_nil_of_length_eq_zero hl
    rw [e, e2]
  | f + 1, l, hn, hl, q, h => by
    obtain ⟨x, hx, h⟩ := List.mem_flatMap.mp h
    obtain ⟨r, hr, e⟩ := List.mem_map.mp h
    subst e
    have he : (l.filter fun y => y != x) = l.erase x := (List.Nodup.erase_eq_filter hn x).symm
    have len : (l.filter fun y => y != x).length = f := by
      rw [he, List.length_erase_of_mem hx, hl]
      rfl
    have ih := perms_perm f _ (hn.filter _) len r hr
    rw [he] at ih
    exact (List.Perm.cons x ih).trans (List.perm_cons_erase hx).symm

theorem filter_map_ {α β : Type} (f : α → β) (p : β → Bool) (l : List α) : (l.map f).filter p = (l.filter fun a => p (f a)).map f := by
  rw [List.filter_map]
  rfl
theorem flatMap_if {α β : Type} (p : α → Bool) (g : α → List β) : ∀ (l : List α), (l.flatMap fun x => if p x then g x else []) = (l.filter p).flatMap g
  | [] => rfl
  | a :: l => by
    rw [List.flatMap_cons, flatMap_if p g l, List.filter_cons]
    cases p a <;> rfl
theorem flatMap_congr_ {α β : Type} {f g : α → List β} : ∀ {l : List α}, (∀ x ∈ l, f x = g x) → l.flatMap f = l.flatMap g
  | [], _ => rfl
  | a :: l, h => by
    rw [List.flatMap_cons, List.flatMap_cons, h a List.mem_cons_self, flatMap_congr_ fun x hx => h x (List.mem_cons_of_mem _ hx)]

/-- what is not yet in the row -/
def rest (n : Nat) (row : List Nat) : List Nat := (List.range n).filter fun x => !row.contains x
theorem rest_snoc {n : Nat} {row : List Nat} {e : Nat} : rest n (row ++ [e]) = (rest n row).filter fun y => y != e := by
  unfold rest
  rw [List.filter_filter]
  congr 1
  funext x
  have : (row ++ [e]).contains x = (row.contains x || x == e) := by
    rw [Bool.eq_iff_iff]
    simp [List.contains_eq_mem]
  rw [this]
  show (!(row.contains x || x == e)) = ((!(x == e)) && !row.contains x)
  cases row.contains x <;> cases (x == e) <;> rfl
theorem mem_rest {n : Nat} {row : List Nat} {x : Nat} : x ∈ rest n row ↔ x < n ∧ x ∉ row := by
  unfold rest
  simp [List.mem_filter, List.contains_eq_mem]

/-- a row is closed: of whom one has heard at one of it stands in it -/
theorem ext_perms {n : Nat} {t : Table} (s : Sq n t) (irr : ∀ i, at_ t i i = false) :
    ∀ (f : Nat) (row : List Nat), (rest n row).length = f → ext n t f row = ((perms f (rest n row)).filter (fits t)).map fun q => row ++ q
  | 0, row, _ => by
    show [row] = (([[]] : List (List Nat)).filter (fits t)).map fun q => row ++ q
    have : fits t [] = true := rfl
    simp [this]
  | f + 1, row, hl => by
    have nd : (rest n row).Nodup := List.nodup_range.filter _
    have hc : cands n t row = (rest n row).filter fun x => ((rest n row).filter fun y => y != x).all fun j => !at_ t j x := by
      unfold cands
      have : ∀ x, follows n t row x = ((!row.contains x) && ((rest n row).filter fun y => y != x).all fun j => !at_ t j x) := by
        intro x
        unfold follows
        congr 1
        rw [Bool.eq_iff_iff, List.all_eq_true, List.all_eq_true]
        constructor
        · intro h j hj
          rw [List.mem_filter, mem_rest] at hj
          cases e : at_ t j x with
          | false => rfl
          | true =>
            have := h j (List.mem_filter.mpr ⟨List.mem_range.mpr hj.1.1, e⟩)
            exact absurd (List.contains_iff_mem.mp this) hj.1.2
        · intro h j hj
          rw [List.mem_filter, List.mem_range] at hj
          apply List.contains_iff_mem.mpr
          apply Classical.byContradiction
          intro hn
          have hne : j ≠ x := fun e => by
            have := hj.2
            rw [e, irr] at this
            cases this
          have := h j (List.mem_filter.mpr ⟨mem_rest.mpr ⟨hj.1, hn⟩, bne_iff_ne.mpr hne⟩)
          rw [hj.2] at this
          cases this
      rw [show follows n t row = fun x => ((!row.contains x) && ((rest n row).filter fun y => y != x).all fun j => !at_ t j x) from funext this]
      rw [show (rest n row).filter (fun x => ((rest n row).filter fun y => y != x).all fun j => !at_ t j x) = ((List.range n).filter fun x => !row.contains x).filter (fun x => ((rest n row).filter fun y => y != x).all fun j => !at_ t j x) from rfl]
      rw [List.filter_filter]
      congr 1
      funext x
      rw [Bool.and_comm]
    show (cands n t row).flatMap (fun e => ext n t f (row ++ [e])) = (((rest n row).flatMap fun x => (perms f ((rest n row).filter fun y => y != x)).map fun q => x :: q).filter (fits t)).map fun q => row ++ q
    rw [hc, ← flatMap_if, List.filter_flatMap, List.map_flatMap]
    apply flatMap_congr_
    intro x hx
    have he : ((rest n row).filter fun y => y != x) = (rest n row).erase x := (List.Nodup.erase_eq_filter nd x).symm
    have len : ((rest n row).filter fun y => y != x).length = f := by
      rw [he, List.length_erase_of_mem hx, hl]
      rfl
    rw [filter_map_, List.map_map]
    have hall : ∀ q ∈ perms f ((rest n row).filter fun y => y != x), fits t (x :: q) = ((((rest n row).filter fun y => y != x).all fun j => !at_ t j x) && fits t q) := by
      intro q hq
      have hp := perms_perm f _ (nd.filter _) len q hq
      rw [fits_cons]
      congr 1
      rw [Bool.eq_iff_iff, List.all_eq_true, List.all_eq_true]
      constructor
      · intro h j hj
        exact h j (hp.mem_iff.mpr hj)
      · intro h j hj
        exact h j (hp.mem_iff.mp hj)
    rw [List.filter_congr hall]
    cases hb : (((rest n row).filter fun y => y != x).all fun j => !at_ t j x) with
    | false => simp
    | true =>
      have ih := ext_perms s irr f (row ++ [x]) (by rw [rest_snoc]; exact len)
      rw [rest_snoc] at ih
      rw [if_pos rfl, ih]
      have e1 : (fun q => true && fits t q) = fits t := by funext q; rw [Bool.true_and]
      rw [e1]
      apply List.map_congr_left
      intro q _
      show row ++ [x] ++ q = row ++ (x :: q)
      rw [List.append_assoc]
      rfl
/-- the orders grown event by event are the specification's -/
theorem orders_grown {a : Now} (g : Good a) : grown a.n a.table a.n = a.orders := by
  have e : rest a.n [] = List.range a.n := by
    unfold rest
    exact List.filter_eq_self.mpr fun x _ => rfl
  rw [grown_ext, ext_perms (table_sq a) g.irr a.n [] (by rw [e, List.length_range]), e]
  show ((perms a.n (List.range a.n)).filter (fits a.table)).map (fun q => [] ++ q) = _
  simp only [List.nil_append, List.map_id']
  rfl
/-- no more than 720 -/
theorem perms_length : ∀ (f : Nat) (l : List Nat), l.Nodup → l.length = f → (perms f l).length = Nat.recOn f 1 (fun k r => (k + 1) * r)
  | 0, _, _, _ => rfl
  | f + 1, l, hn, hl => by
    show (l.flatMap fun x => (perms f (l.filter fun y => y != x)).map fun q => x :: q).length = (f + 1) * Nat.recOn f 1 (fun k r => (k + 1) * r)
    rw [List.length_flatMap]
    have : ∀ x ∈ l, ((perms f (l.filter fun y => y != x)).map fun q => x :: q).length = Nat.recOn f 1 (fun k r => (k + 1) * r) := by
      intro x hx
      rw [List.length_map]
      apply perms_length f _ (hn.filter _)
      have he : (l.filter fun y => y != x) = l.erase x := (List.Nodup.erase_eq_filter hn x).symm
      rw [he, List.length_erase_of_mem hx, hl]
      rfl
    rw [List.map_congr_left this, List.map_const', List.sum_replicate_nat, hl]
theorem orders_few {a : Now} (g : Good a) : a.orders.length ≤ 720 := by
  have h : a.orders.length ≤ (perms a.n a.all).length := List.length_filter_le _ _
  rw [perms_length a.n a.all List.nodup_range List.length_range] at h
  refine Nat.le_trans h ?_
  have lo := g.lo
  have hi := g.hi
  generalize a.n = n at lo hi
  match n, lo, hi with
  | 1, _, _ => decide
  | 2, _, _ => decide
  | 3, _, _ => decide
  | 4, _, _ => decide
  | 5, _, _ => decide
  | 6, _, _ => decide
theorem orders_perm {a : Now} {q : List Nat} (h : q ∈ a.orders) : q.Perm (List.range a.n) :=
  perms_perm a.n a.all List.nodup_range List.length_range q (List.mem_filter.mp h).1
end Oa

/-! More of the specification: there is always an order; the other order; the most in a row, apart. -/
namespace Oa
open Kv416

/-! ### there is always one -/
theorem least {t : Table} (irr : ∀ i, at_ t i i = false) (tr : ∀ i j k, at_ t i j = true → at_ t j k = true → at_ t i k = true) : ∀ (l : List Nat), l ≠ [] → ∃ x ∈ l, ∀ j ∈ l, at_ t j x = false
  | [], h => absurd rfl h
  | [a], _ => ⟨a, List.mem_cons_self, fun j hj => by rw [List.mem_singleton.mp hj]; exact irr a⟩
  | a :: b :: l, _ => by
    obtain ⟨x, hx, h⟩ := least irr tr (b :: l) (by simp)
    cases e : at_ t a x with
    | false =>
      refine ⟨x, List.mem_cons_of_mem _ hx, fun j hj => ?_⟩
      rcases List.mem_cons.mp hj with rfl | hj
      · exact e
      · exact h j hj
    | true =>
      refine ⟨a, List.mem_cons_self, fun j hj => ?_⟩
      rcases List.mem_cons.mp hj with rfl | hj
      · exact irr j
      · cases q : at_ t j a with
        | false => rfl
        | true =>
          have := tr j a x q e
          rw [h j hj] at this
          cases this
theorem ext_ne {n : Nat} {t : Table} (irr : ∀ i, at_ t i i = false) (tr : ∀ i j k, at_ t i j = true → at_ t j k = true → at_ t i k = true) : ∀ (f : Nat) (row : List Nat), (rest n row).length = f → ext n t f row ≠ []
  | 0, row, _ => by simp [ext]
  | f + 1, row, hl => by
    have hne : rest n row ≠ [] := fun z => by rw [z] at hl; cases hl
    obtain ⟨x, hx, h⟩ := least irr tr (rest n row) hne
    have hxr := mem_rest.mp hx
    have hc : x ∈ cands n t row := by
      unfold cands
      refine List.mem_filter.mpr ⟨List.mem_range.mpr hxr.1, ?_⟩
      unfold follows
      rw [Bool.and_eq_true]
      refine ⟨by simpa using hxr.2, List.all_eq_true.mpr fun j hj => ?_⟩
      rw [List.mem_filter, List.mem_range] at hj
      apply List.contains_iff_mem.mpr
      apply Classical.byContradiction
      intro hn
      have := h j (mem_rest.mpr ⟨hj.1, hn⟩)
      rw [hj.2] at this
      cases this
    have nd : (rest n row).Nodup := List.nodup_range.filter _
    have len : (rest n (row ++ [x])).length = f := by
      rw [rest_snoc, ← List.Nodup.erase_eq_filter nd x, List.length_erase_of_mem hx, hl]
      rfl
    have ih := ext_ne irr tr f (row ++ [x]) len
    intro z
    have z : (cands n t row).flatMap (fun e => ext n t f (row ++ [e])) = [] := z
    rw [List.flatMap_eq_nil_iff] at z
    exact ih (z x hc)
theorem orders_ne {a : Now} (g : Good a) : a.orders ≠ [] := by
  rw [← orders_grown g, grown_ext]
  refine ext_ne g.irr (fun i j k => g.trans) a.n [] ?_
  have e : rest a.n [] = List.range a.n := List.filter_eq_self.mpr fun x _ => rfl
  rw [e, List.length_range]
theorem orders_pos {a : Now} (g : Good a) : 0 < a.orders.length := List.length_pos_iff.mpr (orders_ne g)

/-! ### sets in order: that one first which has the least number that not both have; and the longer ahead of its beginning -/
def Bef : List Nat → List Nat → Prop
  | [], _ => False
  | _ :: _, [] => True
  | x :: s, y :: t => x < y ∨ (x = y ∧ Bef s t)
theorem Bef.irr : ∀ (s : List Nat), ¬ Bef s s
  | [], h => h
  | x :: s, h => by
    rcases h with h | ⟨_, h⟩
    · omega
    · exact Bef.irr s h
theorem Bef.asymm : ∀ {s t : List Nat}, Bef s t → ¬ Bef t s
  | [], _, h, _ => h
  | _ :: _, [], _, h => h
  | x :: s, y :: t, h1, h2 => by
    rcases h1 with h1 | ⟨e1, h1⟩
    · rcases h2 with h2 | ⟨e2, _⟩
      · omega
      · omega
    · rcases h2 with h2 | ⟨_, h2⟩
      · omega
      · exact Bef.asymm h1 h2
theorem mem_subsets : ∀ {l s : List Nat}, s ∈ subsets l ↔ s.Sublist l
  | [], s => by
    show s ∈ [[]] ↔ _
    rw [List.mem_singleton, List.sublist_nil]
  | x :: l, s => by
    show s ∈ (subsets l).map (fun s => x :: s) ++ subsets l ↔ _
    rw [List.mem_append, List.mem_map, mem_subsets (l := l) (s := s)]
    constructor
    · rintro (⟨q, hq, rfl⟩ | h)
      · exact List.Sublist.cons_cons x (mem_subsets.mp hq)
      · exact List.Sublist.cons x h
    · intro h
      cases h with
      | cons _ h => exact Or.inr h
      | cons_cons _ h => exact Or.inl ⟨_, mem_subsets.mpr h, rfl⟩
theorem subsets_bef : ∀ {l : List Nat}, l.Pairwise (· < ·) → (subsets l).Pairwise Bef
  | [], _ => List.pairwise_singleton _ _
  | x :: l, h => by
    rw [List.pairwise_cons] at h
    show ((subsets l).map (fun s => x :: s) ++ subsets l).Pairwise Bef
    rw [List.pairwise_append]
    have ih := subsets_bef h.2
    refine ⟨?_, ih, fun s hs t ht => ?_⟩
    · rw [List.pairwise_map]
      exact ih.imp fun hb => Or.inr ⟨rfl, hb⟩
    · obtain ⟨q, _, rfl⟩ := List.mem_map.mp hs
      cases t with
      | nil => exact True.intro
      | cons y t =>
        have : y ∈ l := (mem_subsets.mp ht).subset List.mem_cons_self
        exact Or.inl (h.1 y this)
/-- the longest; of as many the first by that order -/
def IsBest (L : List (List Nat)) (s : List Nat) : Prop := s ∈ L ∧ ∀ q ∈ L, q.length < s.length ∨ (q.length = s.length ∧ (q = s ∨ Bef s q))
theorem IsBest.unique {L : List (List Nat)} {s q : List Nat} (h1 : IsBest L s) (h2 : IsBest L q) : s = q := by
  rcases h1.2 q h2.1 with a | ⟨a, b | b⟩
  · rcases h2.2 s h1.1 with c | ⟨c, _⟩ <;> omega
  · exact b.symm
  · rcases h2.2 s h1.1 with c | ⟨c, d | d⟩
    · omega
    · exact d
    · exact absurd d b.asymm
def pick (b s : List Nat) : List Nat := if b.length < s.length then s else b
theorem best_go : ∀ (L : List (List Nat)) (b : List Nat), L.Pairwise Bef → (∀ q ∈ L, q.length = b.length → q = b ∨ Bef b q) →
    let r := L.foldl pick b
    (r = b ∨ r ∈ L) ∧ b.length ≤ r.length ∧ (b.length = r.length → r = b) ∧ ∀ q ∈ L, q.length < r.length ∨ (q.length = r.length ∧ (q = r ∨ Bef r q))
  | [], b, _, _ => ⟨Or.inl rfl, Nat.le_refl _, fun _ => rfl, by simp⟩
  | s :: L, b, hp, hb => by
    rw [List.pairwise_cons] at hp
    rw [List.foldl_cons]
    by_cases h : b.length < s.length
    · rw [show pick b s = s from if_pos h]
      obtain ⟨h1, h2, h3, h4⟩ := best_go L s hp.2 fun q hq _ => Or.inr (hp.1 q hq)
      refine ⟨?_, by omega, fun z => by omega, fun q hq => ?_⟩
      · rcases h1 with h1 | h1
        · exact Or.inr (by rw [h1]; exact List.mem_cons_self)
        · exact Or.inr (List.mem_cons_of_mem _ h1)
      · rcases List.mem_cons.mp hq with rfl | hq
        · rcases Nat.lt_or_ge q.length (L.foldl pick q).length with z | z
          · exact Or.inl z
          · have := h3 (by omega)
            exact Or.inr ⟨by omega, Or.inl this.symm⟩
        · exact h4 q hq
    · rw [show pick b s = b from if_neg h]
      obtain ⟨h1, h2, h3, h4⟩ := best_go L b hp.2 fun q hq => hb q (List.mem_cons_of_mem _ hq)
      refine ⟨?_, h2, h3, fun q hq => ?_⟩
      · rcases h1 with h1 | h1
        · exact Or.inl h1
        · exact Or.inr (List.mem_cons_of_mem _ h1)
      · rcases List.mem_cons.mp hq with rfl | hq
        · rcases Nat.lt_or_ge q.length (L.foldl pick b).length with z | z
          · exact Or.inl z
          · have e : b.length = (L.foldl pick b).length := by omega
            have e2 := h3 e
            refine Or.inr ⟨by omega, ?_⟩
            rw [e2]
            exact hb q List.mem_cons_self (by omega)
        · exact h4 q hq
theorem best_is {L : List (List Nat)} (hp : L.Pairwise Bef) (hn : [] ∈ L) : IsBest L (best L) := by
  have h := best_go L [] hp fun q hq hl => Or.inl (List.eq_nil_of_length_eq_zero hl)
  obtain ⟨h1, h2, h3, h4⟩ := h
  refine ⟨?_, h4⟩
  rcases h1 with h1 | h1
  · have : best L = [] := h1
    rw [this]
    exact hn
  · exact h1
theorem range_lt (n : Nat) : (List.range n).Pairwise (· < ·) := List.pairwise_lt_range
/-- what the specification's most is -/
theorem most_is (n : Nat) (P : List Nat → Bool) (h : P [] = true) {s : List Nat} (hs : s.Sublist (List.range n)) (hP : P s = true)
    (hm : ∀ q : List Nat, q.Sublist (List.range n) → P q = true → q.length < s.length ∨ (q.length = s.length ∧ (q = s ∨ Bef s q))) : best ((subsets (List.range n)).filter P) = s := by
  refine IsBest.unique (best_is ((subsets_bef (range_lt n)).filter _) (List.mem_filter.mpr ⟨mem_subsets.mpr (List.nil_sublist _), h⟩)) ⟨List.mem_filter.mpr ⟨mem_subsets.mpr hs, hP⟩, fun q hq => ?_⟩
  rw [List.mem_filter, mem_subsets] at hq
  exact hm q hq.1 hq.2
end Oa

/-! The other order that goes with one: it is the one order, if there is any, in which any two stand as they should. -/
namespace Oa
open Kv416

theorem le_of_nodup {α : Type} [BEq α] [LawfulBEq α] : ∀ {l m : List α}, l.Nodup → (∀ x ∈ l, x ∈ m) → l.length ≤ m.length
  | [], _, _, _ => Nat.zero_le _
  | a :: l, m, n, h => by
    rw [List.nodup_cons] at n
    have ha := h a List.mem_cons_self
    have := le_of_nodup (l := l) (m := m.erase a) n.2 fun x hx => (List.mem_erase_of_ne (show x ≠ a from fun z => n.1 (by rw [← z]; exact hx))).mpr (h x (List.mem_cons_of_mem _ hx))
    rw [List.length_erase_of_mem ha] at this
    have hp : 0 < m.length := List.length_pos_of_mem ha
    show l.length + 1 ≤ m.length
    omega
theorem perm_of {l m : List Nat} (h1 : l.Nodup) (h2 : m.Nodup) (hs : ∀ x ∈ l, x ∈ m) (hl : l.length = m.length) : l.Perm m := by
  rw [List.perm_ext_iff_of_nodup h1 h2]
  intro a
  refine ⟨hs a, fun ha => ?_⟩
  apply Classical.byContradiction
  intro hn
  have := le_of_nodup (l := a :: l) (m := m) (List.nodup_cons.mpr ⟨hn, h1⟩) fun x hx => by
    rcases List.mem_cons.mp hx with rfl | hx
    · exact ha
    · exact hs x hx
  rw [List.length_cons] at this
  omega
theorem idx_lt {l : List Nat} {x : Nat} (h : x ∈ l) : l.idxOf x < l.length := List.idxOf_lt_length_of_mem h
theorem idx_inj {l : List Nat} {x y : Nat} (hx : x ∈ l) (hy : y ∈ l) (h : l.idxOf x = l.idxOf y) : x = y := by
  have e1 := List.getElem_idxOf (idx_lt hx)
  have e2 := List.getElem_idxOf (idx_lt hy)
  rw [← e1, ← e2]
  congr 1
theorem filter_idx : ∀ {l : List Nat}, l.Nodup → ∀ (k : Nat), (l.filter fun j => decide (l.idxOf j < k)) = l.take k
  | [], _, k => by simp
  | a :: l, n, 0 => by
    rw [List.take_zero, List.filter_eq_nil_iff]
    intro j _
    simp
  | a :: l, n, k + 1 => by
    rw [List.nodup_cons] at n
    rw [List.take_succ_cons, List.filter_cons, if_pos (by simp), ← filter_idx n.2 k]
    congr 1
    apply List.filter_congr
    intro j hj
    have hne : j ≠ a := fun z => n.1 (by rw [← z]; exact hj)
    have hb : (a == j) = false := by
      rw [beq_eq_false_iff_ne]
      exact fun z => hne z.symm
    rw [List.idxOf_cons, hb]
    exact decide_eq_decide.mpr (by show l.idxOf j + 1 < k + 1 ↔ _; omega)
/-- l goes with o -/
def Goes (n : Nat) (t : Table) (o l : List Nat) : Prop := l.Perm (List.range n) ∧ ∀ i j, i < n → j < n → i ≠ j → ahead t o i j = decide (l.idxOf i < l.idxOf j)
/-- how many are ahead of one -/
def aheads (n : Nat) (t : Table) (o : List Nat) (i : Nat) : Nat := ((List.range n).filter fun j => j != i && ahead t o j i).length
theorem goes_mem {n : Nat} {t : Table} {o l : List Nat} (g : Goes n t o l) {i : Nat} : i ∈ l ↔ i < n := by
  rw [g.1.mem_iff, List.mem_range]
theorem goes_nodup {n : Nat} {t : Table} {o l : List Nat} (g : Goes n t o l) : l.Nodup := g.1.nodup_iff.mpr List.nodup_range
theorem goes_len {n : Nat} {t : Table} {o l : List Nat} (g : Goes n t o l) : l.length = n := by
  have := g.1.length_eq
  rw [List.length_range] at this
  exact this
theorem goes_aheads {n : Nat} {t : Table} {o l : List Nat} (g : Goes n t o l) {i : Nat} (hi : i < n) : aheads n t o i = l.idxOf i := by
  unfold aheads
  have e1 : ((List.range n).filter fun j => j != i && ahead t o j i) = (List.range n).filter fun j => decide (l.idxOf j < l.idxOf i) := by
    apply List.filter_congr
    intro j hj
    rw [List.mem_range] at hj
    by_cases h : j = i
    · subst h
      simp
    · rw [g.2 j i hj hi h, bne_iff_ne.mpr h, Bool.true_and]
  rw [e1, ← (g.1.filter _).length_eq, filter_idx (goes_nodup g), List.length_take, goes_len g]
  have := idx_lt ((goes_mem g).mpr hi)
  rw [goes_len g] at this
  omega
theorem find_one {L : List Nat} {p : Nat → Bool} {x : Nat} (hx : x ∈ L) (hp : p x = true) (hu : ∀ y ∈ L, p y = true → y = x) : L.find? p = some x := by
  cases e : L.find? p with
  | none =>
    have := List.find?_eq_none.mp e x hx
    exact absurd hp this
  | some y => rw [hu y (List.mem_of_find?_eq_some e) (List.find?_some e)]
theorem filterMap_all {α : Type} {f : Nat → Option α} {g : Nat → α} : ∀ {L : List Nat}, (∀ x ∈ L, f x = some (g x)) → L.filterMap f = L.map g
  | [], _ => rfl
  | a :: L, h => by
    rw [List.filterMap_cons, h a List.mem_cons_self, List.map_cons, filterMap_all fun x hx => h x (List.mem_cons_of_mem _ hx)]
theorem map_getD (l : List Nat) : (List.range l.length).map (fun k => l.getD k 0) = l := by
  apply List.ext_getElem (by simp)
  intro i h1 h2
  simp [List.getD, h2]
/-- the specification's places -/
def placed (n : Nat) (c : List Nat) : List Nat := (List.range n).filterMap fun k => (List.range n).find? fun i => c.getD i 0 == k
theorem other_eq (n : Nat) (t : Table) (o : List Nat) : other n t o = if (placed n ((List.range n).map (aheads n t o))).length = n ∧ ((List.range n).all fun i => (List.range n).all fun j => i == j || (ahead t o i j == decide ((placed n ((List.range n).map (aheads n t o))).idxOf i < (placed n ((List.range n).map (aheads n t o))).idxOf j))) = true
    then some (placed n ((List.range n).map (aheads n t o))) else none := rfl
theorem count_at {n : Nat} {f : Nat → Nat} {i : Nat} (hi : i < n) : ((List.range n).map f).getD i 0 = f i := by
  simp [List.getD, hi]
theorem goes_placed {n : Nat} {t : Table} {o l : List Nat} (g : Goes n t o l) : placed n ((List.range n).map (aheads n t o)) = l := by
  unfold placed
  have hl := goes_len g
  have nd := goes_nodup g
  rw [filterMap_all (g := fun k => l.getD k 0) fun k hk => ?_]
  · have := map_getD l
    rw [hl] at this
    exact this
  · rw [List.mem_range] at hk
    have hk' : k < l.length := by rw [hl]; exact hk
    have hm : l.getD k 0 ∈ l := by
      rw [getD_lt hk']
      exact List.getElem_mem hk'
    have hn := (goes_mem g).mp hm
    have hx : l.idxOf (l.getD k 0) = k := by
      rw [getD_lt hk']
      exact List.Nodup.idxOf_getElem nd k hk'
    refine find_one (List.mem_range.mpr hn) ?_ fun y hy hp => ?_
    · rw [count_at hn, goes_aheads g hn, hx, beq_iff_eq]
    · rw [List.mem_range] at hy
      rw [count_at hy, goes_aheads g hy, beq_iff_eq] at hp
      exact idx_inj ((goes_mem g).mpr hy) hm (by rw [hp, hx])
theorem other_of {n : Nat} {t : Table} {o l : List Nat} (g : Goes n t o l) : other n t o = some l := by
  rw [other_eq, goes_placed g, if_pos]
  refine ⟨goes_len g, List.all_eq_true.mpr fun i hi => List.all_eq_true.mpr fun j hj => ?_⟩
  rw [List.mem_range] at hi hj
  by_cases h : i = j
  · rw [Bool.or_eq_true]
    exact Or.inl (beq_iff_eq.mpr h)
  · rw [g.2 i j hi hj h, beq_self_eq_true, Bool.or_true]
theorem nodup_filterMap {α β : Type} {f : α → Option β} : ∀ {l : List α}, l.Nodup → (∀ x ∈ l, ∀ y ∈ l, ∀ b, f x = some b → f y = some b → x = y) → (l.filterMap f).Nodup
  | [], _, _ => List.nodup_nil
  | a :: l, n, h => by
    rw [List.nodup_cons] at n
    have ih := nodup_filterMap n.2 fun x hx y hy => h x (List.mem_cons_of_mem _ hx) y (List.mem_cons_of_mem _ hy)
    rw [List.filterMap_cons]
    cases e : f a with
    | none => exact ih
    | some b =>
      refine List.nodup_cons.mpr ⟨fun m => ?_, ih⟩
      obtain ⟨y, hy, hf⟩ := List.mem_filterMap.mp m
      have := h a List.mem_cons_self y (List.mem_cons_of_mem _ hy) b e hf
      exact n.1 (this ▸ hy)
theorem of_other {n : Nat} {t : Table} {o l : List Nat} (h : other n t o = some l) : Goes n t o l := by
  rw [other_eq] at h
  split at h
  · rename_i hc
    cases h
    refine ⟨perm_of (nodup_filterMap List.nodup_range fun x _ y _ b hx hy => ?_) List.nodup_range (fun x hx => ?_) (by rw [List.length_range]; exact hc.1), fun i j hi hj hij => ?_⟩
    · have h1 := List.find?_some hx
      have h2 := List.find?_some hy
      rw [beq_iff_eq] at h1 h2
      omega
    · obtain ⟨k, _, hf⟩ := List.mem_filterMap.mp hx
      exact List.mem_of_find?_eq_some hf
    · have h1 := List.all_eq_true.mp hc.2 i (List.mem_range.mpr hi)
      have h2 := List.all_eq_true.mp h1 j (List.mem_range.mpr hj)
      rw [Bool.or_eq_true] at h2
      rcases h2 with h2 | h2
      · exact absurd (beq_iff_eq.mp h2) hij
      · exact beq_iff_eq.mp h2
  · cases h
theorem other_none {n : Nat} {t : Table} {o : List Nat} (h : ∀ l, ¬ Goes n t o l) : other n t o = none := by
  cases e : other n t o with
  | none => rfl
  | some l => exact absurd (of_other e) (h l)
end Oa

set_option linter.all false
/-! Which of two comes ahead, counted: if the counts are all the places, it is an order. -/
namespace Oa
open Kv416

theorem perm_of2 : ∀ {a b : List Nat}, a.Nodup → (∀ x ∈ a, x ∈ b) → a.length = b.length → a.Perm b
  | [], b, _, _, hl => by
    rw [List.eq_nil_of_length_eq_zero hl.symm]
  | x :: a, b, n, h, hl => by
    rw [List.nodup_cons] at n
    have hx := h x List.mem_cons_self
    have hp : 0 < b.length := List.length_pos_of_mem hx
    have ih := perm_of2 (a := a) (b := b.erase x) n.2 (fun y hy => (List.mem_erase_of_ne (show y ≠ x from fun z => n.1 (by rw [← z]; exact hy))).mpr (h y (List.mem_cons_of_mem _ hy))) (by
      rw [List.length_erase_of_mem hx]
      rw [List.length_cons] at hl
      omega)
    exact (List.Perm.cons x ih).trans (List.perm_cons_erase hx).symm
theorem below_len {n m : Nat} (h : m ≤ n) : ((List.range n).filter fun x => decide (x < m)).length = m := by
  have := filter_idx (l := List.range n) List.nodup_range m
  have e : ((List.range n).filter fun j => decide ((List.range n).idxOf j < m)) = (List.range n).filter fun x => decide (x < m) := by
    apply List.filter_congr
    intro x hx
    rw [List.mem_range] at hx
    have : (List.range n).idxOf x = x := by
      have h1 := List.Nodup.idxOf_getElem (List.nodup_range (n := n)) x (by rw [List.length_range]; exact hx)
      rw [List.getElem_range] at h1
      exact h1
    rw [this]
  rw [← e, this, List.length_take, List.length_range]
  omega
/-- as many have less than m as there are places below m -/
theorem score_below {n : Nat} {c : Nat → Nat} (hp : ((List.range n).map c).Perm (List.range n)) {m : Nat} (h : m ≤ n) : ((List.range n).filter fun i => decide (c i < m)).length = m := by
  have h1 := (hp.filter fun x => decide (x < m)).length_eq
  rw [below_len h, filter_map_, List.length_map] at h1
  exact h1
theorem score_inj {n : Nat} {c : Nat → Nat} (hp : ((List.range n).map c).Perm (List.range n)) {i j : Nat} (hi : i < n) (hj : j < n) (h : c i = c j) : i = j := by
  have nd : ((List.range n).map c).Nodup := hp.nodup_iff.mpr List.nodup_range
  have e1 : ((List.range n).map c)[i]'(by simpa using hi) = c i := by simp
  have e2 : ((List.range n).map c)[j]'(by simpa using hj) = c j := by simp
  have h1 := List.Nodup.idxOf_getElem nd i (by simpa using hi)
  have h2 := List.Nodup.idxOf_getElem nd j (by simpa using hj)
  rw [e1] at h1
  rw [e2] at h2
  rw [← h1, ← h2, h]
theorem score_lt {n : Nat} {c : Nat → Nat} (hp : ((List.range n).map c).Perm (List.range n)) {i : Nat} (hi : i < n) : c i < n := by
  have : c i ∈ (List.range n).map c := List.mem_map.mpr ⟨i, List.mem_range.mpr hi, rfl⟩
  exact List.mem_range.mp (hp.mem_iff.mp this)
/-- a relation that tells of any two which is ahead, and whose counts are all places, goes by the counts -/
theorem score_goes {n : Nat} {R : Nat → Nat → Bool} {c : Nat → Nat} (hc : ∀ i, i < n → c i = ((List.range n).filter fun j => j != i && R j i).length) (anti : ∀ i j, i < n → j < n → i ≠ j → R i j = !R j i)
    (hp : ((List.range n).map c).Perm (List.range n)) : ∀ (d j : Nat), j < n → n - c j = d → ∀ i, i < n → c i < c j → R i j = true := by
  intro d
  induction d using Nat.strongRecOn with
  | _ d ih =>
    intro j hj hd i hi hlt
    have hcj := score_lt hp hj
    have sub : ∀ x ∈ (List.range n).filter (fun x => x != j && R x j), x ∈ (List.range n).filter fun x => decide (c x < c j) := by
      intro x hx
      rw [List.mem_filter, List.mem_range, Bool.and_eq_true, bne_iff_ne] at hx
      obtain ⟨hx, hne, hr⟩ := hx
      rw [List.mem_filter, List.mem_range]
      refine ⟨hx, decide_eq_true ?_⟩
      apply Classical.byContradiction
      intro hn
      have hcx := score_lt hp hx
      have hne2 : c x ≠ c j := fun z => hne (score_inj hp hx hj z)
      have := ih (n - c x) (by omega) x hx rfl j hj (by omega)
      rw [anti j x hj hx (fun z => hne z.symm), hr] at this
      cases this
    have nd1 : ((List.range n).filter fun x => x != j && R x j).Nodup := List.nodup_range.filter _
    have len : ((List.range n).filter fun x => x != j && R x j).length = ((List.range n).filter fun x => decide (c x < c j)).length := by
      rw [score_below hp (by omega), ← hc j hj]
    have pm := perm_of2 nd1 sub len
    have : i ∈ (List.range n).filter fun x => decide (c x < c j) := List.mem_filter.mpr ⟨List.mem_range.mpr hi, decide_eq_true hlt⟩
    have := pm.mem_iff.mpr this
    rw [List.mem_filter, Bool.and_eq_true] at this
    exact this.2.2
/-- the order of the counts -/
def inv (n : Nat) (cl : List Nat) : List Nat := (List.range n).map fun k => cl.idxOf k
theorem inv_perm {n : Nat} {cl : List Nat} (hp : cl.Perm (List.range n)) : (inv n cl).Perm (List.range n) := by
  have hl : cl.length = n := by rw [hp.length_eq, List.length_range]
  refine perm_of2 ?_ ?_ ?_
  · unfold inv
    rw [List.Nodup, List.pairwise_map]
    refine (List.nodup_range (n := n)).imp_of_mem fun {a b} ha hb hne z => hne ?_
    exact idx_inj (hp.mem_iff.mpr ha) (hp.mem_iff.mpr hb) z
  · intro x hx
    obtain ⟨k, hk, rfl⟩ := List.mem_map.mp hx
    rw [List.mem_range]
    have := idx_lt (hp.mem_iff.mpr hk)
    omega
  · unfold inv
    rw [List.length_map]
theorem inv_idx {n : Nat} {c : Nat → Nat} (hp : ((List.range n).map c).Perm (List.range n)) {i : Nat} (hi : i < n) : (inv n ((List.range n).map c)).idxOf i = c i := by
  have nd : ((List.range n).map c).Nodup := hp.nodup_iff.mpr List.nodup_range
  have ndi : (inv n ((List.range n).map c)).Nodup := (inv_perm hp).nodup_iff.mpr List.nodup_range
  have hci := score_lt hp hi
  have h1 : ((List.range n).map c).idxOf (c i) = i := by
    have e1 : ((List.range n).map c)[i]'(by simpa using hi) = c i := by simp
    have h1 := List.Nodup.idxOf_getElem nd i (by simpa using hi)
    rw [e1] at h1
    exact h1
  have hl : c i < (inv n ((List.range n).map c)).length := by
    unfold inv
    simpa using hci
  have h2 : (inv n ((List.range n).map c))[c i]'hl = i := by
    have e : (inv n ((List.range n).map c))[c i]? = some i := by
      show ((List.range n).map fun k => ((List.range n).map c).idxOf k)[c i]? = some i
      rw [List.getElem?_map, List.getElem?_range hci]
      exact congrArg some h1
    exact (List.getElem?_eq_some_iff.mp e).2
  have h3 := List.Nodup.idxOf_getElem ndi (c i) hl
  rw [h2] at h3
  exact h3
theorem ahead_anti {a : Now} (g : Good a) {o : List Nat} (ho : o.Perm (List.range a.n)) {i j : Nat} (hi : i < a.n) (hj : j < a.n) (hij : i ≠ j) : ahead a.table o i j = !ahead a.table o j i := by
  have hmi : i ∈ o := ho.mem_iff.mpr (List.mem_range.mpr hi)
  have hmj : j ∈ o := ho.mem_iff.mpr (List.mem_range.mpr hj)
  have hne : o.idxOf i ≠ o.idxOf j := fun z => hij (idx_inj hmi hmj z)
  have hnot : ¬ (at_ a.table i j = true ∧ at_ a.table j i = true) := fun ⟨h1, h2⟩ => by
    have := g.trans h1 h2
    rw [g.irr] at this
    cases this
  unfold ahead
  cases e1 : at_ a.table i j <;> cases e2 : at_ a.table j i
  · rcases Nat.lt_or_gt_of_ne hne with h | h
    · rw [decide_eq_false (show ¬ o.idxOf j < o.idxOf i by omega), decide_eq_true h]
      rfl
    · rw [decide_eq_true h, decide_eq_false (show ¬ o.idxOf i < o.idxOf j by omega)]
      rfl
  · rfl
  · rfl
  · exact absurd ⟨e1, e2⟩ hnot
/-- the other order as the program finds it -/
theorem other_score {a : Now} (g : Good a) {o : List Nat} (ho : o.Perm (List.range a.n)) :
    (((List.range a.n).map (aheads a.n a.table o)).Perm (List.range a.n) → other a.n a.table o = some (inv a.n ((List.range a.n).map (aheads a.n a.table o)))) ∧
    (¬ ((List.range a.n).map (aheads a.n a.table o)).Perm (List.range a.n) → other a.n a.table o = none) := by
  constructor
  · intro hp
    refine other_of ⟨inv_perm hp, fun i j hi hj hij => ?_⟩
    rw [inv_idx hp hi, inv_idx hp hj]
    have anti : ∀ i j, i < a.n → j < a.n → i ≠ j → ahead a.table o i j = !ahead a.table o j i := fun i j hi hj hij => ahead_anti g ho hi hj hij
    have go := score_goes (R := ahead a.table o) (c := aheads a.n a.table o) (fun i hi => rfl) anti hp
    have hne : aheads a.n a.table o i ≠ aheads a.n a.table o j := fun z => hij (score_inj hp hi hj z)
    rcases Nat.lt_or_gt_of_ne hne with h | h
    · rw [decide_eq_true h]
      exact go _ j hj rfl i hi h
    · rw [decide_eq_false (show ¬ aheads a.n a.table o i < aheads a.n a.table o j by omega), anti i j hi hj hij, go _ i hi rfl j hj h]
      rfl
  · intro hn
    refine other_none fun l gl => hn ?_
    have e : (List.range a.n).map (aheads a.n a.table o) = (List.range a.n).map fun i => l.idxOf i := by
      apply List.map_congr_left
      intro i hi
      exact goes_aheads gl (List.mem_range.mp hi)
    rw [e]
    exact inv_perm (n := a.n) gl.1
theorem ahead_eq (t : Table) (o : List Nat) (i j : Nat) : ahead t o i j = if (at_ t i j || at_ t j i) = true then at_ t i j else decide (o.idxOf j < o.idxOf i) := by
  unfold ahead
  cases at_ t i j <;> cases at_ t j i <;> rfl
/-- counted over the order itself -/
theorem aheads_row {n : Nat} {t : Table} {o : List Nat} (ho : o.Perm (List.range n)) (i : Nat) : (o.filter fun j => j != i && ahead t o j i).length = aheads n t o i := (ho.filter _).length_eq
/-! small things -/
theorem perm_fits {n : Nat} {l : List Nat} : l.Perm (List.range n) ↔ ¬ (l.length ≠ n ∨ (List.range n).any (fun i => !l.contains i) = true) := by
  constructor
  · intro hp h
    rcases h with h | h
    · exact h (by rw [hp.length_eq, List.length_range])
    · obtain ⟨x, hx, h2⟩ := List.any_eq_true.mp h
      have := List.contains_iff_mem.mpr (hp.mem_iff.mpr hx)
      rw [this] at h2
      cases h2
  · intro h
    refine (perm_of2 List.nodup_range (fun x hx => ?_) ?_).symm
    · apply List.contains_iff_mem.mp
      cases e : l.contains x with
      | true => rfl
      | false => exact absurd (Or.inr (List.any_eq_true.mpr ⟨x, hx, by rw [e]; rfl⟩)) h
    · rw [List.length_range]
      apply Classical.byContradiction
      exact fun z => h (Or.inl fun q => z q.symm)
theorem count_filter {α : Type} (f : α → Nat) (k : Nat) : ∀ (l : List α), (l.map f).count k = (l.filter fun q => f q == k).length
  | [] => rfl
  | a :: l => by
    rw [List.map_cons, List.count_cons, count_filter f k l, List.filter_cons]
    cases f a == k
    · rfl
    · rfl
theorem first_eq {n : Nat} {f : Nat → Nat → Bool} : ((List.range n).filter fun i => !(!((List.range n).filter fun j => f j i).isEmpty)) = (List.range n).filter fun i => (List.range n).all fun j => !f j i := by
  apply List.filter_congr
  intro i _
  rw [Bool.not_not, Bool.eq_iff_iff, List.isEmpty_iff, List.filter_eq_nil_iff, List.all_eq_true]
  constructor
  · intro h j hj
    cases e : f j i with
    | false => rfl
    | true => exact absurd e (h j hj)
  · intro h j hj z
    have := h j hj
    rw [z] at this
    cases this
end Oa

set_option linter.all false
/-! The most in a row, apart: sets grown event by event. -/
namespace Oa
open Kv416

/-- from which event on a set may grow -/
def lo (g : List Nat) : Nat := match g.getLast? with
  | none => 0
  | some x => x + 1
def goes1 (R : Nat → Nat → Bool) (g : List Nat) (e : Nat) : Bool := decide (lo g ≤ e) && g.all fun o => R e o
def moreF (n : Nat) (R : Nat → Nat → Bool) (gs : List (List Nat)) : List (List Nat) := gs.flatMap fun g => ((List.range n).filter (goes1 R g)).map fun e => g ++ [e]
def sets (n : Nat) (R : Nat → Nat → Bool) : Nat → List (List Nat)
  | 0 => [[]]
  | k + 1 => moreF n R (sets n R k)
theorem lo_nil : lo [] = 0 := rfl
theorem lo_snoc (g : List Nat) (x : Nat) : lo (g ++ [x]) = x + 1 := by
  unfold lo
  rw [List.getLast?_concat]
/-- rising, and any two go together -/
def Fit (n : Nat) (R : Nat → Nat → Bool) (s : List Nat) : Prop := s.Pairwise (fun x y => x < y ∧ R y x = true) ∧ ∀ x ∈ s, x < n
theorem fit_lo {n : Nat} {R : Nat → Nat → Bool} {g : List Nat} (h : Fit n R g) : ∀ x ∈ g, x < lo g := by
  rcases List.eq_nil_or_concat g with rfl | ⟨q, y, rfl⟩
  · intro x hx
    cases hx
  · rw [List.concat_eq_append] at h ⊢
    intro x hx
    rw [lo_snoc]
    rcases List.mem_append.mp hx with hx | hx
    · have := (List.pairwise_append.mp h.1).2.2 x hx y (List.mem_singleton.mpr rfl)
      omega
    · rw [List.mem_singleton.mp hx]
      omega
theorem fit_snoc {n : Nat} {R : Nat → Nat → Bool} {g : List Nat} {e : Nat} : Fit n R (g ++ [e]) ↔ Fit n R g ∧ e < n ∧ goes1 R g e = true := by
  constructor
  · rintro ⟨h1, h2⟩
    rw [List.pairwise_append] at h1
    have hg : Fit n R g := ⟨h1.1, fun x hx => h2 x (List.mem_append_left _ hx)⟩
    refine ⟨hg, h2 e (List.mem_append_right _ (List.mem_singleton.mpr rfl)), ?_⟩
    unfold goes1
    rw [Bool.and_eq_true, decide_eq_true_iff, List.all_eq_true]
    refine ⟨?_, fun o ho => (h1.2.2 o ho e (List.mem_singleton.mpr rfl)).2⟩
    rcases List.eq_nil_or_concat g with rfl | ⟨q, y, rfl⟩
    · exact Nat.zero_le _
    · rw [List.concat_eq_append, lo_snoc]
      have := (h1.2.2 y (by rw [List.concat_eq_append]; exact List.mem_append_right _ (List.mem_singleton.mpr rfl)) e (List.mem_singleton.mpr rfl)).1
      omega
  · rintro ⟨hg, he, h⟩
    unfold goes1 at h
    rw [Bool.and_eq_true, decide_eq_true_iff, List.all_eq_true] at h
    refine ⟨List.pairwise_append.mpr ⟨hg.1, List.pairwise_singleton _ _, fun x hx y hy => ?_⟩, fun x hx => ?_⟩
    · rw [List.mem_singleton.mp hy]
      exact ⟨Nat.lt_of_lt_of_le (fit_lo hg x hx) h.1, h.2 x hx⟩
    · rcases List.mem_append.mp hx with hx | hx
      · exact hg.2 x hx
      · rw [List.mem_singleton.mp hx]
        exact he
theorem mem_sets {n : Nat} {R : Nat → Nat → Bool} : ∀ {k : Nat} {s : List Nat}, s ∈ sets n R k ↔ s.length = k ∧ Fit n R s
  | 0, s => by
    show s ∈ [[]] ↔ _
    rw [List.mem_singleton]
    constructor
    · rintro rfl
      exact ⟨rfl, List.Pairwise.nil, fun x hx => by cases hx⟩
    · rintro ⟨h, _⟩
      exact List.eq_nil_of_length_eq_zero h
  | k + 1, s => by
    show s ∈ (sets n R k).flatMap _ ↔ _
    rw [List.mem_flatMap]
    constructor
    · rintro ⟨g, hg, h⟩
      obtain ⟨e, he, rfl⟩ := List.mem_map.mp h
      rw [List.mem_filter, List.mem_range] at he
      obtain ⟨h1, h2⟩ := mem_sets.mp hg
      exact ⟨by rw [List.length_append, h1]; rfl, fit_snoc.mpr ⟨h2, he.1, he.2⟩⟩
    · rintro ⟨h1, h2⟩
      rcases List.eq_nil_or_concat s with rfl | ⟨g, e, rfl⟩
      · cases h1
      · rw [List.concat_eq_append] at h1 h2 ⊢
        obtain ⟨hg, he, hh⟩ := fit_snoc.mp h2
        rw [List.length_append] at h1
        exact ⟨g, mem_sets.mpr ⟨Nat.succ.inj h1, hg⟩, List.mem_map.mpr ⟨e, List.mem_filter.mpr ⟨List.mem_range.mpr he, hh⟩, rfl⟩⟩
theorem bef_app : ∀ {s t : List Nat} (x y : List Nat), s.length = t.length → Bef s t → Bef (s ++ x) (t ++ y)
  | [], _, _, _, _, h => absurd h (by intro z; exact z)
  | _ :: _, [], _, _, hl, _ => by cases hl
  | a :: s, b :: t, x, y, hl, h => by
    rcases h with h | ⟨e, h⟩
    · exact Or.inl h
    · exact Or.inr ⟨e, bef_app x y (Nat.succ.inj hl) h⟩
theorem bef_same : ∀ (s : List Nat) {x y : Nat}, x < y → Bef (s ++ [x]) (s ++ [y])
  | [], x, y, h => Or.inl h
  | a :: s, x, y, h => Or.inr ⟨rfl, bef_same s h⟩
theorem sets_bef (n : Nat) (R : Nat → Nat → Bool) : ∀ k, (sets n R k).Pairwise Bef
  | 0 => List.pairwise_singleton _ _
  | k + 1 => by
    show ((sets n R k).flatMap _).Pairwise Bef
    rw [List.pairwise_flatMap]
    refine ⟨fun g hg => ?_, (sets_bef n R k).imp_of_mem fun {g q} hg hq hb => ?_⟩
    · rw [List.pairwise_map]
      exact ((range_lt n).filter _).imp fun h => bef_same g h
    · intro x hx y hy
      obtain ⟨e, _, rfl⟩ := List.mem_map.mp hx
      obtain ⟨f, _, rfl⟩ := List.mem_map.mp hy
      exact bef_app _ _ (by rw [(mem_sets.mp hg).1, (mem_sets.mp hq).1]) hb
theorem rising_sub : ∀ {l s : List Nat}, l.Pairwise (· < ·) → s.Pairwise (· < ·) → (∀ x ∈ s, x ∈ l) → s.Sublist l
  | _, [], _, _, _ => List.nil_sublist _
  | [], b :: s, _, _, h => absurd (h b List.mem_cons_self) (by simp)
  | a :: l, b :: s, hl, hs, h => by
    rw [List.pairwise_cons] at hl
    have hs' := hs
    rw [List.pairwise_cons] at hs
    by_cases e : b = a
    · subst e
      refine List.Sublist.cons_cons b (rising_sub hl.2 hs.2 fun x hx => ?_)
      rcases List.mem_cons.mp (h x (List.mem_cons_of_mem _ hx)) with z | z
      · have := hs.1 x hx
        omega
      · exact z
    · have hb : b ∈ l := by
        rcases List.mem_cons.mp (h b List.mem_cons_self) with z | z
        · exact absurd z e
        · exact z
      have hab := hl.1 b hb
      refine List.Sublist.cons a (rising_sub hl.2 hs' fun x hx => ?_)
      rcases List.mem_cons.mp (h x hx) with z | z
      · rcases List.mem_cons.mp hx with q | q
        · omega
        · have := hs.1 x q
          omega
      · exact z
theorem fit_sub {n : Nat} {R : Nat → Nat → Bool} {s : List Nat} (h : Fit n R s) : s.Sublist (List.range n) :=
  rising_sub (range_lt n) (h.1.imp fun h => h.1) fun x hx => List.mem_range.mpr (h.2 x hx)
theorem fit_len {n : Nat} {R : Nat → Nat → Bool} {s : List Nat} (h : Fit n R s) : s.length ≤ n := by
  have := (fit_sub h).length_le
  rw [List.length_range] at this
  exact this
theorem sets_few {n : Nat} {R : Nat → Nat → Bool} (hn : n ≤ 6) (k : Nat) : (sets n R k).length ≤ 64 := by
  have h := le_of_nodup (m := subsets (List.range n)) ((sets_bef n R k).imp fun {s t} hb z => by subst z; exact Bef.irr _ hb) fun s hs => mem_subsets.mpr (fit_sub (mem_sets.mp hs).2)
  have hl : ∀ l : List Nat, (subsets l).length = 2 ^ l.length := by
    intro l
    induction l with
    | nil => rfl
    | cons x l ih =>
      show ((subsets l).map (fun s => x :: s) ++ subsets l).length = _
      rw [List.length_append, List.length_map, ih, List.length_cons, Nat.pow_succ]
      omega
  rw [hl, List.length_range] at h
  exact Nat.le_trans h (Nat.pow_le_pow_right (n := 2) (by omega) hn)
theorem sets_stop {n : Nat} {R : Nat → Nat → Bool} {k : Nat} (h : sets n R k = []) : ∀ d, sets n R (k + d) = []
  | 0 => h
  | d + 1 => by
    show moreF n R (sets n R (k + d)) = []
    rw [sets_stop h d]
    rfl
/-- the first of the greatest is the specification's most -/
theorem most_sets {n : Nat} {R : Nat → Nat → Bool} {P : List Nat → Bool} (hP : ∀ s : List Nat, s.Sublist (List.range n) → (P s = true ↔ s.Pairwise fun x y => R y x = true)) {k : Nat} {s : List Nat} {r : List (List Nat)} (h : sets n R k = s :: r) (hs : sets n R (k + 1) = []) :
    best ((subsets (List.range n)).filter P) = s := by
  have hm : s ∈ sets n R k := by rw [h]; exact List.mem_cons_self
  obtain ⟨hl, hf⟩ := mem_sets.mp hm
  have fit : ∀ q : List Nat, q.Sublist (List.range n) → P q = true → Fit n R q := fun q hq hp => by
    have h1 := (hP q hq).mp hp
    have h2 := (range_lt n).sublist hq
    exact ⟨h2.imp₂ (fun a b h1 h2 => ⟨h1, h2⟩) h1, fun x hx => List.mem_range.mp (hq.subset hx)⟩
  refine most_is n P ((hP [] (List.nil_sublist _)).mpr List.Pairwise.nil) (fit_sub hf) ((hP s (fit_sub hf)).mpr (hf.1.imp fun h => h.2)) fun q hq hp => ?_
  have hqf := fit q hq hp
  have hqm : q ∈ sets n R q.length := mem_sets.mpr ⟨rfl, hqf⟩
  rcases Nat.lt_or_ge q.length (k + 1) with h1 | h1
  · rcases Nat.lt_or_ge q.length k with h2 | h2
    · exact Or.inl (by omega)
    · have e : q.length = k := by omega
      refine Or.inr ⟨by omega, ?_⟩
      rw [e, h] at hqm
      rcases List.mem_cons.mp hqm with h3 | h3
      · exact Or.inl h3
      · have hb := sets_bef n R k
        rw [h, List.pairwise_cons] at hb
        exact Or.inr (hb.1 q h3)
  · have := sets_stop hs (q.length - (k + 1))
    rw [show k + 1 + (q.length - (k + 1)) = q.length by omega] at this
    rw [this] at hqm
    cases hqm
theorem pair_all {P : Nat → Nat → Bool} (sym : ∀ x y, P x y = P y x) : ∀ {s : List Nat}, s.Pairwise (· < ·) → ((s.all fun i => s.all fun j => i == j || P i j) = true ↔ s.Pairwise fun x y => P y x = true)
  | [], _ => by simp
  | a :: s, h => by
    rw [List.pairwise_cons] at h
    have ih := pair_all sym h.2
    rw [List.pairwise_cons, ← ih]
    simp only [List.all_eq_true]
    constructor
    · intro q
      refine ⟨fun y hy => ?_, fun i hi j hj => q i (List.mem_cons_of_mem _ hi) j (List.mem_cons_of_mem _ hj)⟩
      have := q y (List.mem_cons_of_mem _ hy) a List.mem_cons_self
      rw [Bool.or_eq_true] at this
      rcases this with z | z
      · have := h.1 y hy
        rw [beq_iff_eq] at z
        omega
      · exact z
    · rintro ⟨q1, q2⟩ i hi j hj
      rw [Bool.or_eq_true]
      rcases List.mem_cons.mp hi with rfl | hi2
      · rcases List.mem_cons.mp hj with rfl | hj2
        · exact Or.inl (beq_self_eq_true _)
        · refine Or.inr ?_
          rw [sym]
          exact q1 j hj2
      · rcases List.mem_cons.mp hj with rfl | hj2
        · exact Or.inr (q1 i hi2)
        · have := q2 i hi2 j hj2
          rw [Bool.or_eq_true] at this
          exact this
/-- which two go together -/
def togeth (f : Nat → Nat → Bool) (inRow : Bool) (x y : Nat) : Bool := (f x y || f y x) == inRow
theorem row_is (t : Table) (n : Nat) (s : List Nat) (hs : s.Sublist (List.range n)) : Now.rowOf t s = true ↔ s.Pairwise fun x y => togeth (at_ t) true y x = true := by
  have h := pair_all (P := togeth (at_ t) true) (fun x y => by unfold togeth; rw [Bool.or_comm]) ((range_lt n).sublist hs)
  rw [← h]
  unfold Now.rowOf togeth
  have : ∀ i j : Nat, (i == j || at_ t i j || at_ t j i) = (i == j || (at_ t i j || at_ t j i) == true) := fun i j => by
    cases (i == j) <;> cases at_ t i j <;> cases at_ t j i <;> rfl
  simp only [this]
theorem apart_is (t : Table) (n : Nat) (s : List Nat) (hs : s.Sublist (List.range n)) : Now.apart t s = true ↔ s.Pairwise fun x y => togeth (at_ t) false y x = true := by
  have h := pair_all (P := togeth (at_ t) false) (fun x y => by unfold togeth; rw [Bool.or_comm]) ((range_lt n).sublist hs)
  rw [← h]
  unfold Now.apart togeth
  have : ∀ i j : Nat, (i == j || (!at_ t i j && !at_ t j i)) = (i == j || (at_ t i j || at_ t j i) == false) := fun i j => by
    cases (i == j) <;> cases at_ t i j <;> cases at_ t j i <;> rfl
  simp only [this]
/-- it stops -/
theorem sets_end (n : Nat) (R : Nat → Nat → Bool) {k : Nat} (h : n < k) : sets n R k = [] := by
  apply List.eq_nil_iff_forall_not_mem.mpr
  intro s hs
  obtain ⟨h1, h2⟩ := mem_sets.mp hs
  have := fit_len h2
  omega
theorem moreF_len (n : Nat) (R : Nat → Nat → Bool) : ∀ gs, (moreF n R gs).length ≤ gs.length * n
  | [] => by simp [moreF]
  | r :: rows => by
    have h1 := moreF_len n R rows
    unfold moreF at h1 ⊢
    rw [List.flatMap_cons, List.length_append, List.length_map, List.length_cons, Nat.succ_mul]
    have h2 := List.length_filter_le (goes1 R r) (List.range n)
    rw [List.length_range] at h2
    omega
end Oa

/-! The calls as one list: one call at a time. -/
namespace Oa
open Kv416

theorem whole_id (c : List (List Int)) : PyKv416.whole c = c := by
  unfold PyKv416.whole
  split <;> rfl
theorem calls_id (l : List Int) : PyKv416.calls l = PyFlat.calls PyKv416.shape l.length l := by
  unfold PyKv416.calls
  split
  · rename_i h; rw [h]
  · rename_i cs h
    rw [h, show cs.map PyKv416.whole = cs from by rw [show PyKv416.whole = id from funext whole_id, List.map_id]]
/-- what is answered from a state on -/
def tail (s : State) (cs : List (List (List Int))) : List Int := PyFlat.told (PyFlat.played Kv416Neutral.step s cs)
theorem tail_nil (s : State) : tail s [] = [] := rfl
theorem tail_cons (s : State) (c : List (List Int)) (cs : List (List (List Int))) :
    tail s (c :: cs) = (((Kv416Neutral.step s c).2.length : Int) :: (Kv416Neutral.step s c).2) ++ tail (Kv416Neutral.step s c).1 cs := by
  unfold tail PyFlat.told
  rw [PyFlat.played, List.flatMap_cons]

/-- how many whole numbers a call has behind its number (of fits: its row's length) -/
def widths : List Int := [1, 2, 2, 0, 1, 0, 2, 0, 1, 0, 0, 1, 1, 0, 2, 1, 0, 0, 0, 0, 0, 0, 0]
def wid (p : Nat) : Nat := (widths.getD p 0).toNat

theorem shape_nat : ∀ k : Nat, k < 23 → PyKv416.shape (k : Int) = some (if k = 12 then (0, 1) else (wid k, 0)) := by decide
theorem shape_in {p : Int} {q : Nat × Nat} (h : PyKv416.shape p = some q) : ∃ k : Nat, p = (k : Int) ∧ k < 23 ∧ ((k = 12 ∧ q = (0, 1)) ∨ (k ≠ 12 ∧ q = (wid k, 0))) := by
  by_cases hp : 0 ≤ p ∧ p < 23
  · obtain ⟨k, rfl⟩ : ∃ k : Nat, p = (k : Int) := ⟨p.toNat, by omega⟩
    have hk : k < 23 := by omega
    rw [shape_nat k hk] at h
    refine ⟨k, rfl, hk, ?_⟩
    by_cases h12 : k = 12
    · rw [if_pos h12] at h
      exact Or.inl ⟨h12, (Option.some.inj h).symm⟩
    · rw [if_neg h12] at h
      exact Or.inr ⟨h12, (Option.some.inj h).symm⟩
  · unfold PyKv416.shape at h
    iterate 23 rw [if_neg (by omega)] at h
    cases h
/-- a call at the head of a list: either a row (fits) or numbers alone -/
theorem call_in {p : Int} {r : List Int} {c : List (List Int)} {t : List Int} (h : PyFlat.call PyKv416.shape (p :: r) = some (c, t)) :
    (p = 12 ∧ ∃ (m : Nat) (r' : List Int), r = (m : Int) :: r' ∧ m ≤ r'.length ∧ c = [[12], r'.take m] ∧ t = r'.drop m) ∨
    (∃ k : Nat, p = (k : Int) ∧ k < 23 ∧ k ≠ 12 ∧ wid k ≤ r.length ∧ c = [(k : Int) :: r.take (wid k)] ∧ t = r.drop (wid k)) := by
  simp only [PyFlat.call] at h
  cases hs : PyKv416.shape p with
  | none => rw [hs] at h; cases h
  | some q =>
    rw [hs] at h
    obtain ⟨n, k⟩ := q
    obtain ⟨x, rfl, hx, hq⟩ := shape_in hs
    dsimp only at h
    split at h
    · cases h
    · rename_i hn
      rcases hq with ⟨rfl, hq⟩ | ⟨hne, hq⟩
      · cases hq
        refine Or.inl ⟨rfl, ?_⟩
        rw [List.drop_zero] at h
        cases r with
        | nil => cases h
        | cons m r' =>
          simp only [PyFlat.rows, PyFlat.row] at h
          split at h
          · cases h
          · rename_i heq
            split at heq
            · cases heq
            · rename_i x y e1
              split at e1
              · rename_i hm
                cases e1
                cases heq
                cases h
                refine ⟨m.toNat, r', by rw [Int.toNat_of_nonneg hm.1], hm.2, rfl, rfl⟩
              · cases e1
      · cases hq
        refine Or.inr ⟨x, rfl, hx, hne, by omega, ?_⟩
        simp only [PyFlat.rows] at h
        cases h
        exact ⟨rfl, rfl⟩
theorem calls_cons {sh : Int → Option (Nat × Nat)} {f : Nat} {p : Int} {r : List Int} {cs : List (List (List Int))} (h : PyFlat.calls sh f (p :: r) = some cs) :
    ∃ f' c t cs', PyFlat.call sh (p :: r) = some (c, t) ∧ PyFlat.calls sh f' t = some cs' ∧ cs = c :: cs' := by
  cases f with
  | zero => cases h
  | succ f =>
    rw [PyFlat.calls] at h
    split at h
    · cases h
    · rename_i c t hc
      split at h
      · cases h
      · rename_i cs' hcs
        cases h
        exact ⟨f, c, t, cs', hc, hcs, rfl⟩
theorem calls_nil {sh : Int → Option (Nat × Nat)} {f : Nat} {cs : List (List (List Int))} (h : PyFlat.calls sh f [] = some cs) : cs = [] := by
  cases f <;> (rw [PyFlat.calls] at h; cases h; rfl)
/-- what is asked: it reads as calls, their answers are few -/
theorem asked_calls {l : List Int} (h : PyKv416.answers_asked l = true) : ∃ cs, PyFlat.calls PyKv416.shape l.length l = some cs ∧ PyKv416.answers l = tail none cs ∧ (PyKv416.answers l).length ≤ 10000000 := by
  unfold PyKv416.answers_asked at h
  split at h
  · cases h
  · rename_i raw hr
    simp only [Bool.and_eq_true] at h
    refine ⟨raw, hr, ?_, ?_⟩
    · unfold PyKv416.answers
      rw [calls_id, hr]
      rfl
    · have := h.2
      unfold PyFlat.short at this
      exact of_decide_eq_true this
/-- the lengths of rows of fits -/
theorem asked_fits {l : List Int} (h : PyKv416.answers_asked l = true) : ∃ cs, PyFlat.calls PyKv416.shape l.length l = some cs ∧ cs.all (PyInside.call PyKv416.bound) = true ∧ cs.length ≤ 256 := by
  unfold PyKv416.answers_asked at h
  split at h
  · cases h
  · rename_i raw hr
    simp only [Bool.and_eq_true] at h
    refine ⟨raw, hr, h.1.1.2, ?_⟩
    have := h.1.1.1.2
    unfold PyFlat.atMost at this
    exact of_decide_eq_true this
end Oa

set_option Elab.async false
set_option linter.all false
set_option maxRecDepth 100000
set_option maxHeartbeats 2000000
/-! Data in the heap: what stands for what, in a part of the heap that nobody changes. -/
namespace Oa
open PySem L2 Evl

/-! ### data -/
mutual
/-- v stands for the datum d, its lists and tuples all in H -/
inductive Dt (H : Hp) : V → PyData → Prop
  | non : Dt H .non .none
  | bl (b : Bool) : Dt H (.bl b) (.bool b)
  | int (i : Int) : Dt H (.int i) (.int i)
  | lst {a : Addr} {xs : List V} {ds : List PyData} : H a = some (.lst xs) → DtAll H xs ds → Dt H (.ref a) (.list ds)
  | tup {a : Addr} {xs : List V} {ds : List PyData} : H a = some (.tup xs) → DtAll H xs ds → Dt H (.ref a) (.tuple ds)
inductive DtAll (H : Hp) : List V → List PyData → Prop
  | nil : DtAll H [] []
  | cons {v : V} {vs : List V} {d : PyData} {ds : List PyData} : Dt H v d → DtAll H vs ds → DtAll H (v :: vs) (d :: ds)
end
mutual
theorem Dt.ex {H H' : Hp} (e : Ex H H') : ∀ {v : V} {d : PyData}, Dt H v d → Dt H' v d
  | _, _, .non => .non
  | _, _, .bl b => .bl b
  | _, _, .int i => .int i
  | _, _, .lst h q => .lst (e _ _ h) (DtAll.ex e q)
  | _, _, .tup h q => .tup (e _ _ h) (DtAll.ex e q)
theorem DtAll.ex {H H' : Hp} (e : Ex H H') : ∀ {vs : List V} {ds : List PyData}, DtAll H vs ds → DtAll H' vs ds
  | _, _, .nil => .nil
  | _, _, .cons h q => .cons (Dt.ex e h) (DtAll.ex e q)
end
mutual
theorem Dt.dp {K : PySem.W.Frag} {H : Hp} : ∀ {v : V} {d : PyData}, Dt H v d → Dp K H v d
  | _, _, .non => .non
  | _, _, .bl b => .bl b
  | _, _, .int i => .int i
  | _, _, .lst h q => .lst (sq_of h) (DtAll.dp q)
  | _, _, .tup h q => .tup (st_of h) (DtAll.dp q)
theorem DtAll.dp {K : PySem.W.Frag} {H : Hp} : ∀ {vs : List V} {ds : List PyData}, DtAll H vs ds → DpAll K H vs ds
  | _, _, .nil => .nil
  | _, _, .cons h q => .cons (Dt.dp h) (DtAll.dp q)
end
theorem DtAll.length {H : Hp} : ∀ {vs : List V} {ds : List PyData}, DtAll H vs ds → vs.length = ds.length
  | _, _, .nil => rfl
  | _, _, .cons _ q => congrArg (· + 1) (DtAll.length q)
theorem DtAll.get {H : Hp} : ∀ {vs : List V} {ds : List PyData} {i : Nat} {v : V}, DtAll H vs ds → vs[i]? = some v → ∃ d, ds[i]? = some d ∧ Dt H v d
  | _, _, i, _, .nil, h => by simp at h
  | _, _, 0, _, .cons h q, e => ⟨_, rfl, by
    have : _ = _ := Option.some.inj e
    rw [← this]
    exact h⟩
  | _, _, i + 1, _, .cons h q, e => DtAll.get (i := i) q e
theorem DtAll.at {H : Hp} : ∀ {vs : List V} {ds : List PyData} {i : Nat} {d : PyData}, DtAll H vs ds → ds[i]? = some d → ∃ v, vs[i]? = some v ∧ Dt H v d
  | _, _, i, _, .nil, h => by simp at h
  | _, _, 0, _, .cons h q, e => ⟨_, rfl, by
    have : _ = _ := Option.some.inj e
    rw [← this]
    exact h⟩
  | _, _, i + 1, _, .cons h q, e => DtAll.at (i := i) q e
theorem DtAll.append {H : Hp} : ∀ {vs : List V} {ds : List PyData} {ws : List V} {es : List PyData}, DtAll H vs ds → DtAll H ws es → DtAll H (vs ++ ws) (ds ++ es)
  | _, _, _, _, .nil, q => q
  | _, _, _, _, .cons h r, q => .cons h (DtAll.append r q)
theorem DtAll.one {H : Hp} {v : V} {d : PyData} (h : Dt H v d) : DtAll H [v] [d] := .cons h .nil
theorem DtAll.drop {H : Hp} : ∀ {vs : List V} {ds : List PyData} (k : Nat), DtAll H vs ds → DtAll H (vs.drop k) (ds.drop k)
  | _, _, 0, h => h
  | _, _, k + 1, .nil => .nil
  | _, _, k + 1, .cons _ q => DtAll.drop k q
theorem DtAll.take {H : Hp} : ∀ {vs : List V} {ds : List PyData} (k : Nat), DtAll H vs ds → DtAll H (vs.take k) (ds.take k)
  | _, _, 0, _ => .nil
  | _, _, k + 1, .nil => .nil
  | _, _, k + 1, .cons h q => .cons h (DtAll.take k q)
theorem DtAll.ints {H : Hp} : ∀ {l : List Int} {vs : List V}, DtAll H vs (l.map PyData.int) → vs = l.map V.int
  | [], _, .nil => rfl
  | _ :: _, _, .cons (.int _) q => congrArg _ (DtAll.ints q)
theorem DtAll.ofInts {H : Hp} : ∀ (l : List Int), DtAll H (l.map V.int) (l.map PyData.int)
  | [] => .nil
  | _ :: l => .cons (.int _) (DtAll.ofInts l)
theorem DtAll.bools {H : Hp} : ∀ {l : List Bool} {vs : List V}, DtAll H vs (l.map PyData.bool) → vs = l.map V.bl
  | [], _, .nil => rfl
  | _ :: _, _, .cons (.bl _) q => congrArg _ (DtAll.bools q)
theorem dt_list {H : Hp} {v : V} {ds : List PyData} (h : Dt H v (.list ds)) : ∃ a xs, v = .ref a ∧ H a = some (.lst xs) ∧ DtAll H xs ds := by
  cases h with
  | lst h q => exact ⟨_, _, rfl, h, q⟩
theorem dt_tuple {H : Hp} {v : V} {ds : List PyData} (h : Dt H v (.tuple ds)) : ∃ a xs, v = .ref a ∧ H a = some (.tup xs) ∧ DtAll H xs ds := by
  cases h with
  | tup h q => exact ⟨_, _, rfl, h, q⟩
theorem dt_int {H : Hp} {v : V} {i : Int} (h : Dt H v (.int i)) : v = .int i := by
  cases h
  rfl
theorem dt_bl {H : Hp} {v : V} {b : Bool} (h : Dt H v (.bool b)) : v = .bl b := by
  cases h
  rfl

/-! ### the part that stands grows with the heap; nothing that stood outside of it gets in -/
structure Grow (B H B' H' : Hp) : Prop where
  ex : Ex H H'
  base : Ex B B'
  sub : Ex B' H'
  out : ∀ b, B b = none → H b ≠ none → B' b = none
theorem Grow.refl {B H : Hp} (e : Ex B H) : Grow B H B H := ⟨Ex.refl H, Ex.refl B, e, fun _ h _ => h⟩
theorem ne_none {H H' : Hp} (e : Ex H H') {b : Addr} (h : H b ≠ none) : H' b ≠ none := by
  cases q : H b with
  | none => exact absurd q h
  | some o => rw [e b o q]; simp
theorem Grow.trans {B H B1 H1 B2 H2 : Hp} (a : Grow B H B1 H1) (b : Grow B1 H1 B2 H2) : Grow B H B2 H2 :=
  ⟨a.ex.trans b.ex, a.base.trans b.base, b.sub, fun x h q => b.out x (a.out x h q) (ne_none a.ex q)⟩
def join (A B : Hp) : Hp := fun b => match A b with
  | some o => some o
  | none => B b
theorem ex_joinL (A B : Hp) : Ex A (join A B) := fun b o h => by
  unfold join
  rw [h]
theorem join_none {A B : Hp} {b : Addr} (h : A b = none) : join A B b = B b := by
  unfold join
  rw [h]
theorem ex_joinR {A B H : Hp} (ea : Ex A H) (eb : Ex B H) : Ex B (join A B) := fun b o h => by
  cases q : A b with
  | none => rw [join_none q]; exact h
  | some u =>
    have e1 := ea b u q
    have e2 := eb b o h
    rw [e1] at e2
    rw [ex_joinL A B b u q]
    exact e2
theorem ex_join {A B H : Hp} (ea : Ex A H) (eb : Ex B H) : Ex (join A B) H := fun b o h => by
  cases q : A b with
  | none =>
    rw [join_none q] at h
    exact eb b o h
  | some u =>
    rw [ex_joinL A B b u q] at h
    cases h
    exact ea b _ q
theorem Grow.wide {B A H B' H' : Hp} (e : Ex B A) (ea : Ex A H) (g : Grow B H B' H') : Grow A H (join A B') H' :=
  ⟨g.ex, ex_joinL A B', ex_join (ea.trans g.ex) g.sub, fun b h q => by
    rw [join_none h]
    exact g.out b (fresh_back e h) q⟩
/-- a new object -/
theorem Grow.new {B H : Hp} (e : Ex B H) {p : Addr} {o : HO} (h : H p = none) : Grow B H (upd B p o) (upd H p o) :=
  ⟨Ex.new h, Ex.new (fresh_back e h), fun b u q => by
    by_cases hb : b = p
    · subst hb
      rw [upd_same] at q ⊢
      exact q
    · rw [upd_ne hb] at q ⊢
      exact e b u q, fun b hb q => by
    have hn : b ≠ p := fun z => q (by rw [z]; exact h)
    rw [upd_ne hn]
    exact hb⟩

/-! ### what evaluates to which datum -/
def EvD (te : TE) (σ : L2.St) (B : Hp) (d : PyData) : Prop := ∀ H1, Ex B H1 → ∀ Q : VK, (∀ v B2 H2, Grow B H1 B2 H2 → Dt B2 v d → Q v H2) → te σ H1 Q
def EvDA (ta : TA) (σ : L2.St) (B : Hp) (ds : List PyData) : Prop := ∀ H1, Ex B H1 → ∀ Q : List V → Hp → Prop, (∀ vs B2 H2, Grow B H1 B2 H2 → DtAll B2 vs ds → Q vs H2) → ta σ H1 Q
/-- a test: the heap may grow -/
def EvB (tt : TT) (σ : L2.St) (B : Hp) (b : Bool) : Prop := ∀ H1, Ex B H1 → ∀ Q : Bool → Hp → Prop, (∀ B2 H2, Grow B H1 B2 H2 → Q b H2) → tt σ H1 Q
section
variable {K : PySem.W.Frag} {σ : L2.St} {B A : Hp} {ta tb te : TE} {t u : TT} {x y z v : V} {r : R2} {d d1 d2 : PyData}
theorem EvD.mono (e : Ex B A) (h : EvD te σ B d) : EvD te σ A d := fun H1 ea Q q => h H1 (e.trans ea) Q fun v B2 H2 g hd =>
  q v _ H2 (g.wide e ea) (hd.ex (ex_joinR (ea.trans g.ex) g.sub))
theorem EvB.mono {b : Bool} (e : Ex B A) (h : EvB t σ B b) : EvB t σ A b := fun H1 ea Q q => h H1 (e.trans ea) Q fun B2 H2 g => q _ H2 (g.wide e ea)
theorem EvDA.mono {ta : TA} {ds : List PyData} (e : Ex B A) (h : EvDA ta σ B ds) : EvDA ta σ A ds := fun H1 ea Q q => h H1 (e.trans ea) Q fun v B2 H2 g hd =>
  q v _ H2 (g.wide e ea) (hd.ex (ex_joinR (ea.trans g.ex) g.sub))
theorem ed_var {i : Nat} (h : σ[i]? = some (some v)) (hd : Dt B v d) : EvD (tVar i) σ B d := fun H1 e _ q => ⟨v, h, q v B H1 (.refl e) hd⟩
theorem ed_c (hd : Dt B v d) : EvD (tC v) σ B d := fun H1 e _ q => q v B H1 (.refl e) hd
theorem ed_int {i : Int} : EvD (tC (.int i)) σ B (.int i) := ed_c (.int i)
theorem ed_bl {b : Bool} : EvD (tC (.bl b)) σ B (.bool b) := ed_c (.bl b)
theorem ed_is {w : PyData} (h : EvD te σ B d) (e : d = w) : EvD te σ B w := e ▸ h
/-- an operation on two values by their data -/
def RD (r : R2) (d1 d2 : PyData) (d : PyData) : Prop := ∀ (B H1 : Hp), Ex B H1 → ∀ x y, Dt B x d1 → Dt B y d2 → ∀ Q : VK, (∀ v B2 H2, Grow B H1 B2 H2 → Dt B2 v d → Q v H2) → r x y H1 Q
theorem ed_op (ha : EvD ta σ B d1) (hb : EvD tb σ B d2) (hr : RD r d1 d2 d) : EvD (tOp r ta tb) σ B d := fun H1 e Q q =>
  ha H1 e _ fun x B2 H2 g2 hx => (hb.mono g2.base) H2 g2.sub _ fun y B3 H3 g3 hy => hr B3 H3 g3.sub x y (hx.ex g3.base) hy Q fun v B4 H4 g4 hv =>
    q v B4 H4 ((g2.trans g3).trans g4) hv
theorem rd_I0 {g : Int → Int → V} {i j : Int} (h : ∀ B, Dt B (g i j) d) : RD (rI0 g) (.int i) (.int j) d := fun B H1 e x y hx hy Q q => by
  cases hx
  cases hy
  exact ⟨i, j, rfl, rfl, q _ B H1 (.refl e) (h B)⟩
theorem rd_ixL {ds : List PyData} {j : Nat} (h : ds[j]? = some d) : RD (rIxL K) (.list ds) (.int j) d := fun B H1 e x y hx hy Q q => by
  obtain ⟨a, xs, rfl, ha, hall⟩ := dt_list hx
  cases hy
  obtain ⟨w, hw, hd⟩ := hall.at h
  refine ⟨a, xs, (j : Int), w, rfl, rfl, sq_of (e _ _ ha), ?_, q w B H1 (.refl e) hd⟩
  have hj := (List.getElem?_eq_some_iff.mp hw).1
  unfold atI
  rw [ixN_nat hj]
  exact hw
theorem rd_ixT {ds : List PyData} {j : Nat} (h : ds[j]? = some d) : RD (rIxT K) (.tuple ds) (.int j) d := fun B H1 e x y hx hy Q q => by
  obtain ⟨a, xs, rfl, ha, hall⟩ := dt_tuple hx
  cases hy
  obtain ⟨w, hw, hd⟩ := hall.at h
  refine ⟨a, xs, (j : Int), w, rfl, rfl, st_of (e _ _ ha), ?_, q w B H1 (.refl e) hd⟩
  have hj := (List.getElem?_eq_some_iff.mp hw).1
  unfold atI
  rw [ixN_nat hj]
  exact hw
theorem rd_cat {ds es : List PyData} (h : ds.length + es.length ≤ 100000) : RD rCat (.list ds) (.list es) (.list (ds ++ es)) := fun B H1 e x y hx hy Q q => by
  obtain ⟨a, xs, rfl, ha, hall⟩ := dt_list hx
  obtain ⟨b, ys, rfl, hb, hbll⟩ := dt_list hy
  refine ⟨a, b, xs, ys, rfl, rfl, e _ _ ha, e _ _ hb, sz_of (by rw [hall.length, hbll.length]; exact h), fun p hp => ?_⟩
  have g := Grow.new (o := .lst (xs ++ ys)) e hp
  exact q _ _ _ g (.lst upd_same ((hall.append hbll).ex g.base))
/-- equal numbers -/
theorem rd_eqI {i j : Int} : RD rEq (.int i) (.int j) (.bool (decide (i = j))) := fun B H1 e x y hx hy Q q => by
  cases hx
  cases hy
  refine ⟨rfl, ?_⟩
  have : decide (V.int i = V.int j) = decide (i = j) := decide_eq_decide.mpr ⟨fun h => V.int.inj h, fun h => congrArg _ h⟩
  rw [this]
  exact q _ B H1 (.refl e) (.bl _)
theorem rd_neI {i j : Int} : RD rNe (.int i) (.int j) (.bool (!decide (i = j))) := fun B H1 e x y hx hy Q q => by
  cases hx
  cases hy
  refine ⟨rfl, ?_⟩
  have : decide (V.int i = V.int j) = decide (i = j) := decide_eq_decide.mpr ⟨fun h => V.int.inj h, fun h => congrArg _ h⟩
  rw [this]
  exact q _ B H1 (.refl e) (.bl _)
/-! tests -/
theorem eb_test {b : Bool} (h : EvD te σ B (.bool b)) : EvB (tTest te) σ B b := fun H1 e Q q => h H1 e _ fun v B2 H2 g hd => by
  cases hd
  exact ⟨b, rfl, q B2 H2 g⟩
theorem eb_B {b : Bool} (h : EvD te σ B (.bool b)) : EvB (tB te) σ B b := fun H1 e Q q => h H1 e _ fun v B2 H2 g hd => by
  cases hd
  exact ⟨b, rfl, q B2 H2 g⟩
theorem eb_and {a b : Bool} (h1 : EvB t σ B a) (h2 : a = true → EvB u σ B b) : EvB (tAnd t u) σ B (a && b) := fun H1 e Q q => h1 H1 e _ fun B2 H2 g => by
  cases a with
  | true =>
    show u σ H2 Q
    exact ((h2 rfl).mono g.base) H2 g.sub Q fun B3 H3 g3 => q B3 H3 (g.trans g3)
  | false =>
    show Q false H2
    exact q B2 H2 g
theorem eb_or {a b : Bool} (h1 : EvB t σ B a) (h2 : a = false → EvB u σ B b) : EvB (tOr t u) σ B (a || b) := fun H1 e Q q => h1 H1 e _ fun B2 H2 g => by
  cases a with
  | true =>
    show Q true H2
    exact q B2 H2 g
  | false =>
    show u σ H2 Q
    exact ((h2 rfl).mono g.base) H2 g.sub Q fun B3 H3 g3 => q B3 H3 (g.trans g3)
theorem eb_not {a : Bool} (h1 : EvB t σ B a) : EvB (tNot t) σ B (!a) := fun H1 e _ q => h1 H1 e _ fun B2 H2 g => q B2 H2 g
theorem eb_is {a b : Bool} (h : EvB t σ B a) (e : a = b) : EvB t σ B b := e ▸ h
theorem ed_andV {a b : Bool} (h1 : EvD ta σ B (.bool a)) (h2 : a = true → EvD tb σ B (.bool b)) : EvD (tAndV ta tb) σ B (.bool (a && b)) := fun H1 e Q q => h1 H1 e _ fun v B2 H2 g hd => by
  cases hd
  refine ⟨a, rfl, ?_⟩
  cases a with
  | true =>
    show tb σ H2 Q
    exact ((h2 rfl).mono g.base) H2 g.sub Q fun w B3 H3 g3 => q w B3 H3 (g.trans g3)
  | false =>
    show Q (.bl false) H2
    exact q _ B2 H2 g (.bl _)
theorem ed_orV {a b : Bool} (h1 : EvD ta σ B (.bool a)) (h2 : a = false → EvD tb σ B (.bool b)) : EvD (tOrV ta tb) σ B (.bool (a || b)) := fun H1 e Q q => h1 H1 e _ fun v B2 H2 g hd => by
  cases hd
  refine ⟨a, rfl, ?_⟩
  cases a with
  | true =>
    show Q (.bl true) H2
    exact q _ B2 H2 g (.bl _)
  | false =>
    show tb σ H2 Q
    exact ((h2 rfl).mono g.base) H2 g.sub Q fun w B3 H3 g3 => q w B3 H3 (g.trans g3)
theorem ed_notV {a : Bool} (h1 : EvD ta σ B (.bool a)) : EvD (tNotV ta) σ B (.bool (!a)) := fun H1 e _ q => h1 H1 e _ fun v B2 H2 g hd => by
  cases hd
  exact ⟨a, rfl, q _ B2 H2 g (.bl _)⟩
theorem ed_if {b : Bool} (h : EvB t σ B b) (h1 : b = true → EvD ta σ B d) (h2 : b = false → EvD tb σ B d) : EvD (tIf t ta tb) σ B d := fun H1 e Q q => h H1 e _ fun B2 H2 g => by
  cases b with
  | true =>
    show ta σ H2 Q
    exact ((h1 rfl).mono g.base) H2 g.sub Q fun w B3 H3 g3 => q w B3 H3 (g.trans g3)
  | false =>
    show tb σ H2 Q
    exact ((h2 rfl).mono g.base) H2 g.sub Q fun w B3 H3 g3 => q w B3 H3 (g.trans g3)
/-! arguments, displays -/
theorem ea_nil : EvDA tNil σ B [] := fun H1 e _ q => q [] B H1 (.refl e) .nil
theorem ea_cons {tr : TA} {ds : List PyData} (h : EvD ta σ B d) (hr : EvDA tr σ B ds) : EvDA (tCons ta tr) σ B (d :: ds) := fun H1 e _ q =>
  h H1 e _ fun v B2 H2 g hv => (hr.mono g.base) H2 g.sub _ fun vs B3 H3 g3 hvs => q (v :: vs) B3 H3 (g.trans g3) (.cons (hv.ex g3.base) hvs)
theorem ed_tup {ta : TA} {ds : List PyData} (h : EvDA ta σ B ds) (hl : ds.length ≤ 100000) : EvD (tTup ta) σ B (.tuple ds) := fun H1 e _ q =>
  h H1 e _ fun vs B2 H2 g hv => ⟨sz_of (by rw [hv.length]; exact hl), fun p hp => by
    have g2 := Grow.new (o := .tup vs) g.sub hp
    exact q _ _ _ (g.trans g2) (.tup upd_same (hv.ex g2.base))⟩
theorem ed_lst {ta : TA} {ds : List PyData} (h : EvDA ta σ B ds) (hl : ds.length ≤ 100000) : EvD (tLst ta) σ B (.list ds) := fun H1 e _ q =>
  h H1 e _ fun vs B2 H2 g hv => ⟨sz_of (by rw [hv.length]; exact hl), fun p hp => by
    have g2 := Grow.new (o := .lst vs) g.sub hp
    exact q _ _ _ (g.trans g2) (.lst upd_same (hv.ex g2.base))⟩
/-! calls: a promise by data -/
def prm (pre : List PyData → PyData → Prop) : Sp := fun vs H Q _ => ∃ B ds d, Ex B H ∧ DtAll B vs ds ∧ pre ds d ∧ ∀ v B2 H2, Grow B H B2 H2 → Dt B2 v d → Q v H2
theorem ed_call {pre : List PyData → PyData → Prop} {E : XK} {ta : TA} {ds : List PyData} (h : EvDA ta σ B ds) (hp : pre ds d) : EvD (tCall (prm pre) [] E ta) σ B d := fun H1 e Q q =>
  h H1 e _ fun vs B2 H2 g hv => ⟨B2, ds, d, g.sub, by rw [List.append_nil]; exact hv, hp, fun v B3 H3 g3 hd => q v B3 H3 (g.trans g3) hd⟩
/-- a built-in's call -/
def RCD (r : List V → Hp → VK → Prop) (ds : List PyData) (d : PyData) : Prop := ∀ (B H1 : Hp), Ex B H1 → ∀ vs, DtAll B vs ds → ∀ Q : VK, (∀ v B2 H2, Grow B H1 B2 H2 → Dt B2 v d → Q v H2) → r vs H1 Q
theorem ed_cb {r : List V → Hp → VK → Prop} {ta : TA} {ds : List PyData} (h : EvDA ta σ B ds) (hr : RCD r ds d) : EvD (tCB r ta) σ B d := fun H1 e Q q =>
  h H1 e _ fun vs B2 H2 g hv => hr B2 H2 g.sub vs hv Q fun v B3 H3 g3 hd => q v B3 H3 (g.trans g3) hd
/-! statements -/
variable {D : Ends} {tu tw tz : TS} {H : Hp}
theorem sd_ret (h : EvD te σ B d) (e : Ex B H) (k : ∀ v B2 H2, Grow B H B2 H2 → Dt B2 v d → D.rt v H2) : tRet te D σ H := h H e _ k
theorem sd_asg {i : Nat} (h : EvD te σ B d) (e : Ex B H) (k : ∀ v B2 H2, Grow B H B2 H2 → Dt B2 v d → D.nx (σ.set i (some v)) H2) : tAsg te (gName i) D σ H := h H e _ k
theorem qd_asg {i : Nat} (h : EvD te σ B d) (e : Ex B H) (k : ∀ v B2 H2, Grow B H B2 H2 → Dt B2 v d → tz D (σ.set i (some v)) H2) : tSeq (tAsg te (gName i)) tz D σ H := h H e _ k
theorem sd_if {b : Bool} (h : EvB t σ B b) (e : Ex B H) (h1 : b = true → ∀ B2 H2, Grow B H B2 H2 → tu D σ H2) (h2 : b = false → ∀ B2 H2, Grow B H B2 H2 → tw D σ H2) : tIfS t tu tw D σ H := h H e _ fun B2 H2 g => by
  cases b with
  | true =>
    show tu D σ H2
    exact h1 rfl B2 H2 g
  | false =>
    show tw D σ H2
    exact h2 rfl B2 H2 g
theorem qd_if {b : Bool} (h : EvB t σ B b) (e : Ex B H) (h1 : b = true → ∀ B2 H2, Grow B H B2 H2 → tu { D with nx := tz D } σ H2) (h2 : b = false → ∀ B2 H2, Grow B H B2 H2 → tw { D with nx := tz D } σ H2) : tSeq (tIfS t tu tw) tz D σ H :=
  sd_if (D := { D with nx := tz D }) h e h1 h2
theorem qd_when {b : Bool} (h : EvB t σ B b) (e : Ex B H) (h1 : b = true → ∀ B2 H2, Grow B H B2 H2 → tu { D with nx := tz D } σ H2) (h2 : b = false → ∀ B2 H2, Grow B H B2 H2 → tz D σ H2) : tSeq (tIfS t tu tNext) tz D σ H :=
  sd_if (D := { D with nx := tz D }) h e h1 h2
theorem sd_when {b : Bool} (h : EvB t σ B b) (e : Ex B H) (h1 : b = true → ∀ B2 H2, Grow B H B2 H2 → tu D σ H2) (h2 : b = false → ∀ B2 H2, Grow B H B2 H2 → D.nx σ H2) : tIfS t tu tNext D σ H :=
  sd_if h e h1 h2
end
end Oa

set_option Elab.async false
set_option linter.all false
set_option maxRecDepth 100000
set_option maxHeartbeats 2000000
/-! Lists that grow, loops, comprehensions, by data. -/
namespace Oa
open PySem L2 Evl

/-- a list of the def's own at p that has grown to ds since B, H -/
def Acc (B H : Hp) (p : Addr) (ds : List PyData) (H' : Hp) : Prop := ∃ B' xs, Grow B H B' H' ∧ B' p = none ∧ H' p = some (.lst xs) ∧ DtAll B' xs ds
theorem acc_new {B H : Hp} (e : Ex B H) {p : Addr} (h : H p = none) : Acc B H p [] (upd H p (.lst [])) :=
  ⟨B, [], ⟨Ex.new h, Ex.refl B, e.trans (Ex.new h), fun _ q _ => q⟩, fresh_back e h, upd_same, .nil⟩
theorem acc_from {B H B' H' : Hp} (g : Grow B H B' H') {p : Addr} (h : H' p = none) : Acc B H p [] (upd H' p (.lst [])) :=
  ⟨B', [], ⟨g.ex.trans (Ex.new h), g.base, g.sub.trans (Ex.new h), g.out⟩, fresh_back g.sub h, upd_same, .nil⟩
theorem acc_out {B' H' B2 H2 : Hp} {p : Addr} {xs : List V} (g : Grow B' H' B2 H2) (hn : B' p = none) (hp : H' p = some (.lst xs)) : B2 p = none := g.out p hn (by rw [hp]; simp)
theorem acc_app {B H B' H' B2 H2 : Hp} {p : Addr} {xs : List V} {ds : List PyData} {v : V} {d : PyData} (h : H p = none) (g : Grow B H B' H') (hn : B' p = none) (hp : H' p = some (.lst xs)) (hx : DtAll B' xs ds)
    (g2 : Grow B' H' B2 H2) (hv : Dt B2 v d) : Acc B H p (ds ++ [d]) (upd H2 p (.lst (xs ++ [v]))) := by
  have hn2 := acc_out g2 hn hp
  refine ⟨B2, xs ++ [v], ⟨Ex.mut (g.ex.trans g2.ex) h, g.base.trans g2.base, Ex.mut g2.sub hn2, (g.trans g2).out⟩, hn2, upd_same, (hx.ex g2.base).append (.one hv)⟩
theorem acc_keep {B H B' H' B2 H2 : Hp} {p : Addr} {xs : List V} {ds : List PyData} (g : Grow B H B' H') (hn : B' p = none) (hp : H' p = some (.lst xs)) (hx : DtAll B' xs ds)
    (g2 : Grow B' H' B2 H2) : Acc B H p ds H2 := ⟨B2, xs, g.trans g2, acc_out g2 hn hp, g2.ex _ _ hp, hx.ex g2.base⟩
theorem acc_done {B H H' : Hp} {p : Addr} {ds : List PyData} (h : H p = none) (a : Acc B H p ds H') : ∃ B2, Grow B H B2 H' ∧ Dt B2 (.ref p) (.list ds) := by
  obtain ⟨B', xs, g, hn, hp, hx⟩ := a
  refine ⟨upd B' p (.lst xs), ⟨g.ex, g.base.trans (Ex.new hn), fun b o q => ?_, fun b q1 q2 => ?_⟩, .lst upd_same (hx.ex (Ex.new hn))⟩
  · by_cases hb : b = p
    · subst hb
      rw [upd_same] at q
      cases q
      exact hp
    · rw [upd_ne hb] at q
      exact g.sub b o q
  · have hb : b ≠ p := fun z => q2 (by rw [z]; exact h)
    rw [upd_ne hb]
    exact g.out b q1 q2
theorem Acc.ex {B H H' : Hp} {p : Addr} {ds : List PyData} (a : Acc B H p ds H') : Ex B H' := by
  obtain ⟨B', xs, g, _⟩ := a
  exact g.base.trans g.sub

section
variable {K : PySem.W.Frag} {σ : L2.St} {B A H : Hp} {ta tb te tl : TE} {t u : TT} {x y z v : V} {r : R2} {d d1 d2 : PyData} {D : Ends} {tu tw tz : TS} {g : TG}
/-- xs.append(e) of a list of the def's own -/
theorem sd_app {i : Nat} {p : Addr} {xs : List V} (hp : H p = some (.lst xs)) (ha : σ[i]? = some (some (.ref p))) (h : EvD te σ B d) (e : Ex B H) (hz : xs.length < 100000)
    (k : ∀ v B2 H2, Grow B H B2 H2 → Dt B2 v d → D.nx σ (upd H2 p (.lst (xs ++ [v])))) : tDrop (tBM K "list" rAppend (tVar i) (tCons te tNil)) D σ H :=
  ⟨_, ha, Or.inl ⟨rfl, xs, sq_of hp⟩, h H e _ fun v B2 H2 g2 hv => ⟨p, xs, v, rfl, rfl, g2.ex _ _ hp, sz_lt hz, k v B2 H2 g2 hv⟩⟩
theorem sd_appA {B0 H0 : Hp} {i : Nat} {p : Addr} {ds : List PyData} (h0 : H0 p = none) (a : Acc B0 H0 p ds H) (ha : σ[i]? = some (some (.ref p))) (h : EvD te σ B0 d) (hz : ds.length < 100000)
    (k : ∀ H2, Acc B0 H0 p (ds ++ [d]) H2 → D.nx σ H2) : tDrop (tBM K "list" rAppend (tVar i) (tCons te tNil)) D σ H := by
  obtain ⟨B', xs, g, hn, hp, hx⟩ := a
  exact sd_app hp ha (h.mono g.base) g.sub (by rw [hx.length]; exact hz) fun v B2 H2 g2 hv => k _ (acc_app h0 g hn hp hx g2 hv)
theorem qd_appA {B0 H0 : Hp} {i : Nat} {p : Addr} {ds : List PyData} (h0 : H0 p = none) (a : Acc B0 H0 p ds H) (ha : σ[i]? = some (some (.ref p))) (h : EvD te σ B0 d) (hz : ds.length < 100000)
    (k : ∀ H2, Acc B0 H0 p (ds ++ [d]) H2 → tz D σ H2) : tSeq (tDrop (tBM K "list" rAppend (tVar i) (tCons te tNil))) tz D σ H :=
  sd_appA (D := { D with nx := tz D }) h0 a ha h hz k
/-- x = [] : a list of the def's own -/
theorem qd_new {B0 H0 : Hp} {i : Nat} (g : Grow B0 H0 B H) (k : ∀ p, H p = none → Acc B0 H0 p [] (upd H p (.lst [])) → tz D (σ.set i (some (.ref p))) (upd H p (.lst []))) : tSeq (tAsg (tLst tNil) (gName i)) tz D σ H :=
  ⟨Nat.zero_le _, fun p hp => k p hp (acc_from g hp)⟩
/-- for i in range(n) -/
theorem sd_forR1 {ta : TA} {j n : Nat} (h : EvDA ta σ B [.int n]) (hn : n ≤ 100000) (e : Ex B H) (Pv : Nat → L2.St → Hp → Prop) (h0 : ∀ B2 H2, Grow B H B2 H2 → Pv 0 σ H2)
    (hs : ∀ (i : Nat) σ' H', i < n → Pv i σ' H' → tu { D with nx := Pv (i + 1), ct := Pv (i + 1), bk := D.nx } (σ'.set j (some (.int (i : Int)))) H') (hd : ∀ σ' H', Pv n σ' H' → D.nx σ' H') : tFor (iRng1 ta) (gName j) tu D σ H :=
  h H e _ fun vs B2 H2 g2 hv => by
    cases hv with
    | cons hv1 hv2 =>
      cases hv1
      cases hv2
      refine ⟨(n : Int), rfl, by omega, by omega, for_range (lo := 0) (n := (n : Int).toNat) Pv (h0 B2 H2 g2) (fun i σ' H' hi p => ?_) (fun σ' H' p => hd σ' H' (by rw [Int.toNat_natCast] at p; exact p))⟩
      have e0 : (0 : Int) + (i : Int) = (i : Int) := Int.zero_add _
      show tu { D with nx := Pv (i + 1), ct := Pv (i + 1), bk := D.nx } (σ'.set j (some (.int ((0 : Int) + (i : Int))))) H'
      rw [e0]
      exact hs i σ' H' (by omega) p
theorem qd_forR1 {ta : TA} {j n : Nat} (h : EvDA ta σ B [.int n]) (hn : n ≤ 100000) (e : Ex B H) (Pv : Nat → L2.St → Hp → Prop) (h0 : ∀ B2 H2, Grow B H B2 H2 → Pv 0 σ H2)
    (hs : ∀ (i : Nat) σ' H', i < n → Pv i σ' H' → tu { D with nx := Pv (i + 1), ct := Pv (i + 1), bk := tz D } (σ'.set j (some (.int (i : Int)))) H') (hd : ∀ σ' H', Pv n σ' H' → tz D σ' H') : tSeq (tFor (iRng1 ta) (gName j) tu) tz D σ H :=
  sd_forR1 (D := { D with nx := tz D }) h hn e Pv h0 hs hd
/-- for x in a list of data; B2 is the part that holds the list -/
theorem sd_forL {ds : List PyData} (h : EvD tl σ B (.list ds)) (e : Ex B H)
    (k : ∀ B2 H2, Grow B H B2 H2 → ∃ Pv : Nat → L2.St → Hp → Prop, Pv 0 σ H2 ∧ (∀ i σ' H', Pv i σ' H' → Ex B2 H') ∧
      (∀ i d v σ' H', ds[i]? = some d → Dt B2 v d → Pv i σ' H' → g v σ' H' fun σ2 H2 => tu { D with nx := Pv (i + 1), ct := Pv (i + 1), bk := D.nx } σ2 H2) ∧ (∀ σ' H', Pv ds.length σ' H' → D.nx σ' H')) :
    tFor (iList K tl) g tu D σ H := h H e _ fun v B2 H2 g2 hv => by
  obtain ⟨a, xs, rfl, ha, hall⟩ := dt_list hv
  obtain ⟨Pv, h0, hl, hs, hd⟩ := k B2 H2 g2
  refine ⟨a, rfl, ⟨xs, sq_of (g2.sub _ _ ha)⟩, for_list (xs := xs) Pv h0 (fun i σ' H' _ p => sq_of (hl i σ' H' p _ _ ha)) (fun i x σ' H' hx p => ?_) (fun σ' H' p => hd σ' H' (by rw [← hall.length]; exact p))⟩
  obtain ⟨d, hd', hdt⟩ := hall.get hx
  exact hs i d x σ' H' hd' hdt p
theorem qd_forL {ds : List PyData} (h : EvD tl σ B (.list ds)) (e : Ex B H)
    (k : ∀ B2 H2, Grow B H B2 H2 → ∃ Pv : Nat → L2.St → Hp → Prop, Pv 0 σ H2 ∧ (∀ i σ' H', Pv i σ' H' → Ex B2 H') ∧
      (∀ i d v σ' H', ds[i]? = some d → Dt B2 v d → Pv i σ' H' → g v σ' H' fun σ2 H2 => tu { D with nx := Pv (i + 1), ct := Pv (i + 1), bk := tz D } σ2 H2) ∧ (∀ σ' H', Pv ds.length σ' H' → tz D σ' H')) :
    tSeq (tFor (iList K tl) g tu) tz D σ H := sd_forL (D := { D with nx := tz D }) h e k
/-- for i, x in enumerate(a list of data): a new pair each turn -/
theorem sd_forE {ta : TA} {ds : List PyData} {i1 i2 : Nat} (h : EvDA ta σ B [.list ds]) (e : Ex B H)
    (k : ∀ B2 H2, Grow B H B2 H2 → ∃ Pv : Nat → L2.St → Hp → Prop, Pv 0 σ H2 ∧ (∀ i σ' H', Pv i σ' H' → Ex B2 H') ∧
      (∀ i d v σ' H' T, ds[i]? = some d → Dt B2 v d → Pv i σ' H' → H' T = none → tu { D with nx := Pv (i + 1), ct := Pv (i + 1), bk := D.nx } ((σ'.set i1 (some (.int (i : Int)))).set i2 (some v)) (upd H' T (.tup [.int (i : Int), v]))) ∧ (∀ σ' H', Pv ds.length σ' H' → D.nx σ' H')) :
    tFor (iEnum K ta) (gTup K 2 (gCons (gName i1) (gCons (gName i2) gNil))) tu D σ H := h H e _ fun vs B2 H2 g2 hv => by
  cases hv with
  | cons hv1 hv2 =>
    cases hv2
    obtain ⟨a, xs, rfl, ha, hall⟩ := dt_list hv1
    obtain ⟨Pv, h0, hl, hs, hd⟩ := k B2 H2 g2
    refine ⟨a, xs, rfl, sq_of (g2.sub _ _ ha), fun i m σ H => m = xs.length - i ∧ i ≤ xs.length ∧ Pv i σ H, ⟨xs.length, by simp, Nat.zero_le _, h0⟩, ?_⟩
    rintro i m σ H ⟨rfl, hi, p⟩
    have q : SqL K H a xs := sq_of (hl i σ H p _ _ ha)
    by_cases hlt : i < xs.length
    · refine .inr ⟨⟨xs, xs[i], q, by simp [hlt]⟩, Pv (i + 1), fun σ' H' p' => ⟨xs.length - (i + 1), by omega, rfl, hlt, p'⟩, fun x H' y => ?_⟩
      obtain ⟨T, x', rfl, hT, rfl, hx'⟩ := y
      obtain ⟨d, hd', hdt⟩ := hall.get (hx' xs q)
      refine ⟨T, _, rfl, st_of upd_same, rfl, _, _, rfl, _, _, rfl, rfl, ?_⟩
      exact hs i d x' σ H T hd' hdt p hT
    · have e : i = xs.length := by omega
      subst e
      exact .inl ⟨⟨xs, q, Nat.le_refl _⟩, hd σ H (by rw [← hall.length]; exact p)⟩
theorem qd_forE {ta : TA} {ds : List PyData} {i1 i2 : Nat} (h : EvDA ta σ B [.list ds]) (e : Ex B H)
    (k : ∀ B2 H2, Grow B H B2 H2 → ∃ Pv : Nat → L2.St → Hp → Prop, Pv 0 σ H2 ∧ (∀ i σ' H', Pv i σ' H' → Ex B2 H') ∧
      (∀ i d v σ' H' T, ds[i]? = some d → Dt B2 v d → Pv i σ' H' → H' T = none → tu { D with nx := Pv (i + 1), ct := Pv (i + 1), bk := tz D } ((σ'.set i1 (some (.int (i : Int)))).set i2 (some v)) (upd H' T (.tup [.int (i : Int), v]))) ∧ (∀ σ' H', Pv ds.length σ' H' → tz D σ' H')) :
    tSeq (tFor (iEnum K ta) (gTup K 2 (gCons (gName i1) (gCons (gName i2) gNil))) tu) tz D σ H := sd_forE (D := { D with nx := tz D }) h e k
/-- a pair's two names -/
theorem gd_pair {i1 i2 : Nat} {R : L2.St → Hp → Prop} (hv : Dt B v (.tuple [d1, d2])) (e : Ex B H) (k : ∀ v1 v2, Dt B v1 d1 → Dt B v2 d2 → R ((σ.set i1 (some v1)).set i2 (some v2)) H) :
    gTup K 2 (gCons (gName i1) (gCons (gName i2) gNil)) v σ H R := by
  obtain ⟨a, xs, rfl, ha, hall⟩ := dt_tuple hv
  cases hall with
  | cons h1 hr =>
    cases hr with
    | cons h2 hr2 =>
      cases hr2
      exact ⟨a, _, rfl, st_of (e _ _ ha), rfl, _, _, rfl, _, _, rfl, rfl, k _ _ h1 h2⟩
/-! comprehensions -/
/-- which of the first n give, and what -/
def giv (n : Nat) (f : Nat → Bool) (w : Nat → PyData) : List PyData := ((List.range n).filter f).map w
theorem giv_yes {n : Nat} {f : Nat → Bool} {w : Nat → PyData} (h : f n = true) : giv (n + 1) f w = giv n f w ++ [w n] := by
  unfold giv
  rw [List.range_succ, List.filter_append, List.map_append, List.filter_cons, if_pos h] <;> rfl
theorem giv_no {n : Nat} {f : Nat → Bool} {w : Nat → PyData} (h : f n = false) : giv (n + 1) f w = giv n f w := by
  unfold giv
  rw [List.range_succ, List.filter_append, List.map_append, List.filter_cons, if_neg (by rw [h]; decide)]
  show _ ++ [] = _
  rw [List.append_nil]
theorem giv_len (n : Nat) (f : Nat → Bool) (w : Nat → PyData) : (giv n f w).length ≤ n := by
  unfold giv
  rw [List.length_map]
  have h := List.length_filter_le f (List.range n)
  rw [List.length_range] at h
  exact h
theorem lc_turn {H H' : Hp} {f : Nat → Bool} {w : Nat → PyData} {p : Addr} {i : Nat} {σ2 : L2.St} (h0 : H p = none) (a : Acc B H p (giv i f w) H') (hi : i < 50000) (ht : EvB t σ2 B (f i)) (he : f i = true → EvD te σ2 B (w i)) :
    t σ2 H' fun b H3 => if b = true then te σ2 H3 fun y H4 => ∃ acc, H4 p = some (.lst acc) ∧ acc.length < sizeLine ∧ Acc B H p (giv (i + 1) f w) (upd H4 p (.lst (acc ++ [y]))) else Acc B H p (giv (i + 1) f w) H3 := by
  obtain ⟨B', xs, g, hn, hp, hx⟩ := a
  refine (ht.mono g.base) H' g.sub _ fun B3 H3 g3 => ?_
  cases hf : f i with
  | true =>
    show te σ2 H3 fun y H4 => ∃ acc, H4 p = some (.lst acc) ∧ acc.length < sizeLine ∧ Acc B H p (giv (i + 1) f w) (upd H4 p (.lst (acc ++ [y])))
    refine ((he hf).mono (g.base.trans g3.base)) H3 g3.sub _ fun v B4 H4 g4 hv => ⟨xs, g4.ex _ _ (g3.ex _ _ hp), sz_lt (by rw [hx.length]; have := giv_len i f w; omega), ?_⟩
    rw [giv_yes hf]
    exact acc_app h0 g hn hp hx (g3.trans g4) hv
  | false =>
    show Acc B H p (giv (i + 1) f w) H3
    rw [giv_no hf]
    exact acc_keep g hn hp hx g3
theorem ed_lcR1 {ta : TA} {j n : Nat} {vs : List Nat} (f : Nat → Bool) (w : Nat → PyData) (h : EvDA ta σ B [.int n]) (hn : n ≤ 40000) (hw : ∀ x, wipe ((wipe σ vs).set j (some x)) vs = wipe σ vs)
    (ht : ∀ (i : Nat), i < n → EvB t ((wipe σ vs).set j (some (.int (i : Int)))) B (f i)) (he : ∀ (i : Nat), i < n → f i = true → EvD te ((wipe σ vs).set j (some (.int (i : Int)))) B (w i)) :
    EvD (tLc (iRng1 ta) (gName j) t te vs) σ B (.list (giv n f w)) := fun H0 e Q q => h H0 e _ fun ws B1 H1 g1 hws => by
  cases hws with
  | cons hv1 hv2 =>
    cases hv1
    cases hv2
    refine ⟨(n : Int), rfl, by omega, by omega, fun Dl hD => lc_range (lo := 0) (n := (n : Int).toNat) (fun i H' => Acc B1 H1 Dl (giv i f w) H') (acc_new g1.sub hD) (fun i H' hi p => ?_) (fun H' p => ?_)⟩
    · have e0 : (0 : Int) + (i : Int) = (i : Int) := Int.zero_add _
      show wipe ((wipe σ vs).set j (some (.int ((0 : Int) + (i : Int))))) vs = wipe σ vs ∧ t ((wipe σ vs).set j (some (.int ((0 : Int) + (i : Int))))) H' fun b H3 => if b = true then te ((wipe σ vs).set j (some (.int ((0 : Int) + (i : Int))))) H3 fun y H4 => ∃ acc, H4 Dl = some (.lst acc) ∧ acc.length < sizeLine ∧ Acc B1 H1 Dl (giv (i + 1) f w) (upd H4 Dl (.lst (acc ++ [y]))) else Acc B1 H1 Dl (giv (i + 1) f w) H3
      rw [e0]
      exact ⟨hw _, lc_turn hD p (by omega) ((ht i (by omega)).mono g1.base) (fun hf => (he i (by omega) hf).mono g1.base)⟩
    · rw [Int.toNat_natCast] at p
      obtain ⟨B2, g2, hd⟩ := acc_done hD p
      exact q _ B2 H' (g1.trans g2) hd
/-- over a list of data, any target -/
theorem ed_lcL {ds : List PyData} {vs : List Nat} (f : Nat → Bool) (w : Nat → PyData) (h : EvD tl σ B (.list ds)) (hz : ds.length ≤ 40000)
    (hs : ∀ (i : Nat) (d : PyData) (x : V) (B' H' : Hp) (R : L2.St → Hp → Prop), ds[i]? = some d → Dt B' x d → Ex B B' → Ex B' H' → (∀ σ2, wipe σ2 vs = wipe σ vs → EvB t σ2 B' (f i) → (f i = true → EvD te σ2 B' (w i)) → R σ2 H') → g x (wipe σ vs) H' R) :
    EvD (tLc (iList K tl) g t te vs) σ B (.list (giv ds.length f w)) := fun H0 e Q q => h H0 e _ fun lv B1 H1 g1 hl => by
  obtain ⟨a, xs, rfl, ha, hall⟩ := dt_list hl
  refine ⟨a, rfl, ⟨xs, sq_of (g1.sub _ _ ha)⟩, fun Dl hD => lc_list (xs := xs) (fun i H' => Acc B1 H1 Dl (giv i f w) H') (acc_new g1.sub hD) (fun i H' _ p => sq_of (p.ex _ _ ha)) (fun i x H' hx p => ?_) (fun H' p => ?_)⟩
  · obtain ⟨d, hd', hdt⟩ := hall.get hx
    refine hs i d x B1 H' _ hd' hdt g1.base p.ex fun σ2 hw ht he => ⟨hw, lc_turn hD p ?_ ht he⟩
    have := (List.getElem?_eq_some_iff.mp hd').1
    omega
  · rw [hall.length] at p
    obtain ⟨B2, g2, hd⟩ := acc_done hD p
    exact q _ B2 H' (g1.trans g2) hd
theorem ed_lcLn {ds : List PyData} {j : Nat} {vs : List Nat} (f : Nat → Bool) (w : Nat → PyData) (h : EvD tl σ B (.list ds)) (hz : ds.length ≤ 40000) (hw : ∀ x, wipe ((wipe σ vs).set j (some x)) vs = wipe σ vs)
    (ht : ∀ (i : Nat) (d : PyData) (x : V) (B' : Hp), ds[i]? = some d → Dt B' x d → Ex B B' → EvB t ((wipe σ vs).set j (some x)) B' (f i)) (he : ∀ (i : Nat) (d : PyData) (x : V) (B' : Hp), ds[i]? = some d → Dt B' x d → Ex B B' → f i = true → EvD te ((wipe σ vs).set j (some x)) B' (w i)) :
    EvD (tLc (iList K tl) (gName j) t te vs) σ B (.list (giv ds.length f w)) :=
  ed_lcL f w h hz fun i d x B' H' R hd hx e e' k => k _ (hw x) (ht i d x B' hd hx e) (he i d x B' hd hx e)
theorem ed_lcLp {ds : List PyData} {j1 j2 : Nat} {vs : List Nat} (f : Nat → Bool) (w : Nat → PyData) (h : EvD tl σ B (.list ds)) (hz : ds.length ≤ 40000) (hw : ∀ x y, wipe (((wipe σ vs).set j1 (some x)).set j2 (some y)) vs = wipe σ vs)
    (ht : ∀ (i : Nat) (d : PyData) (x y : V) (B' : Hp), ds[i]? = some d → Ex B B' → ∃ d1 d2, d = .tuple [d1, d2] ∧ (Dt B' x d1 → Dt B' y d2 → EvB t (((wipe σ vs).set j1 (some x)).set j2 (some y)) B' (f i) ∧ (f i = true → EvD te (((wipe σ vs).set j1 (some x)).set j2 (some y)) B' (w i)))) :
    EvD (tLc (iList K tl) (gTup K 2 (gCons (gName j1) (gCons (gName j2) gNil))) t te vs) σ B (.list (giv ds.length f w)) :=
  ed_lcL f w h hz fun i d x B' H' R hd hx e e' k => by
    obtain ⟨d1, d2, rfl, _⟩ := ht i d .non .non B' hd e
    refine gd_pair hx e' fun v1 v2 h1 h2 => ?_
    obtain ⟨c1, c2, ec, h3⟩ := ht i _ v1 v2 B' hd e
    cases ec
    obtain ⟨h4, h5⟩ := h3 h1 h2
    exact k _ (hw v1 v2) h4 h5
/-! built-ins -/
theorem rc_len {ds : List PyData} : RCD (rLenS K) [.list ds] (.int (ds.length : Nat)) := fun B H1 e vs hv Q q => by
  cases hv with
  | cons h1 h2 =>
    cases h2
    obtain ⟨a, xs, rfl, ha, hall⟩ := dt_list h1
    refine ⟨a, xs, rfl, Or.inl (sq_of (e _ _ ha)), ?_⟩
    rw [hall.length]
    exact q _ B H1 (.refl e) (.int _)
theorem rc_any {bs : List Bool} : RCD (rAny K) [.list (bs.map PyData.bool)] (.bool (bs.any id)) := fun B H1 e vs hv Q q => by
  cases hv with
  | cons h1 h2 =>
    cases h2
    obtain ⟨a, xs, rfl, ha, hall⟩ := dt_list h1
    have := hall.bools
    subst this
    exact ⟨a, bs, rfl, sq_of (e _ _ ha), q _ B H1 (.refl e) (.bl _)⟩
theorem rc_all {bs : List Bool} : RCD (rAll K) [.list (bs.map PyData.bool)] (.bool (bs.all id)) := fun B H1 e vs hv Q q => by
  cases hv with
  | cons h1 h2 =>
    cases h2
    obtain ⟨a, xs, rfl, ha, hall⟩ := dt_list h1
    have := hall.bools
    subst this
    exact ⟨a, bs, rfl, sq_of (e _ _ ha), q _ B H1 (.refl e) (.bl _)⟩
/-- x in a list of numbers -/
theorem inV_ints (i : Int) (l : List Int) : inV (.int i) (l.map V.int) = l.contains i := by
  unfold inV
  rw [List.any_map]
  induction l with
  | nil => rfl
  | cons a l ih =>
    rw [List.any_cons, ih, List.contains_cons]
    congr 1
    show eqV (.int a) (.int i) = (i == a)
    rw [Bool.beq_comm]
    rfl
theorem flat_ints (l : List Int) : (l.map V.int).all flatV = true := by
  rw [List.all_map]
  exact List.all_eq_true.mpr fun _ _ => rfl
theorem rd_inL {neg : Bool} {i : Int} {l : List Int} : RD (rIn K neg) (.int i) (.list (l.map PyData.int)) (.bool (if neg then !l.contains i else l.contains i)) := fun B H1 e x y hx hy Q q => by
  cases hx
  obtain ⟨a, xs, rfl, ha, hall⟩ := dt_list hy
  have := hall.ints
  subst this
  refine ⟨a, _, rfl, Or.inl (sq_of (e _ _ ha)), rfl, flat_ints l, ?_⟩
  rw [inV_ints]
  exact q _ B H1 (.refl e) (.bl _)
theorem rd_inT {neg : Bool} {i : Int} {l : List Int} : RD (rIn K neg) (.int i) (.tuple (l.map PyData.int)) (.bool (if neg then !l.contains i else l.contains i)) := fun B H1 e x y hx hy Q q => by
  cases hx
  obtain ⟨a, xs, rfl, ha, hall⟩ := dt_tuple hy
  have := hall.ints
  subst this
  refine ⟨a, _, rfl, Or.inr (st_of (e _ _ ha)), rfl, flat_ints l, ?_⟩
  rw [inV_ints]
  exact q _ B H1 (.refl e) (.bl _)
end
/-- a part of the heap beside a list of the def's own that grows at p -/
structure Side (B H : Hp) (p : Addr) (A : Hp) : Prop where
  base : Ex B A
  no : A p = none
  out : ∀ b, B b = none → H b ≠ none → A b = none
theorem side_refl {B H H' : Hp} {p : Addr} {ds : List PyData} (a : Acc B H p ds H') : Side B H p B := by
  obtain ⟨B', xs, g, hn, _⟩ := a
  exact ⟨Ex.refl B, fresh_back g.base hn, fun _ h _ => h⟩
theorem Side.grow {B H A A2 H1 H2 : Hp} {p : Addr} {ds : List PyData} (s : Side B H p A) (a : Acc B H p ds H1) (g : Grow A H1 A2 H2) : Side B H p A2 := by
  obtain ⟨B', xs, g1, hn, hp, _⟩ := a
  exact ⟨s.base.trans g.base, g.out p s.no (by rw [hp]; simp), fun b h q => g.out b (s.out b h q) (ne_none g1.ex q)⟩
theorem acc_ext {B H H' H2 : Hp} {p : Addr} {ds : List PyData} (a : Acc B H p ds H') (e : Ex H' H2) : Acc B H p ds H2 := by
  obtain ⟨B', xs, g, hn, hp, hx⟩ := a
  exact ⟨B', xs, ⟨g.ex.trans e, g.base, g.sub.trans e, g.out⟩, hn, e _ _ hp, hx⟩
section
variable {K : PySem.W.Frag} {σ : L2.St} {B0 H0 A H : Hp} {te : TE} {d : PyData} {D : Ends} {tz : TS}
theorem acc_appS {A2 H2 : Hp} {p : Addr} {ds : List PyData} {v : V} {xs : List V} {B' : Hp} (h0 : H0 p = none) (g : Grow B0 H0 B' H) (hn : B' p = none) (hp : H p = some (.lst xs)) (hx : DtAll B' xs ds) (s : Side B0 H0 p A) (g2 : Grow A H A2 H2) (hv : Dt A2 v d) :
    Acc B0 H0 p (ds ++ [d]) (upd H2 p (.lst (xs ++ [v]))) := by
  have hA2 : A2 p = none := g2.out p s.no (by rw [hp]; simp)
  have eB : Ex B' H2 := g.sub.trans g2.ex
  have hj : join B' A2 p = none := by rw [join_none hn]; exact hA2
  refine ⟨join B' A2, xs ++ [v], ⟨Ex.mut (g.ex.trans g2.ex) h0, g.base.trans (ex_joinL _ _), Ex.mut (ex_join eB g2.sub) hj, fun b h q => ?_⟩, hj, upd_same, (hx.ex (ex_joinL _ _)).append (.one (hv.ex (ex_joinR eB g2.sub)))⟩
  rw [join_none (g.out b h q)]
  exact g2.out b (s.out b h q) (ne_none g.ex q)
theorem sd_appS {i : Nat} {p : Addr} {ds : List PyData} (h0 : H0 p = none) (a : Acc B0 H0 p ds H) (s : Side B0 H0 p A) (e : Ex A H) (ha : σ[i]? = some (some (.ref p))) (h : EvD te σ A d) (hz : ds.length < 100000)
    (k : ∀ H2, Ex A H2 → Acc B0 H0 p (ds ++ [d]) H2 → D.nx σ H2) : tDrop (tBM K "list" rAppend (tVar i) (tCons te tNil)) D σ H := by
  obtain ⟨B', xs, g, hn, hp, hx⟩ := a
  exact sd_app hp ha h e (by rw [hx.length]; exact hz) fun v B2 H2 g2 hv => k _ (Ex.mut (g2.base.trans g2.sub) s.no) (acc_appS h0 g hn hp hx s g2 hv)
theorem qd_appS {i : Nat} {p : Addr} {ds : List PyData} (h0 : H0 p = none) (a : Acc B0 H0 p ds H) (s : Side B0 H0 p A) (e : Ex A H) (ha : σ[i]? = some (some (.ref p))) (h : EvD te σ A d) (hz : ds.length < 100000)
    (k : ∀ H2, Ex A H2 → Acc B0 H0 p (ds ++ [d]) H2 → tz D σ H2) : tSeq (tDrop (tBM K "list" rAppend (tVar i) (tCons te tNil))) tz D σ H :=
  sd_appS (D := { D with nx := tz D }) h0 a s e ha h hz k
theorem qd_newD {i : Nat} {ta : TA} {ds : List PyData} (h : EvDA ta σ A ds) (e : Ex A H) (hl : ds.length ≤ 100000) (k : ∀ p H2, H p = none → Acc A H p ds H2 → tz D (σ.set i (some (.ref p))) H2) : tSeq (tAsg (tLst ta) (gName i)) tz D σ H :=
  h H e _ fun vs B2 H2 g hv => ⟨sz_of (by rw [hv.length]; exact hl), fun p hp => k p _ (fresh_back g.ex hp) ⟨B2, vs, ⟨g.ex.trans (Ex.new hp), g.base, g.sub.trans (Ex.new hp), g.out⟩, fresh_back g.sub hp, upd_same, hv⟩⟩
end
end Oa

set_option Elab.async false
set_option linter.all false
set_option maxRecDepth 100000
set_option maxHeartbeats 2000000
/-! Words for the ties between the program's text and its readings. -/
namespace Oa
open PySem PySem.Spec PyProof.Rows L2 Evl
def top (i : Nat) : Stmt := PySem.Challenge.pw_ordersalone_s01_answers.main.body.getD i (.Pass ⟨0, 0, 0, 0⟩)
abbrev rAdd : R2 := rI0 fun i j => .int (i + j)
abbrev rSub : R2 := rI0 fun i j => .int (i - j)
abbrev rMul : R2 := rI CMul fun i j => .int (i * j)
abbrev rLt : R2 := rI0 fun i j => .bl (decide (i < j))
abbrev rLe : R2 := rI0 fun i j => .bl (decide (i ≤ j))
abbrev rGt : R2 := rI0 fun i j => .bl (decide (j < i))
abbrev rGe : R2 := rI0 fun i j => .bl (decide (j ≤ i))
abbrev uNeg : V → Hp → VK → Prop := rU fun i => .int (-i)
abbrev rIsN : R2 := fun x y H Q => y = .non ∧ Q (.bl (decide (x = .non))) H
abbrev rNotN : R2 := fun x y H Q => y = .non ∧ Q (.bl (!decide (x = .non))) H
/-- a value's truth -/
abbrev tTru (K : PySem.W.Frag) (te : TE) : TT := fun σ H Q => te σ H fun x H' => ∃ k, TruV K x H' k ∧ Q k H'
/-- a def that stands under its name and keeps its promise -/
structure Cal (P : Program) (w : World) (K : PySem.W.Frag) (mg : Str → Option Value) (base : Heap) (x : Str) (k : Nat) (ps : List Str) (sp : Sp) : Prop where
  ex : ∃ (f : Addr) (fd : FuncData), FnOk P w K mg base CX0 k f fd ps sp ∧ mg x = some (.ref f) ∧ PySem.W.keepIn K (.ref f) = true ∧ Binds K fd ps []
/-- a method -/
structure CalM (P : Program) (w : World) (K : PySem.W.Frag) (mg : Str → Option Value) (base : Heap) (C : Addr) (m : Str) (k : Nat) (ps : List Str) (sp : Sp) : Prop where
  ex : ∃ (f : Addr) (fd : FuncData), FnOk P w K mg base CX0 k f fd ps sp ∧ Meth K C m f ∧ Binds K fd ps []
/-- a class that makes instances by its __init__ -/
structure CalC (P : Program) (w : World) (K : PySem.W.Frag) (mg : Str → Option Value) (base : Heap) (C : Addr) (x : Str) (k : Nat) (ps : List Str) (sp : Sp) : Prop where
  ex : ∃ (f : Addr) (fd : FuncData), FnOk P w K mg base CX0 k f fd ps sp ∧ Mk K C f ∧ mg x = some (.ref C) ∧ Binds K fd ps []
theorem units65 {k : Nat} {A : Around} (hr : Room k A) : A.units + 65 < cLine := by
  have := hr.un
  omega
section
variable {X : Cx} {k : Nat} {C : Addr} {ps : List Str} {sp : Sp} {x m : Str} {p pos apos : Pos} {e o : Expr} {es : List Expr} {ta : TE} {t : TA}
theorem pe_callC (c : Cal X.prog X.w X.K X.mg X.base x k ps sp) (hr : Room k X.A) (hg : Gl X x) (ha : PA X (e :: es) t) (hdb : (x == ("__debug__" : Str)) = false := by decide) (he : starEach (e :: es) X.env = (false, eval e X.env) :: starEach es X.env := by rfl) (hpl : (backTo pos (starEach es X.env)).any (·.1) = false := by rfl) :
    PE X (.Call (.Name x p) (e :: es) [] pos) (tCall sp [] E0 t) := by
  obtain ⟨f, fd, F, hm, hk, hb⟩ := c.ex
  exact pe_call F hr hg hm hk hb .nil pass0 ha hdb he hpl
theorem pe_callC0 (c : Cal X.prog X.w X.K X.mg X.base x k ps sp) (hr : Room k X.A) (hg : Gl X x) (hdb : (x == ("__debug__" : Str)) = false := by decide) :
    PE X (.Call (.Name x p) [] [] pos) (tCall sp [] E0 tNil) := by
  obtain ⟨f, fd, F, hm, hk, hb⟩ := c.ex
  exact pe_call0 F hr hg hm hk hb .nil pass0 hdb
theorem pe_methC {pl : Sem Bool} (c : CalM X.prog X.w X.K X.mg X.base C m k ps sp) (cl : Cls X.K C) (hr : Room k X.A) (he : PE X o ta) (ha : PA X (e :: es) t)
    (hst : starEach (e :: es) X.env = (false, eval e X.env) :: starEach es X.env := by rfl) (hpl : (backTo pos (starEach es X.env)).any (·.1) = false := by rfl)
    (ht : eval (.Call (.Attribute o m apos) (e :: es) [] pos) X.env = (do
      let ov ← eval o X.env
      standAt apos.atName
      let (f, first) ← holding [ov] (getMethod ov m pl)
      callWith pos f first (backTo pos (starEach (e :: es) X.env)) (backToKw pos (keywordEach [] X.env))) := by rfl) :
    PE X (.Call (.Attribute o m apos) (e :: es) [] pos) (tMeth C m sp [] E0 ta t) := by
  obtain ⟨f, fd, F, hm, hb⟩ := c.ex
  exact pe_meth he cl hm F hr hb .nil pass0 ha hst hpl ht
theorem pe_methC0 {pl : Sem Bool} (c : CalM X.prog X.w X.K X.mg X.base C m k ps sp) (cl : Cls X.K C) (hr : Room k X.A) (he : PE X o ta)
    (ht : eval (.Call (.Attribute o m apos) [] [] pos) X.env = (do
      let ov ← eval o X.env
      standAt apos.atName
      let (f, first) ← holding [ov] (getMethod ov m pl)
      callWith pos f first (backTo pos (starEach [] X.env)) (backToKw pos (keywordEach [] X.env))) := by rfl) :
    PE X (.Call (.Attribute o m apos) [] [] pos) (tMeth C m sp [] E0 ta tNil) := by
  obtain ⟨f, fd, F, hm, hb⟩ := c.ex
  exact pe_meth0 he cl hm F hr hb .nil pass0 ht
theorem pe_cst {v : Int} (hg : Gl X x) (hm : ∃ t, X.mg x = some (.int v t)) (hd : (x == ("__debug__" : Str)) = false := by decide) : PE X (.Name x pos) (tC (.int v)) := by
  obtain ⟨t, e⟩ := hm
  exact pe_glob hg e ⟨t, rfl⟩ hd
theorem pe_makeC0 (c : CalC X.prog X.w X.K X.mg X.base C x k ps sp) (hr : Room (k + 1) X.A) (hg : Gl X x) (hdb : (x == ("__debug__" : Str)) = false := by decide) :
    PE X (.Call (.Name x p) [] [] pos) (tMake C sp [] E0 tNil) := by
  obtain ⟨f, fd, F, M, hm, hb⟩ := c.ex
  exact pe_make0 M F hr hg hm hb .nil pass0 hdb
theorem pe_makeC (c : CalC X.prog X.w X.K X.mg X.base C x k ps sp) (hr : Room (k + 1) X.A) (hg : Gl X x) (ha : PA X (e :: es) t) (hdb : (x == ("__debug__" : Str)) = false := by decide) (he : starEach (e :: es) X.env = (false, eval e X.env) :: starEach es X.env := by rfl) (hpl : (backTo pos (starEach es X.env)).any (·.1) = false := by rfl) :
    PE X (.Call (.Name x p) (e :: es) [] pos) (tMake C sp [] E0 t) := by
  obtain ⟨f, fd, F, M, hm, hb⟩ := c.ex
  exact pe_make M F hr hg hm hb .nil pass0 ha hdb he hpl
end
end Oa

set_option Elab.async false
set_option linter.all false
set_option maxRecDepth 100000
set_option maxHeartbeats 4000000
/-! Printed from the program's own text: each def's place, slots, reading and tie. -/
namespace Oa
open PySem PySem.Spec PyProof.Rows L2 Evl
/-- what the top has written -/
structure Txt (K : PySem.W.Frag) (mg : Str → Option Value) (C : Addr) (a_WIDTHS : Addr) : Prop where
  cl : Cls K C
  f_earlier : NoAttr K C "earlier"
  f_size : NoAttr K C "size"
  f_told_pairs : NoAttr K C "told_pairs"
  all : mg "all" = none
  any : mg "any" = none
  enumerate : mg "enumerate" = none
  len : mg "len" = none
  list : mg "list" = none
  range : mg "range" = none
  sorted : mg "sorted" = none
  c_NO_SUCH : ∃ t, mg "NO_SUCH" = some (.int (-2) t)
  c_ONLY_ONE : ∃ t, mg "ONLY_ONE" = some (.int (-6) t)
  c_NO_CHANGE : ∃ t, mg "NO_CHANGE" = some (.int (-6) t)
  c_NOT_BEGUN : ∃ t, mg "NOT_BEGUN" = some (.int (-11) t)
  c_TOLD_ALREADY : ∃ t, mg "TOLD_ALREADY" = some (.int (-17) t)
  c_NOT_AS_TOLD : ∃ t, mg "NOT_AS_TOLD" = some (.int (-22) t)
  c_NONE_THERE : ∃ t, mg "NONE_THERE" = some (.int (-33) t)
  c_RING : ∃ t, mg "RING" = some (.int (-35) t)
  c_MOST_EVENTS : ∃ t, mg "MOST_EVENTS" = some (.int (6) t)
  c_MOST_CHANGES : ∃ t, mg "MOST_CHANGES" = some (.int (10) t)
  c_BEGIN : ∃ t, mg "BEGIN" = some (.int (0) t)
  c_TELL : ∃ t, mg "TELL" = some (.int (1) t)
  c_UNTELL : ∃ t, mg "UNTELL" = some (.int (2) t)
  c_TURN : ∃ t, mg "TURN" = some (.int (3) t)
  c_WITHOUT : ∃ t, mg "WITHOUT" = some (.int (4) t)
  c_TOLD : ∃ t, mg "TOLD" = some (.int (5) t)
  c_HEARD : ∃ t, mg "HEARD" = some (.int (6) t)
  c_PAIRS : ∃ t, mg "PAIRS" = some (.int (7) t)
  c_PAST : ∃ t, mg "PAST" = some (.int (8) t)
  c_LINKS : ∃ t, mg "LINKS" = some (.int (9) t)
  c_ORDERS : ∃ t, mg "ORDERS" = some (.int (10) t)
  c_ORDER : ∃ t, mg "ORDER" = some (.int (11) t)
  c_FITS : ∃ t, mg "FITS" = some (.int (12) t)
  c_FIRST : ∃ t, mg "FIRST" = some (.int (13) t)
  c_SOONER : ∃ t, mg "SOONER" = some (.int (14) t)
  c_PLACE : ∃ t, mg "PLACE" = some (.int (15) t)
  c_LINE : ∃ t, mg "LINE" = some (.int (16) t)
  c_EVENTS : ∃ t, mg "EVENTS" = some (.int (17) t)
  c_FEWEST : ∃ t, mg "FEWEST" = some (.int (18) t)
  c_ROW : ∃ t, mg "ROW" = some (.int (19) t)
  c_APART : ∃ t, mg "APART" = some (.int (20) t)
  c_BACK : ∃ t, mg "BACK" = some (.int (21) t)
  c_WIDTHS : mg "WIDTHS" = some (.ref a_WIDTHS)
  w_WIDTHS : ∀ H : Hp, SqT K H a_WIDTHS (([1, 2, 2, 0, 1, 0, 2, 0, 1, 0, 0, 1, 1, 0, 2, 1, 0, 0, 0, 0, 0, 0, 0] : List Int).map V.int)
section
variable {P : Program} {w : World} {K : PySem.W.Frag} {mg : Str → Option Value} {base : Heap} {C a_WIDTHS : Addr}
/-! heard_table -/
abbrev s_heard_table : Stmt := top 1
abbrev n_heard_table : List Str := ["size", "told_pairs", "table", "i", "j", "middle", "event"]
theorem sc_heard_table : FnScope n_heard_table ["size", "told_pairs"] (defScope s_heard_table) := ⟨rfl, rfl, rfl, by decide +kernel, rfl, by decide +kernel, by decide +kernel⟩
def t_heard_table (K : PySem.W.Frag) (C : Addr) : TS :=
    (tSeq (tAsg (tLc (iRng1 (tCons (tVar 0) tNil)) (gName 6) tYes (tOp rRep (tLst (tCons (tC (.bl false)) tNil)) (tVar 0)) [6]) (gName 2))
    (tSeq (tFor (iList K (tVar 1)) (gTup K 2 (gCons (gName 3) (gCons (gName 4) gNil))) (tAsg (tC (.bl true)) (gSub (tOp (rIxL K) (tVar 2) (tVar 3)) (tVar 4) rSetL)))
    (tSeq (tFor (iRng1 (tCons (tVar 0) tNil)) (gName 5) (tFor (iRng1 (tCons (tVar 0) tNil)) (gName 3) (tFor (iRng1 (tCons (tVar 0) tNil)) (gName 4) (tIfS (tAnd (tB (tOp (rIxL K) (tOp (rIxL K) (tVar 2) (tVar 3)) (tVar 5))) (tB (tOp (rIxL K) (tOp (rIxL K) (tVar 2) (tVar 5)) (tVar 4)))) (tAsg (tC (.bl true)) (gSub (tOp (rIxL K) (tVar 2) (tVar 3)) (tVar 4) rSetL)) tNext))))
    (tRet (tVar 2)))))
theorem tie_heard_table {sp : Sp} {f : Addr} {fd : FuncData} (F : Fun K "heard_table" "heard_table" s_heard_table f fd) (T : Txt K mg C a_WIDTHS)
    (len : ∀ vs H Q E, sp vs H Q E → vs.length = ["size", "told_pairs"].length) (pure : ∀ vs H Q E, sp vs H Q E → t_heard_table K C { nx := fun _ H' => Q .non H', rt := Q } (start n_heard_table vs) H) :
    FnOk P w K mg base CX0 1 f fd ["size", "told_pairs"] sp := by
  refine F.ok sc_heard_table len (fun cdv A outer s H vs Q E hr h => ⟨t_heard_table K C, ?_, pure vs H Q E h⟩)
  exact (pss_cons (ps_setLc (i := 2) (own := [("event", 6)]) (g := (gName 6)) (tt := tYes) (te := (tOp rRep (tLst (tCons (tC (.bl false)) tNil)) (tVar 0))) (by rfl) sc_heard_table.nd rfl rfl (sw_true rfl rfl rfl (by decide +kernel)) (pi_range1 (by rfl) T.range (pa_cons (pv 0) pa_nil)) (blkOk_by (own := [("event", 6)]) (N := n_heard_table) (sc := defScope s_heard_table) (by decide +kernel)) (fun _ _ _ _ _ => (pg_name (i := 6) sc_heard_table.nd rfl (by first | exact Or.inl rfl | exact Or.inr rfl))) (fun _ _ _ _ _ => pts_nil) (fun _ _ _ _ _ => (pe_op op_rep (pe_lst (pa_cons pe_bl pa_nil)) (pv 0))))
      (pss_cons (ps_for PassesOwn.never rfl (pi_list (pv 1)) (pg_tup rfl (pgs_cons (pg_name (i := 3) sc_heard_table.nd rfl (by first | exact Or.inl rfl | exact Or.inr rfl)) (pgs_cons (pg_name (i := 4) sc_heard_table.nd rfl (by first | exact Or.inl rfl | exact Or.inr rfl)) pgs_nil))) (pss_one (ps_asg pe_bl (pg_sub (pe_ix ix_list (pv 2) (pv 3) (fun _ _ => rfl)) (pv 4) set_list))))
      (pss_cons (ps_for PassesOwn.never rfl (pi_range1 (by rfl) T.range (pa_cons (pv 0) pa_nil)) (pg_name (i := 5) sc_heard_table.nd rfl (by first | exact Or.inl rfl | exact Or.inr rfl)) (pss_one (ps_for PassesOwn.never rfl (pi_range1 (by rfl) T.range (pa_cons (pv 0) pa_nil)) (pg_name (i := 3) sc_heard_table.nd rfl (by first | exact Or.inl rfl | exact Or.inr rfl)) (pss_one (ps_for PassesOwn.never rfl (pi_range1 (by rfl) T.range (pa_cons (pv 0) pa_nil)) (pg_name (i := 4) sc_heard_table.nd rfl (by first | exact Or.inl rfl | exact Or.inr rfl)) (pss_one (ps_if (PW.pt (pw_and (pt_val (pe_ix ix_list (pe_ix ix_list (pv 2) (pv 3) (fun _ _ => rfl)) (pv 5) (fun _ _ => rfl))) (pw_and1 (pt_val (pe_ix ix_list (pe_ix ix_list (pv 2) (pv 5) (fun _ _ => rfl)) (pv 4) (fun _ _ => rfl)))))) (pss_one (ps_asg pe_bl (pg_sub (pe_ix ix_list (pv 2) (pv 3) (fun _ _ => rfl)) (pv 4) set_list))) pss_nil)))))))
      (pss_one (ps_ret (pv 2))))))
/-! heard_pairs -/
abbrev s_heard_pairs : Stmt := top 2
abbrev n_heard_pairs : List Str := ["table", "found", "i", "j"]
theorem sc_heard_pairs : FnScope n_heard_pairs ["table"] (defScope s_heard_pairs) := ⟨rfl, rfl, rfl, by decide +kernel, rfl, by decide +kernel, by decide +kernel⟩
def t_heard_pairs (K : PySem.W.Frag) (C : Addr) : TS :=
    (tSeq (tAsg (tLst tNil) (gName 1))
    (tSeq (tFor (iRng1 (tCons (tCB (rLenS K) (tCons (tVar 0) tNil)) tNil)) (gName 2) (tFor (iRng1 (tCons (tCB (rLenS K) (tCons (tVar 0) tNil)) tNil)) (gName 3) (tIfS (tB (tOp (rIxL K) (tOp (rIxL K) (tVar 0) (tVar 2)) (tVar 3))) (tDrop (tBM K "list" rAppend (tVar 1) (tCons (tTup (tCons (tVar 2) (tCons (tVar 3) tNil))) tNil))) tNext)))
    (tRet (tVar 1))))
theorem tie_heard_pairs {sp : Sp} {f : Addr} {fd : FuncData} (F : Fun K "heard_pairs" "heard_pairs" s_heard_pairs f fd) (T : Txt K mg C a_WIDTHS)
    (len : ∀ vs H Q E, sp vs H Q E → vs.length = ["table"].length) (pure : ∀ vs H Q E, sp vs H Q E → t_heard_pairs K C { nx := fun _ H' => Q .non H', rt := Q } (start n_heard_pairs vs) H) :
    FnOk P w K mg base CX0 1 f fd ["table"] sp := by
  refine F.ok sc_heard_pairs len (fun cdv A outer s H vs Q E hr h => ⟨t_heard_pairs K C, ?_, pure vs H Q E h⟩)
  exact (pss_cons (ps_set (i := 1) sc_heard_pairs.nd rfl (by first | exact Or.inl rfl | exact Or.inr rfl) (pe_lst pa_nil))
      (pss_cons (ps_for PassesOwn.never rfl (pi_range1 (by rfl) T.range (pa_cons (pe_callB call_len_seq (by rfl) T.len PySem.boot_len (pa_cons (pv 0) pa_nil)) pa_nil)) (pg_name (i := 2) sc_heard_pairs.nd rfl (by first | exact Or.inl rfl | exact Or.inr rfl)) (pss_one (ps_for PassesOwn.never rfl (pi_range1 (by rfl) T.range (pa_cons (pe_callB call_len_seq (by rfl) T.len PySem.boot_len (pa_cons (pv 0) pa_nil)) pa_nil)) (pg_name (i := 3) sc_heard_pairs.nd rfl (by first | exact Or.inl rfl | exact Or.inr rfl)) (pss_one (ps_if (pt_val (pe_ix ix_list (pe_ix ix_list (pv 0) (pv 2) (fun _ _ => rfl)) (pv 3) (fun _ _ => rfl))) (pss_one (ps_expr (pe_bm PySem.F.plainAttrs_list PySem.F.slot_list_append PySem.F.type_list_append mt_append (pv 1) (pa_cons (pe_tup (pa_cons (pv 2) (pa_cons (pv 3) pa_nil))) pa_nil)))) pss_nil)))))
      (pss_one (ps_ret (pv 1)))))
/-! one_lies_between -/
abbrev s_one_lies_between : Stmt := top 3
abbrev n_one_lies_between : List Str := ["table", "i", "j", "k"]
theorem sc_one_lies_between : FnScope n_one_lies_between ["table", "i", "j"] (defScope s_one_lies_between) := ⟨rfl, rfl, rfl, by decide +kernel, rfl, by decide +kernel, by decide +kernel⟩
def t_one_lies_between (K : PySem.W.Frag) (C : Addr) : TS :=
    (tRet (tCB (rAny K) (tCons (tLc (iRng1 (tCons (tCB (rLenS K) (tCons (tVar 0) tNil)) tNil)) (gName 3) tYes (tAndV (tOp (rIxL K) (tOp (rIxL K) (tVar 0) (tVar 1)) (tVar 3)) (tOp (rIxL K) (tOp (rIxL K) (tVar 0) (tVar 3)) (tVar 2))) [3]) tNil)))
theorem tie_one_lies_between {sp : Sp} {f : Addr} {fd : FuncData} (F : Fun K "one_lies_between" "one_lies_between" s_one_lies_between f fd) (T : Txt K mg C a_WIDTHS)
    (len : ∀ vs H Q E, sp vs H Q E → vs.length = ["table", "i", "j"].length) (pure : ∀ vs H Q E, sp vs H Q E → t_one_lies_between K C { nx := fun _ H' => Q .non H', rt := Q } (start n_one_lies_between vs) H) :
    FnOk P w K mg base CX0 1 f fd ["table", "i", "j"] sp := by
  refine F.ok sc_one_lies_between len (fun cdv A outer s H vs Q E hr h => ⟨t_one_lies_between K C, ?_, pure vs H Q E h⟩)
  exact (pss_one (ps_ret (pe_callB (cr_any rfl) (by rfl) T.any (by decide +kernel) (pa_cons (pe_lc (own := [("k", 3)]) (g := (gName 3)) (tt := tYes) (te := (tAndV (tOp (rIxL K) (tOp (rIxL K) (tVar 0) (tVar 1)) (tVar 3)) (tOp (rIxL K) (tOp (rIxL K) (tVar 0) (tVar 3)) (tVar 2)))) (by rfl) sc_one_lies_between.nd (pi_range1 (by rfl) T.range (pa_cons (pe_callB call_len_seq (by rfl) T.len PySem.boot_len (pa_cons (pv 0) pa_nil)) pa_nil)) (blkOk_by (own := [("k", 3)]) (N := n_one_lies_between) (sc := defScope s_one_lies_between) (by decide +kernel)) (fun _ _ _ _ _ => (pg_name (i := 3) sc_one_lies_between.nd rfl (by first | exact Or.inl rfl | exact Or.inr rfl))) (fun _ _ _ _ _ => pts_nil) (fun _ _ _ _ _ => (pe_and (pe_ix ix_list (pe_ix ix_list (pv 0) (pv 1) (fun _ _ => rfl)) (pv 3) (fun _ _ => rfl)) (pe_one (pe_ix ix_list (pe_ix ix_list (pv 0) (pv 3) (fun _ _ => rfl)) (pv 2) (fun _ _ => rfl)))))) pa_nil))))
/-! link_pairs -/
abbrev s_link_pairs : Stmt := top 4
abbrev n_link_pairs : List Str := ["table", "pair"]
theorem sc_link_pairs : FnScope n_link_pairs ["table"] (defScope s_link_pairs) := ⟨rfl, rfl, rfl, by decide +kernel, rfl, by decide +kernel, by decide +kernel⟩
def t_link_pairs (K : PySem.W.Frag) (C : Addr) (sp_heard_pairs : Sp) (sp_one_lies_between : Sp) : TS :=
    (tRet (tLc (iList K (tCall sp_heard_pairs [] E0 (tCons (tVar 0) tNil))) (gName 1) (tNot (tB (tCall sp_one_lies_between [] E0 (tCons (tVar 0) (tCons (tOp (rIxT K) (tVar 1) (tC (.int 0))) (tCons (tOp (rIxT K) (tVar 1) (tC (.int 1))) tNil)))))) (tVar 1) [1]))
theorem tie_link_pairs {sp_heard_pairs sp_one_lies_between sp : Sp} {f : Addr} {fd : FuncData} (F : Fun K "link_pairs" "link_pairs" s_link_pairs f fd) (T : Txt K mg C a_WIDTHS) (c_heard_pairs : Cal P w K mg base "heard_pairs" 1 ["table"] sp_heard_pairs) (c_one_lies_between : Cal P w K mg base "one_lies_between" 1 ["table", "i", "j"] sp_one_lies_between)
    (len : ∀ vs H Q E, sp vs H Q E → vs.length = ["table"].length) (pure : ∀ vs H Q E, sp vs H Q E → t_link_pairs K C sp_heard_pairs sp_one_lies_between { nx := fun _ H' => Q .non H', rt := Q } (start n_link_pairs vs) H) :
    FnOk P w K mg base CX0 2 f fd ["table"] sp := by
  refine F.ok sc_link_pairs len (fun cdv A outer s H vs Q E hr h => ⟨t_link_pairs K C sp_heard_pairs sp_one_lies_between, ?_, pure vs H Q E h⟩)
  exact (pss_one (ps_ret (pe_lc (own := [("pair", 1)]) (g := (gName 1)) (tt := (tNot (tB (tCall sp_one_lies_between [] E0 (tCons (tVar 0) (tCons (tOp (rIxT K) (tVar 1) (tC (.int 0))) (tCons (tOp (rIxT K) (tVar 1) (tC (.int 1))) tNil))))))) (te := (tVar 1)) (by rfl) sc_link_pairs.nd (pi_list (pe_callC c_heard_pairs (hr.mono (by decide)) (by rfl) (pa_cons (pv 0) pa_nil))) (blkOk_by (own := [("pair", 1)]) (N := n_link_pairs) (sc := defScope s_link_pairs) (by decide +kernel)) (fun _ _ _ _ _ => (pg_name (i := 1) sc_link_pairs.nd rfl (by first | exact Or.inl rfl | exact Or.inr rfl))) (fun _ _ _ _ _ => (pts_one (pt_not (pt_val (pe_callC c_one_lies_between (hr.mono (by decide)) (by rfl) (pa_cons (pv 0) (pa_cons (pe_ix ix_tup (pv 1) pe_int (fun _ _ => rfl)) (pa_cons (pe_ix ix_tup (pv 1) pe_int (fun _ _ => rfl)) pa_nil)))))))) (fun _ _ _ _ _ => (pv 1)))))
/-! past_events -/
abbrev s_past_events : Stmt := top 5
abbrev n_past_events : List Str := ["table", "i", "j"]
theorem sc_past_events : FnScope n_past_events ["table", "i"] (defScope s_past_events) := ⟨rfl, rfl, rfl, by decide +kernel, rfl, by decide +kernel, by decide +kernel⟩
def t_past_events (K : PySem.W.Frag) (C : Addr) : TS :=
    (tRet (tLc (iRng1 (tCons (tCB (rLenS K) (tCons (tVar 0) tNil)) tNil)) (gName 2) (tB (tOp (rIxL K) (tOp (rIxL K) (tVar 0) (tVar 2)) (tVar 1))) (tVar 2) [2]))
theorem tie_past_events {sp : Sp} {f : Addr} {fd : FuncData} (F : Fun K "past_events" "past_events" s_past_events f fd) (T : Txt K mg C a_WIDTHS)
    (len : ∀ vs H Q E, sp vs H Q E → vs.length = ["table", "i"].length) (pure : ∀ vs H Q E, sp vs H Q E → t_past_events K C { nx := fun _ H' => Q .non H', rt := Q } (start n_past_events vs) H) :
    FnOk P w K mg base CX0 1 f fd ["table", "i"] sp := by
  refine F.ok sc_past_events len (fun cdv A outer s H vs Q E hr h => ⟨t_past_events K C, ?_, pure vs H Q E h⟩)
  exact (pss_one (ps_ret (pe_lc (own := [("j", 2)]) (g := (gName 2)) (tt := (tB (tOp (rIxL K) (tOp (rIxL K) (tVar 0) (tVar 2)) (tVar 1)))) (te := (tVar 2)) (by rfl) sc_past_events.nd (pi_range1 (by rfl) T.range (pa_cons (pe_callB call_len_seq (by rfl) T.len PySem.boot_len (pa_cons (pv 0) pa_nil)) pa_nil)) (blkOk_by (own := [("j", 2)]) (N := n_past_events) (sc := defScope s_past_events) (by decide +kernel)) (fun _ _ _ _ _ => (pg_name (i := 2) sc_past_events.nd rfl (by first | exact Or.inl rfl | exact Or.inr rfl))) (fun _ _ _ _ _ => (pts_one (pt_val (pe_ix ix_list (pe_ix ix_list (pv 0) (pv 2) (fun _ _ => rfl)) (pv 1) (fun _ _ => rfl))))) (fun _ _ _ _ _ => (pv 2)))))
/-! first_events -/
abbrev s_first_events : Stmt := top 6
abbrev n_first_events : List Str := ["table", "event"]
theorem sc_first_events : FnScope n_first_events ["table"] (defScope s_first_events) := ⟨rfl, rfl, rfl, by decide +kernel, rfl, by decide +kernel, by decide +kernel⟩
def t_first_events (K : PySem.W.Frag) (C : Addr) (sp_past_events : Sp) : TS :=
    (tRet (tLc (iRng1 (tCons (tCB (rLenS K) (tCons (tVar 0) tNil)) tNil)) (gName 1) (tNot (tTru K (tCall sp_past_events [] E0 (tCons (tVar 0) (tCons (tVar 1) tNil))))) (tVar 1) [1]))
theorem tie_first_events {sp_past_events sp : Sp} {f : Addr} {fd : FuncData} (F : Fun K "first_events" "first_events" s_first_events f fd) (T : Txt K mg C a_WIDTHS) (c_past_events : Cal P w K mg base "past_events" 1 ["table", "i"] sp_past_events)
    (len : ∀ vs H Q E, sp vs H Q E → vs.length = ["table"].length) (pure : ∀ vs H Q E, sp vs H Q E → t_first_events K C sp_past_events { nx := fun _ H' => Q .non H', rt := Q } (start n_first_events vs) H) :
    FnOk P w K mg base CX0 2 f fd ["table"] sp := by
  refine F.ok sc_first_events len (fun cdv A outer s H vs Q E hr h => ⟨t_first_events K C sp_past_events, ?_, pure vs H Q E h⟩)
  exact (pss_one (ps_ret (pe_lc (own := [("event", 1)]) (g := (gName 1)) (tt := (tNot (tTru K (tCall sp_past_events [] E0 (tCons (tVar 0) (tCons (tVar 1) tNil)))))) (te := (tVar 1)) (by rfl) sc_first_events.nd (pi_range1 (by rfl) T.range (pa_cons (pe_callB call_len_seq (by rfl) T.len PySem.boot_len (pa_cons (pv 0) pa_nil)) pa_nil)) (blkOk_by (own := [("event", 1)]) (N := n_first_events) (sc := defScope s_first_events) (by decide +kernel)) (fun _ _ _ _ _ => (pg_name (i := 1) sc_first_events.nd rfl (by first | exact Or.inl rfl | exact Or.inr rfl))) (fun _ _ _ _ _ => (pts_one (pt_not (pt_truth (pe_callC c_past_events (hr.mono (by decide)) (by rfl) (pa_cons (pv 0) (pa_cons (pv 1) pa_nil))) (by intro _; rfl))))) (fun _ _ _ _ _ => (pv 1)))))
/-! one_heard_of_the_other -/
abbrev s_one_heard_of_the_other : Stmt := top 7
abbrev n_one_heard_of_the_other : List Str := ["table", "i", "j"]
theorem sc_one_heard_of_the_other : FnScope n_one_heard_of_the_other ["table", "i", "j"] (defScope s_one_heard_of_the_other) := ⟨rfl, rfl, rfl, by decide +kernel, rfl, by decide +kernel, by decide +kernel⟩
def t_one_heard_of_the_other (K : PySem.W.Frag) (C : Addr) : TS :=
    (tRet (tOrV (tOp (rIxL K) (tOp (rIxL K) (tVar 0) (tVar 1)) (tVar 2)) (tOp (rIxL K) (tOp (rIxL K) (tVar 0) (tVar 2)) (tVar 1))))
theorem tie_one_heard_of_the_other {sp : Sp} {f : Addr} {fd : FuncData} (F : Fun K "one_heard_of_the_other" "one_heard_of_the_other" s_one_heard_of_the_other f fd) (T : Txt K mg C a_WIDTHS)
    (len : ∀ vs H Q E, sp vs H Q E → vs.length = ["table", "i", "j"].length) (pure : ∀ vs H Q E, sp vs H Q E → t_one_heard_of_the_other K C { nx := fun _ H' => Q .non H', rt := Q } (start n_one_heard_of_the_other vs) H) :
    FnOk P w K mg base CX0 1 f fd ["table", "i", "j"] sp := by
  refine F.ok sc_one_heard_of_the_other len (fun cdv A outer s H vs Q E hr h => ⟨t_one_heard_of_the_other K C, ?_, pure vs H Q E h⟩)
  exact (pss_one (ps_ret (pe_or (pe_ix ix_list (pe_ix ix_list (pv 0) (pv 1) (fun _ _ => rfl)) (pv 2) (fun _ _ => rfl)) (pe_one (pe_ix ix_list (pe_ix ix_list (pv 0) (pv 2) (fun _ _ => rfl)) (pv 1) (fun _ _ => rfl))))))
/-! number_without -/
abbrev s_number_without : Stmt := top 22
abbrev n_number_without : List Str := ["event", "gone"]
theorem sc_number_without : FnScope n_number_without ["event", "gone"] (defScope s_number_without) := ⟨rfl, rfl, rfl, by decide +kernel, rfl, by decide +kernel, by decide +kernel⟩
def t_number_without (K : PySem.W.Frag) (C : Addr) : TS :=
    (tRet (tIf (tTest (tOp rGt (tVar 0) (tVar 1))) (tOp rSub (tVar 0) (tC (.int 1))) (tVar 0)))
theorem tie_number_without {sp : Sp} {f : Addr} {fd : FuncData} (F : Fun K "number_without" "number_without" s_number_without f fd) (T : Txt K mg C a_WIDTHS)
    (len : ∀ vs H Q E, sp vs H Q E → vs.length = ["event", "gone"].length) (pure : ∀ vs H Q E, sp vs H Q E → t_number_without K C { nx := fun _ H' => Q .non H', rt := Q } (start n_number_without vs) H) :
    FnOk P w K mg base CX0 1 f fd ["event", "gone"] sp := by
  refine F.ok sc_number_without len (fun cdv A outer s H vs Q E hr h => ⟨t_number_without K C, ?_, pure vs H Q E h⟩)
  exact (pss_one (ps_ret (pe_ifExp (pt_cmpR op_gt (pv 0) (pv 1) (nomark _)) (pe_op op_sub (pv 0) pe_int) (pv 0))))
/-! one_more -/
abbrev s_one_more : Stmt := top 26
abbrev n_one_more : List Str := ["table", "groups", "in_row", "greater", "group", "event", "other"]
theorem sc_one_more : FnScope n_one_more ["table", "groups", "in_row"] (defScope s_one_more) := ⟨rfl, rfl, rfl, by decide +kernel, rfl, by decide +kernel, by decide +kernel⟩
def t_one_more (K : PySem.W.Frag) (C : Addr) (sp_one_heard_of_the_other : Sp) : TS :=
    (tSeq (tAsg (tLst tNil) (gName 3))
    (tSeq (tFor (iList K (tVar 1)) (gName 4) (tFor (iRng2 (tCons (tIf (tTru K (tVar 4)) (tOp rAdd (tOp (rIxL K) (tVar 4) (tUn uNeg (tC (.int 1)))) (tC (.int 1))) (tC (.int 0))) (tCons (tCB (rLenS K) (tCons (tVar 0) tNil)) tNil))) (gName 5) (tIfS (tB (tCB (rAll K) (tCons (tLc (iList K (tVar 4)) (gName 6) tYes (tOp rEq (tCall sp_one_heard_of_the_other [] E0 (tCons (tVar 0) (tCons (tVar 5) (tCons (tVar 6) tNil)))) (tVar 2)) [6]) tNil))) (tDrop (tBM K "list" rAppend (tVar 3) (tCons (tOp rCat (tVar 4) (tLst (tCons (tVar 5) tNil))) tNil))) tNext)))
    (tRet (tVar 3))))
theorem tie_one_more {sp_one_heard_of_the_other sp : Sp} {f : Addr} {fd : FuncData} (F : Fun K "one_more" "one_more" s_one_more f fd) (T : Txt K mg C a_WIDTHS) (c_one_heard_of_the_other : Cal P w K mg base "one_heard_of_the_other" 1 ["table", "i", "j"] sp_one_heard_of_the_other)
    (len : ∀ vs H Q E, sp vs H Q E → vs.length = ["table", "groups", "in_row"].length) (pure : ∀ vs H Q E, sp vs H Q E → t_one_more K C sp_one_heard_of_the_other { nx := fun _ H' => Q .non H', rt := Q } (start n_one_more vs) H) :
    FnOk P w K mg base CX0 2 f fd ["table", "groups", "in_row"] sp := by
  refine F.ok sc_one_more len (fun cdv A outer s H vs Q E hr h => ⟨t_one_more K C sp_one_heard_of_the_other, ?_, pure vs H Q E h⟩)
  exact (pss_cons (ps_set (i := 3) sc_one_more.nd rfl (by first | exact Or.inl rfl | exact Or.inr rfl) (pe_lst pa_nil))
      (pss_cons (ps_for PassesOwn.never rfl (pi_list (pv 1)) (pg_name (i := 4) sc_one_more.nd rfl (by first | exact Or.inl rfl | exact Or.inr rfl)) (pss_one (ps_for PassesOwn.never rfl (pi_range2 (by rfl) T.range (pa_cons (pe_ifExp (pt_truth (pv 4) (by intro _; rfl)) (pe_op op_add (pe_ix ix_list (pv 4) (pe_un un_neg pe_int) (fun _ _ => rfl)) pe_int) pe_int) (pa_cons (pe_callB call_len_seq (by rfl) T.len PySem.boot_len (pa_cons (pv 0) pa_nil)) pa_nil))) (pg_name (i := 5) sc_one_more.nd rfl (by first | exact Or.inl rfl | exact Or.inr rfl)) (pss_one (ps_if (pt_val (pe_callB (cr_all rfl) (by rfl) T.all (by decide +kernel) (pa_cons (pe_lc (own := [("other", 6)]) (g := (gName 6)) (tt := tYes) (te := (tOp rEq (tCall sp_one_heard_of_the_other [] E0 (tCons (tVar 0) (tCons (tVar 5) (tCons (tVar 6) tNil)))) (tVar 2))) (by rfl) sc_one_more.nd (pi_list (pv 4)) (blkOk_by (own := [("other", 6)]) (N := n_one_more) (sc := defScope s_one_more) (by decide +kernel)) (fun _ _ _ _ _ => (pg_name (i := 6) sc_one_more.nd rfl (by first | exact Or.inl rfl | exact Or.inr rfl))) (fun _ _ _ _ _ => pts_nil) (fun _ _ _ _ _ => (pe_cmpR op_eq (pe_callC c_one_heard_of_the_other (hr.mono (by decide)) (by rfl) (pa_cons (pv 0) (pa_cons (pv 5) (pa_cons (pv 6) pa_nil)))) (pv 2) (nomark _)))) pa_nil))) (pss_one (ps_expr (pe_bm PySem.F.plainAttrs_list PySem.F.slot_list_append PySem.F.type_list_append mt_append (pv 3) (pa_cons (pe_op op_cat (pv 4) (pe_lst (pa_cons (pv 5) pa_nil))) pa_nil)))) pss_nil)))))
      (pss_one (ps_ret (pv 3)))))
/-! most_together -/
abbrev s_most_together : Stmt := top 27
abbrev n_most_together : List Str := ["table", "in_row", "groups", "found"]
theorem sc_most_together : FnScope n_most_together ["table", "in_row"] (defScope s_most_together) := ⟨rfl, rfl, rfl, by decide +kernel, rfl, by decide +kernel, by decide +kernel⟩
def t_most_together (K : PySem.W.Frag) (C : Addr) (sp_one_more : Sp) : TS :=
    (tSeq (tAsg (tLst (tCons (tLst tNil) tNil)) (gName 2))
    (tSeq (tAsg (tLst tNil) (gName 3))
    (tSeq (tWhile (tTru K (tVar 2)) (tSeq (tAsg (tOp (rIxL K) (tVar 2) (tC (.int 0))) (gName 3))
    (tAsg (tCall sp_one_more [] E0 (tCons (tVar 0) (tCons (tVar 2) (tCons (tVar 1) tNil)))) (gName 2))))
    (tRet (tVar 3)))))
theorem tie_most_together {sp_one_more sp : Sp} {f : Addr} {fd : FuncData} (F : Fun K "most_together" "most_together" s_most_together f fd) (T : Txt K mg C a_WIDTHS) (c_one_more : Cal P w K mg base "one_more" 2 ["table", "groups", "in_row"] sp_one_more)
    (len : ∀ vs H Q E, sp vs H Q E → vs.length = ["table", "in_row"].length) (pure : ∀ vs H Q E, sp vs H Q E → t_most_together K C sp_one_more { nx := fun _ H' => Q .non H', rt := Q } (start n_most_together vs) H) :
    FnOk P w K mg base CX0 3 f fd ["table", "in_row"] sp := by
  refine F.ok sc_most_together len (fun cdv A outer s H vs Q E hr h => ⟨t_most_together K C sp_one_more, ?_, pure vs H Q E h⟩)
  exact (pss_cons (ps_set (i := 2) sc_most_together.nd rfl (by first | exact Or.inl rfl | exact Or.inr rfl) (pe_lst (pa_cons (pe_lst pa_nil) pa_nil)))
      (pss_cons (ps_set (i := 3) sc_most_together.nd rfl (by first | exact Or.inl rfl | exact Or.inr rfl) (pe_lst pa_nil))
      (pss_cons (ps_while PassesOwn.never (pt_truth (pv 2) (by intro _; rfl)) (pss_cons (ps_set (i := 3) sc_most_together.nd rfl (by first | exact Or.inl rfl | exact Or.inr rfl) (pe_ix ix_list (pv 2) pe_int (fun _ _ => rfl)))
      (pss_one (ps_set (i := 2) sc_most_together.nd rfl (by first | exact Or.inl rfl | exact Or.inr rfl) (pe_callC c_one_more (hr.mono (by decide)) (by rfl) (pa_cons (pv 0) (pa_cons (pv 2) (pa_cons (pv 1) pa_nil))))))))
      (pss_one (ps_ret (pv 3))))))
/-! may_follow -/
abbrev s_may_follow : Stmt := top 29
abbrev n_may_follow : List Str := ["row", "event", "past", "earlier"]
theorem sc_may_follow : FnScope n_may_follow ["row", "event", "past"] (defScope s_may_follow) := ⟨rfl, rfl, rfl, by decide +kernel, rfl, by decide +kernel, by decide +kernel⟩
def t_may_follow (K : PySem.W.Frag) (C : Addr) : TS :=
    (tRet (tAndV (tOp (rIn K true) (tVar 1) (tVar 0)) (tCB (rAll K) (tCons (tLc (iList K (tVar 2)) (gName 3) tYes (tOp (rIn K false) (tVar 3) (tVar 0)) [3]) tNil))))
theorem tie_may_follow {sp : Sp} {f : Addr} {fd : FuncData} (F : Fun K "may_follow" "may_follow" s_may_follow f fd) (T : Txt K mg C a_WIDTHS)
    (len : ∀ vs H Q E, sp vs H Q E → vs.length = ["row", "event", "past"].length) (pure : ∀ vs H Q E, sp vs H Q E → t_may_follow K C { nx := fun _ H' => Q .non H', rt := Q } (start n_may_follow vs) H) :
    FnOk P w K mg base CX0 1 f fd ["row", "event", "past"] sp := by
  refine F.ok sc_may_follow len (fun cdv A outer s H vs Q E hr h => ⟨t_may_follow K C, ?_, pure vs H Q E h⟩)
  exact (pss_one (ps_ret (pe_and (pe_cmpR op_notIn_seq (pv 1) (pv 0) (by rfl)) (pe_one (pe_callB (cr_all rfl) (by rfl) T.all (by decide +kernel) (pa_cons (pe_lc (own := [("earlier", 3)]) (g := (gName 3)) (tt := tYes) (te := (tOp (rIn K false) (tVar 3) (tVar 0))) (by rfl) sc_may_follow.nd (pi_list (pv 2)) (blkOk_by (own := [("earlier", 3)]) (N := n_may_follow) (sc := defScope s_may_follow) (by decide +kernel)) (fun _ _ _ _ _ => (pg_name (i := 3) sc_may_follow.nd rfl (by first | exact Or.inl rfl | exact Or.inr rfl))) (fun _ _ _ _ _ => pts_nil) (fun _ _ _ _ _ => (pe_cmpR op_in_seq (pv 3) (pv 0) (by rfl)))) pa_nil))))))
/-! one_longer -/
abbrev s_one_longer : Stmt := top 30
abbrev n_one_longer : List Str := ["rows", "pasts", "longer", "row", "event", "past"]
theorem sc_one_longer : FnScope n_one_longer ["rows", "pasts"] (defScope s_one_longer) := ⟨rfl, rfl, rfl, by decide +kernel, rfl, by decide +kernel, by decide +kernel⟩
def t_one_longer (K : PySem.W.Frag) (C : Addr) (sp_may_follow : Sp) : TS :=
    (tSeq (tAsg (tLst tNil) (gName 2))
    (tSeq (tFor (iList K (tVar 0)) (gName 3) (tFor (iEnum K (tCons (tVar 1) tNil)) (gTup K 2 (gCons (gName 4) (gCons (gName 5) gNil))) (tIfS (tB (tCall sp_may_follow [] E0 (tCons (tVar 3) (tCons (tVar 4) (tCons (tVar 5) tNil))))) (tDrop (tBM K "list" rAppend (tVar 2) (tCons (tOp rCat (tVar 3) (tLst (tCons (tVar 4) tNil))) tNil))) tNext)))
    (tRet (tVar 2))))
theorem tie_one_longer {sp_may_follow sp : Sp} {f : Addr} {fd : FuncData} (F : Fun K "one_longer" "one_longer" s_one_longer f fd) (T : Txt K mg C a_WIDTHS) (c_may_follow : Cal P w K mg base "may_follow" 1 ["row", "event", "past"] sp_may_follow)
    (len : ∀ vs H Q E, sp vs H Q E → vs.length = ["rows", "pasts"].length) (pure : ∀ vs H Q E, sp vs H Q E → t_one_longer K C sp_may_follow { nx := fun _ H' => Q .non H', rt := Q } (start n_one_longer vs) H) :
    FnOk P w K mg base CX0 2 f fd ["rows", "pasts"] sp := by
  refine F.ok sc_one_longer len (fun cdv A outer s H vs Q E hr h => ⟨t_one_longer K C sp_may_follow, ?_, pure vs H Q E h⟩)
  exact (pss_cons (ps_set (i := 2) sc_one_longer.nd rfl (by first | exact Or.inl rfl | exact Or.inr rfl) (pe_lst pa_nil))
      (pss_cons (ps_for PassesOwn.never rfl (pi_list (pv 0)) (pg_name (i := 3) sc_one_longer.nd rfl (by first | exact Or.inl rfl | exact Or.inr rfl)) (pss_one (ps_for PassesOwn.never rfl (pi_enum (by rfl) T.enumerate (pa_cons (pv 1) pa_nil)) (pg_tup rfl (pgs_cons (pg_name (i := 4) sc_one_longer.nd rfl (by first | exact Or.inl rfl | exact Or.inr rfl)) (pgs_cons (pg_name (i := 5) sc_one_longer.nd rfl (by first | exact Or.inl rfl | exact Or.inr rfl)) pgs_nil))) (pss_one (ps_if (pt_val (pe_callC c_may_follow (hr.mono (by decide)) (by rfl) (pa_cons (pv 3) (pa_cons (pv 4) (pa_cons (pv 5) pa_nil))))) (pss_one (ps_expr (pe_bm PySem.F.plainAttrs_list PySem.F.slot_list_append PySem.F.type_list_append mt_append (pv 2) (pa_cons (pe_op op_cat (pv 3) (pe_lst (pa_cons (pv 4) pa_nil))) pa_nil)))) pss_nil)))))
      (pss_one (ps_ret (pv 2)))))
/-! all_orders -/
abbrev s_all_orders : Stmt := top 31
abbrev n_all_orders : List Str := ["table", "pasts", "rows", "place", "event"]
theorem sc_all_orders : FnScope n_all_orders ["table"] (defScope s_all_orders) := ⟨rfl, rfl, rfl, by decide +kernel, rfl, by decide +kernel, by decide +kernel⟩
def t_all_orders (K : PySem.W.Frag) (C : Addr) (sp_past_events : Sp) (sp_one_longer : Sp) : TS :=
    (tSeq (tAsg (tLc (iRng1 (tCons (tCB (rLenS K) (tCons (tVar 0) tNil)) tNil)) (gName 4) tYes (tCall sp_past_events [] E0 (tCons (tVar 0) (tCons (tVar 4) tNil))) [4]) (gName 1))
    (tSeq (tAsg (tLst (tCons (tLst tNil) tNil)) (gName 2))
    (tSeq (tFor (iRng1 (tCons (tCB (rLenS K) (tCons (tVar 0) tNil)) tNil)) (gName 3) (tAsg (tCall sp_one_longer [] E0 (tCons (tVar 2) (tCons (tVar 1) tNil))) (gName 2)))
    (tRet (tVar 2)))))
theorem tie_all_orders {sp_past_events sp_one_longer sp : Sp} {f : Addr} {fd : FuncData} (F : Fun K "all_orders" "all_orders" s_all_orders f fd) (T : Txt K mg C a_WIDTHS) (c_past_events : Cal P w K mg base "past_events" 1 ["table", "i"] sp_past_events) (c_one_longer : Cal P w K mg base "one_longer" 2 ["rows", "pasts"] sp_one_longer)
    (len : ∀ vs H Q E, sp vs H Q E → vs.length = ["table"].length) (pure : ∀ vs H Q E, sp vs H Q E → t_all_orders K C sp_past_events sp_one_longer { nx := fun _ H' => Q .non H', rt := Q } (start n_all_orders vs) H) :
    FnOk P w K mg base CX0 3 f fd ["table"] sp := by
  refine F.ok sc_all_orders len (fun cdv A outer s H vs Q E hr h => ⟨t_all_orders K C sp_past_events sp_one_longer, ?_, pure vs H Q E h⟩)
  exact (pss_cons (ps_setLc (i := 1) (own := [("event", 4)]) (g := (gName 4)) (tt := tYes) (te := (tCall sp_past_events [] E0 (tCons (tVar 0) (tCons (tVar 4) tNil)))) (by rfl) sc_all_orders.nd rfl rfl (sw_true rfl rfl rfl (by decide +kernel)) (pi_range1 (by rfl) T.range (pa_cons (pe_callB call_len_seq (by rfl) T.len PySem.boot_len (pa_cons (pv 0) pa_nil)) pa_nil)) (blkOk_by (own := [("event", 4)]) (N := n_all_orders) (sc := defScope s_all_orders) (by decide +kernel)) (fun _ _ _ _ _ => (pg_name (i := 4) sc_all_orders.nd rfl (by first | exact Or.inl rfl | exact Or.inr rfl))) (fun _ _ _ _ _ => pts_nil) (fun _ _ _ _ _ => (pe_callC c_past_events (hr.mono (by decide)) (by rfl) (pa_cons (pv 0) (pa_cons (pv 4) pa_nil)))))
      (pss_cons (ps_set (i := 2) sc_all_orders.nd rfl (by first | exact Or.inl rfl | exact Or.inr rfl) (pe_lst (pa_cons (pe_lst pa_nil) pa_nil)))
      (pss_cons (ps_for PassesOwn.never rfl (pi_range1 (by rfl) T.range (pa_cons (pe_callB call_len_seq (by rfl) T.len PySem.boot_len (pa_cons (pv 0) pa_nil)) pa_nil)) (pg_name (i := 3) sc_all_orders.nd rfl (by first | exact Or.inl rfl | exact Or.inr rfl)) (pss_one (ps_set (i := 2) sc_all_orders.nd rfl (by first | exact Or.inl rfl | exact Or.inr rfl) (pe_callC c_one_longer (hr.mono (by decide)) (by rfl) (pa_cons (pv 2) (pa_cons (pv 1) pa_nil))))))
      (pss_one (ps_ret (pv 2))))))
/-! may_have_come -/
abbrev s_may_have_come : Stmt := top 32
abbrev n_may_have_come : List Str := ["table", "row", "place", "event", "later"]
theorem sc_may_have_come : FnScope n_may_have_come ["table", "row"] (defScope s_may_have_come) := ⟨rfl, rfl, rfl, by decide +kernel, rfl, by decide +kernel, by decide +kernel⟩
def t_may_have_come (K : PySem.W.Frag) (C : Addr) : TS :=
    (tSeq (tFor (iEnum K (tCons (tVar 1) tNil)) (gTup K 2 (gCons (gName 2) (gCons (gName 3) gNil))) (tIfS (tB (tCB (rAny K) (tCons (tLc (iList K (tSl (rSlL K) (tVar 1) (tPart (tOp rAdd (tVar 2) (tC (.int 1)))) tNoPart)) (gName 4) tYes (tOp (rIxL K) (tOp (rIxL K) (tVar 0) (tVar 4)) (tVar 3)) [4]) tNil))) (tRet (tC (.bl false))) tNext))
    (tRet (tC (.bl true))))
theorem tie_may_have_come {sp : Sp} {f : Addr} {fd : FuncData} (F : Fun K "may_have_come" "may_have_come" s_may_have_come f fd) (T : Txt K mg C a_WIDTHS)
    (len : ∀ vs H Q E, sp vs H Q E → vs.length = ["table", "row"].length) (pure : ∀ vs H Q E, sp vs H Q E → t_may_have_come K C { nx := fun _ H' => Q .non H', rt := Q } (start n_may_have_come vs) H) :
    FnOk P w K mg base CX0 1 f fd ["table", "row"] sp := by
  refine F.ok sc_may_have_come len (fun cdv A outer s H vs Q E hr h => ⟨t_may_have_come K C, ?_, pure vs H Q E h⟩)
  exact (pss_cons (ps_for PassesOwn.never rfl (pi_enum (by rfl) T.enumerate (pa_cons (pv 1) pa_nil)) (pg_tup rfl (pgs_cons (pg_name (i := 2) sc_may_have_come.nd rfl (by first | exact Or.inl rfl | exact Or.inr rfl)) (pgs_cons (pg_name (i := 3) sc_may_have_come.nd rfl (by first | exact Or.inl rfl | exact Or.inr rfl)) pgs_nil))) (pss_one (ps_if (pt_val (pe_callB (cr_any rfl) (by rfl) T.any (by decide +kernel) (pa_cons (pe_lc (own := [("later", 4)]) (g := (gName 4)) (tt := tYes) (te := (tOp (rIxL K) (tOp (rIxL K) (tVar 0) (tVar 4)) (tVar 3))) (by rfl) sc_may_have_come.nd (pi_list (pe_slice sl_list (pv 1) (po_some (pe_op op_add (pv 2) pe_int)) po_none)) (blkOk_by (own := [("later", 4)]) (N := n_may_have_come) (sc := defScope s_may_have_come) (by decide +kernel)) (fun _ _ _ _ _ => (pg_name (i := 4) sc_may_have_come.nd rfl (by first | exact Or.inl rfl | exact Or.inr rfl))) (fun _ _ _ _ _ => pts_nil) (fun _ _ _ _ _ => (pe_ix ix_list (pe_ix ix_list (pv 0) (pv 4) (fun _ _ => rfl)) (pv 3) (fun _ _ => rfl)))) pa_nil))) (pss_one (ps_ret pe_bl)) pss_nil)))
      (pss_one (ps_ret pe_bl)))
/-! how_often_sooner -/
abbrev s_how_often_sooner : Stmt := top 33
abbrev n_how_often_sooner : List Str := ["rows", "i", "j", "row"]
theorem sc_how_often_sooner : FnScope n_how_often_sooner ["rows", "i", "j"] (defScope s_how_often_sooner) := ⟨rfl, rfl, rfl, by decide +kernel, rfl, by decide +kernel, by decide +kernel⟩
def t_how_often_sooner (K : PySem.W.Frag) (C : Addr) : TS :=
    (tRet (tCB (rLenS K) (tCons (tLc (iList K (tVar 0)) (gName 3) (tTest (tOp rLt (tBM K "list" (rIndex K) (tVar 3) (tCons (tVar 1) tNil)) (tBM K "list" (rIndex K) (tVar 3) (tCons (tVar 2) tNil)))) (tVar 3) [3]) tNil)))
theorem tie_how_often_sooner {sp : Sp} {f : Addr} {fd : FuncData} (F : Fun K "how_often_sooner" "how_often_sooner" s_how_often_sooner f fd) (T : Txt K mg C a_WIDTHS)
    (len : ∀ vs H Q E, sp vs H Q E → vs.length = ["rows", "i", "j"].length) (pure : ∀ vs H Q E, sp vs H Q E → t_how_often_sooner K C { nx := fun _ H' => Q .non H', rt := Q } (start n_how_often_sooner vs) H) :
    FnOk P w K mg base CX0 1 f fd ["rows", "i", "j"] sp := by
  refine F.ok sc_how_often_sooner len (fun cdv A outer s H vs Q E hr h => ⟨t_how_often_sooner K C, ?_, pure vs H Q E h⟩)
  exact (pss_one (ps_ret (pe_callB call_len_seq (by rfl) T.len PySem.boot_len (pa_cons (pe_lc (own := [("row", 3)]) (g := (gName 3)) (tt := (tTest (tOp rLt (tBM K "list" (rIndex K) (tVar 3) (tCons (tVar 1) tNil)) (tBM K "list" (rIndex K) (tVar 3) (tCons (tVar 2) tNil))))) (te := (tVar 3)) (by rfl) sc_how_often_sooner.nd (pi_list (pv 0)) (blkOk_by (own := [("row", 3)]) (N := n_how_often_sooner) (sc := defScope s_how_often_sooner) (by decide +kernel)) (fun _ _ _ _ _ => (pg_name (i := 3) sc_how_often_sooner.nd rfl (by first | exact Or.inl rfl | exact Or.inr rfl))) (fun _ _ _ _ _ => (pts_one (pt_cmpR op_lt (pe_bm PySem.F.plainAttrs_list PySem.F.slot_list_index PySem.F.type_list_index mt_index (pv 3) (pa_cons (pv 1) pa_nil)) (pe_bm PySem.F.plainAttrs_list PySem.F.slot_list_index PySem.F.type_list_index mt_index (pv 3) (pa_cons (pv 2) pa_nil)) (nomark _)))) (fun _ _ _ _ _ => (pv 3))) pa_nil))))
/-! how_often_at_each_place -/
abbrev s_how_often_at_each_place : Stmt := top 34
abbrev n_how_often_at_each_place : List Str := ["rows", "event", "places", "row", "place"]
theorem sc_how_often_at_each_place : FnScope n_how_often_at_each_place ["rows", "event"] (defScope s_how_often_at_each_place) := ⟨rfl, rfl, rfl, by decide +kernel, rfl, by decide +kernel, by decide +kernel⟩
def t_how_often_at_each_place (K : PySem.W.Frag) (C : Addr) : TS :=
    (tSeq (tAsg (tLc (iList K (tVar 0)) (gName 3) tYes (tBM K "list" (rIndex K) (tVar 3) (tCons (tVar 1) tNil)) [3]) (gName 2))
    (tRet (tLc (iRng1 (tCons (tCB (rLenS K) (tCons (tOp (rIxL K) (tVar 0) (tC (.int 0))) tNil)) tNil)) (gName 4) tYes (tBM K "list" (rCntI K) (tVar 2) (tCons (tVar 4) tNil)) [4])))
theorem tie_how_often_at_each_place {sp : Sp} {f : Addr} {fd : FuncData} (F : Fun K "how_often_at_each_place" "how_often_at_each_place" s_how_often_at_each_place f fd) (T : Txt K mg C a_WIDTHS)
    (len : ∀ vs H Q E, sp vs H Q E → vs.length = ["rows", "event"].length) (pure : ∀ vs H Q E, sp vs H Q E → t_how_often_at_each_place K C { nx := fun _ H' => Q .non H', rt := Q } (start n_how_often_at_each_place vs) H) :
    FnOk P w K mg base CX0 1 f fd ["rows", "event"] sp := by
  refine F.ok sc_how_often_at_each_place len (fun cdv A outer s H vs Q E hr h => ⟨t_how_often_at_each_place K C, ?_, pure vs H Q E h⟩)
  exact (pss_cons (ps_set (i := 2) sc_how_often_at_each_place.nd rfl (by first | exact Or.inl rfl | exact Or.inr rfl) (pe_lc (own := [("row", 3)]) (g := (gName 3)) (tt := tYes) (te := (tBM K "list" (rIndex K) (tVar 3) (tCons (tVar 1) tNil))) (by rfl) sc_how_often_at_each_place.nd (pi_list (pv 0)) (blkOk_by (own := [("row", 3)]) (N := n_how_often_at_each_place) (sc := defScope s_how_often_at_each_place) (by decide +kernel)) (fun _ _ _ _ _ => (pg_name (i := 3) sc_how_often_at_each_place.nd rfl (by first | exact Or.inl rfl | exact Or.inr rfl))) (fun _ _ _ _ _ => pts_nil) (fun _ _ _ _ _ => (pe_bm PySem.F.plainAttrs_list PySem.F.slot_list_index PySem.F.type_list_index mt_index (pv 3) (pa_cons (pv 1) pa_nil)))))
      (pss_one (ps_ret (pe_lc (own := [("place", 4)]) (g := (gName 4)) (tt := tYes) (te := (tBM K "list" (rCntI K) (tVar 2) (tCons (tVar 4) tNil))) (by rfl) sc_how_often_at_each_place.nd (pi_range1 (by rfl) T.range (pa_cons (pe_callB call_len_seq (by rfl) T.len PySem.boot_len (pa_cons (pe_ix ix_list (pv 0) pe_int (fun _ _ => rfl)) pa_nil)) pa_nil)) (blkOk_by (own := [("place", 4)]) (N := n_how_often_at_each_place) (sc := defScope s_how_often_at_each_place) (by decide +kernel)) (fun _ _ _ _ _ => (pg_name (i := 4) sc_how_often_at_each_place.nd rfl (by first | exact Or.inl rfl | exact Or.inr rfl))) (fun _ _ _ _ _ => pts_nil) (fun _ _ _ _ _ => (pe_bm PySem.F.plainAttrs_list PySem.F.slot_list_count PySem.F.type_list_count mt_lcount (pv 2) (pa_cons (pv 4) pa_nil)))))))
/-! comes_ahead -/
abbrev s_comes_ahead : Stmt := top 36
abbrev n_comes_ahead : List Str := ["table", "row", "i", "j"]
theorem sc_comes_ahead : FnScope n_comes_ahead ["table", "row", "i", "j"] (defScope s_comes_ahead) := ⟨rfl, rfl, rfl, by decide +kernel, rfl, by decide +kernel, by decide +kernel⟩
def t_comes_ahead (K : PySem.W.Frag) (C : Addr) (sp_one_heard_of_the_other : Sp) : TS :=
    (tSeq (tIfS (tB (tCall sp_one_heard_of_the_other [] E0 (tCons (tVar 0) (tCons (tVar 2) (tCons (tVar 3) tNil))))) (tRet (tOp (rIxL K) (tOp (rIxL K) (tVar 0) (tVar 2)) (tVar 3))) tNext)
    (tRet (tOp rGt (tBM K "list" (rIndex K) (tVar 1) (tCons (tVar 2) tNil)) (tBM K "list" (rIndex K) (tVar 1) (tCons (tVar 3) tNil)))))
theorem tie_comes_ahead {sp_one_heard_of_the_other sp : Sp} {f : Addr} {fd : FuncData} (F : Fun K "comes_ahead" "comes_ahead" s_comes_ahead f fd) (T : Txt K mg C a_WIDTHS) (c_one_heard_of_the_other : Cal P w K mg base "one_heard_of_the_other" 1 ["table", "i", "j"] sp_one_heard_of_the_other)
    (len : ∀ vs H Q E, sp vs H Q E → vs.length = ["table", "row", "i", "j"].length) (pure : ∀ vs H Q E, sp vs H Q E → t_comes_ahead K C sp_one_heard_of_the_other { nx := fun _ H' => Q .non H', rt := Q } (start n_comes_ahead vs) H) :
    FnOk P w K mg base CX0 2 f fd ["table", "row", "i", "j"] sp := by
  refine F.ok sc_comes_ahead len (fun cdv A outer s H vs Q E hr h => ⟨t_comes_ahead K C sp_one_heard_of_the_other, ?_, pure vs H Q E h⟩)
  exact (pss_cons (ps_if (pt_val (pe_callC c_one_heard_of_the_other (hr.mono (by decide)) (by rfl) (pa_cons (pv 0) (pa_cons (pv 2) (pa_cons (pv 3) pa_nil))))) (pss_one (ps_ret (pe_ix ix_list (pe_ix ix_list (pv 0) (pv 2) (fun _ _ => rfl)) (pv 3) (fun _ _ => rfl)))) pss_nil)
      (pss_one (ps_ret (pe_cmpR op_gt (pe_bm PySem.F.plainAttrs_list PySem.F.slot_list_index PySem.F.type_list_index mt_index (pv 1) (pa_cons (pv 2) pa_nil)) (pe_bm PySem.F.plainAttrs_list PySem.F.slot_list_index PySem.F.type_list_index mt_index (pv 1) (pa_cons (pv 3) pa_nil)) (nomark _)))))
/-! how_many_ahead -/
abbrev s_how_many_ahead : Stmt := top 37
abbrev n_how_many_ahead : List Str := ["table", "row", "event", "other"]
theorem sc_how_many_ahead : FnScope n_how_many_ahead ["table", "row", "event"] (defScope s_how_many_ahead) := ⟨rfl, rfl, rfl, by decide +kernel, rfl, by decide +kernel, by decide +kernel⟩
def t_how_many_ahead (K : PySem.W.Frag) (C : Addr) (sp_comes_ahead : Sp) : TS :=
    (tRet (tCB (rLenS K) (tCons (tLc (iList K (tVar 1)) (gName 3) (tAnd (tTest (tOp rNe (tVar 3) (tVar 2))) (tB (tCall sp_comes_ahead [] E0 (tCons (tVar 0) (tCons (tVar 1) (tCons (tVar 3) (tCons (tVar 2) tNil))))))) (tVar 3) [3]) tNil)))
theorem tie_how_many_ahead {sp_comes_ahead sp : Sp} {f : Addr} {fd : FuncData} (F : Fun K "how_many_ahead" "how_many_ahead" s_how_many_ahead f fd) (T : Txt K mg C a_WIDTHS) (c_comes_ahead : Cal P w K mg base "comes_ahead" 2 ["table", "row", "i", "j"] sp_comes_ahead)
    (len : ∀ vs H Q E, sp vs H Q E → vs.length = ["table", "row", "event"].length) (pure : ∀ vs H Q E, sp vs H Q E → t_how_many_ahead K C sp_comes_ahead { nx := fun _ H' => Q .non H', rt := Q } (start n_how_many_ahead vs) H) :
    FnOk P w K mg base CX0 3 f fd ["table", "row", "event"] sp := by
  refine F.ok sc_how_many_ahead len (fun cdv A outer s H vs Q E hr h => ⟨t_how_many_ahead K C sp_comes_ahead, ?_, pure vs H Q E h⟩)
  exact (pss_one (ps_ret (pe_callB call_len_seq (by rfl) T.len PySem.boot_len (pa_cons (pe_lc (own := [("other", 3)]) (g := (gName 3)) (tt := (tAnd (tTest (tOp rNe (tVar 3) (tVar 2))) (tB (tCall sp_comes_ahead [] E0 (tCons (tVar 0) (tCons (tVar 1) (tCons (tVar 3) (tCons (tVar 2) tNil)))))))) (te := (tVar 3)) (by rfl) sc_how_many_ahead.nd (pi_list (pv 1)) (blkOk_by (own := [("other", 3)]) (N := n_how_many_ahead) (sc := defScope s_how_many_ahead) (by decide +kernel)) (fun _ _ _ _ _ => (pg_name (i := 3) sc_how_many_ahead.nd rfl (by first | exact Or.inl rfl | exact Or.inr rfl))) (fun _ _ _ _ _ => (pts_one (PW.pt (pw_and (pt_cmpR op_ne (pv 3) (pv 2) (nomark _)) (pw_and1 (pt_val (pe_callC c_comes_ahead (hr.mono (by decide)) (by rfl) (pa_cons (pv 0) (pa_cons (pv 1) (pa_cons (pv 3) (pa_cons (pv 2) pa_nil))))))))))) (fun _ _ _ _ _ => (pv 3))) pa_nil))))
/-! other_order -/
abbrev s_other_order : Stmt := top 38
abbrev n_other_order : List Str := ["table", "row", "ahead", "event", "place"]
theorem sc_other_order : FnScope n_other_order ["table", "row"] (defScope s_other_order) := ⟨rfl, rfl, rfl, by decide +kernel, rfl, by decide +kernel, by decide +kernel⟩
def t_other_order (K : PySem.W.Frag) (C : Addr) (sp_how_many_ahead : Sp) : TS :=
    (tSeq (tAsg (tLc (iRng1 (tCons (tCB (rLenS K) (tCons (tVar 1) tNil)) tNil)) (gName 3) tYes (tCall sp_how_many_ahead [] E0 (tCons (tVar 0) (tCons (tVar 1) (tCons (tVar 3) tNil)))) [3]) (gName 2))
    (tSeq (tIfS (tTest (tOp (rNeD K) (tCB (rSorted K) (tCons (tVar 2) tNil)) (tLstRg (tRg1 (tCB (rLenS K) (tCons (tVar 1) tNil)))))) (tRet (tC .non)) tNext)
    (tRet (tLc (iRng1 (tCons (tCB (rLenS K) (tCons (tVar 1) tNil)) tNil)) (gName 4) tYes (tBM K "list" (rIndex K) (tVar 2) (tCons (tVar 4) tNil)) [4]))))
theorem tie_other_order {sp_how_many_ahead sp : Sp} {f : Addr} {fd : FuncData} (F : Fun K "other_order" "other_order" s_other_order f fd) (T : Txt K mg C a_WIDTHS) (c_how_many_ahead : Cal P w K mg base "how_many_ahead" 3 ["table", "row", "event"] sp_how_many_ahead)
    (len : ∀ vs H Q E, sp vs H Q E → vs.length = ["table", "row"].length) (pure : ∀ vs H Q E, sp vs H Q E → t_other_order K C sp_how_many_ahead { nx := fun _ H' => Q .non H', rt := Q } (start n_other_order vs) H) :
    FnOk P w K mg base CX0 4 f fd ["table", "row"] sp := by
  refine F.ok sc_other_order len (fun cdv A outer s H vs Q E hr h => ⟨t_other_order K C sp_how_many_ahead, ?_, pure vs H Q E h⟩)
  exact (pss_cons (ps_set (i := 2) sc_other_order.nd rfl (by first | exact Or.inl rfl | exact Or.inr rfl) (pe_lc (own := [("event", 3)]) (g := (gName 3)) (tt := tYes) (te := (tCall sp_how_many_ahead [] E0 (tCons (tVar 0) (tCons (tVar 1) (tCons (tVar 3) tNil))))) (by rfl) sc_other_order.nd (pi_range1 (by rfl) T.range (pa_cons (pe_callB call_len_seq (by rfl) T.len PySem.boot_len (pa_cons (pv 1) pa_nil)) pa_nil)) (blkOk_by (own := [("event", 3)]) (N := n_other_order) (sc := defScope s_other_order) (by decide +kernel)) (fun _ _ _ _ _ => (pg_name (i := 3) sc_other_order.nd rfl (by first | exact Or.inl rfl | exact Or.inr rfl))) (fun _ _ _ _ _ => pts_nil) (fun _ _ _ _ _ => (pe_callC c_how_many_ahead (hr.mono (by decide)) (by rfl) (pa_cons (pv 0) (pa_cons (pv 1) (pa_cons (pv 3) pa_nil)))))))
      (pss_cons (ps_if (pt_cmpR (op_neD hr.units) (pe_callB cr_sorted (by rfl) T.sorted (by decide +kernel) (pa_cons (pv 2) pa_nil)) (pe_listRg rfl (by rfl) T.list (prg_1 (by rfl) T.range (pe_callB call_len_seq (by rfl) T.len PySem.boot_len (pa_cons (pv 1) pa_nil)))) (nomark _)) (pss_one (ps_ret pe_non)) pss_nil)
      (pss_one (ps_ret (pe_lc (own := [("place", 4)]) (g := (gName 4)) (tt := tYes) (te := (tBM K "list" (rIndex K) (tVar 2) (tCons (tVar 4) tNil))) (by rfl) sc_other_order.nd (pi_range1 (by rfl) T.range (pa_cons (pe_callB call_len_seq (by rfl) T.len PySem.boot_len (pa_cons (pv 1) pa_nil)) pa_nil)) (blkOk_by (own := [("place", 4)]) (N := n_other_order) (sc := defScope s_other_order) (by decide +kernel)) (fun _ _ _ _ _ => (pg_name (i := 4) sc_other_order.nd rfl (by first | exact Or.inl rfl | exact Or.inr rfl))) (fun _ _ _ _ _ => pts_nil) (fun _ _ _ _ _ => (pe_bm PySem.F.plainAttrs_list PySem.F.slot_list_index PySem.F.type_list_index mt_index (pv 2) (pa_cons (pv 4) pa_nil))))))))
/-! two_orders -/
abbrev s_two_orders : Stmt := top 39
abbrev n_two_orders : List Str := ["table", "row", "other"]
theorem sc_two_orders : FnScope n_two_orders ["table"] (defScope s_two_orders) := ⟨rfl, rfl, rfl, by decide +kernel, rfl, by decide +kernel, by decide +kernel⟩
def t_two_orders (K : PySem.W.Frag) (C : Addr) (sp_all_orders : Sp) (sp_other_order : Sp) : TS :=
    (tSeq (tFor (iList K (tCall sp_all_orders [] E0 (tCons (tVar 0) tNil))) (gName 1) (tSeq (tAsg (tCall sp_other_order [] E0 (tCons (tVar 0) (tCons (tVar 1) tNil))) (gName 2))
    (tIfS (tTest (tOp rNotN (tVar 2) (tC .non))) (tRet (tTup (tCons (tVar 1) (tCons (tVar 2) tNil)))) tNext)))
    (tRet (tC .non)))
theorem tie_two_orders {sp_all_orders sp_other_order sp : Sp} {f : Addr} {fd : FuncData} (F : Fun K "two_orders" "two_orders" s_two_orders f fd) (T : Txt K mg C a_WIDTHS) (c_all_orders : Cal P w K mg base "all_orders" 3 ["table"] sp_all_orders) (c_other_order : Cal P w K mg base "other_order" 4 ["table", "row"] sp_other_order)
    (len : ∀ vs H Q E, sp vs H Q E → vs.length = ["table"].length) (pure : ∀ vs H Q E, sp vs H Q E → t_two_orders K C sp_all_orders sp_other_order { nx := fun _ H' => Q .non H', rt := Q } (start n_two_orders vs) H) :
    FnOk P w K mg base CX0 5 f fd ["table"] sp := by
  refine F.ok sc_two_orders len (fun cdv A outer s H vs Q E hr h => ⟨t_two_orders K C sp_all_orders sp_other_order, ?_, pure vs H Q E h⟩)
  exact (pss_cons (ps_for PassesOwn.never rfl (pi_list (pe_callC c_all_orders (hr.mono (by decide)) (by rfl) (pa_cons (pv 0) pa_nil))) (pg_name (i := 1) sc_two_orders.nd rfl (by first | exact Or.inl rfl | exact Or.inr rfl)) (pss_cons (ps_set (i := 2) sc_two_orders.nd rfl (by first | exact Or.inl rfl | exact Or.inr rfl) (pe_callC c_other_order (hr.mono (by decide)) (by rfl) (pa_cons (pv 0) (pa_cons (pv 1) pa_nil))))
      (pss_one (ps_if (pt_cmpR op_notN (pv 2) pe_non (nomark _)) (pss_one (ps_ret (pe_tup (pa_cons (pv 1) (pa_cons (pv 2) pa_nil))))) pss_nil))))
      (pss_one (ps_ret pe_non)))
/-! fewest_orders -/
abbrev s_fewest_orders : Stmt := top 40
abbrev n_fewest_orders : List Str := ["table"]
theorem sc_fewest_orders : FnScope n_fewest_orders ["table"] (defScope s_fewest_orders) := ⟨rfl, rfl, rfl, by decide +kernel, rfl, by decide +kernel, by decide +kernel⟩
def t_fewest_orders (K : PySem.W.Frag) (C : Addr) (sp_all_orders : Sp) (sp_two_orders : Sp) : TS :=
    (tSeq (tIfS (tTest (tOp rEq (tCB (rLenS K) (tCons (tCall sp_all_orders [] E0 (tCons (tVar 0) tNil)) tNil)) (tC (.int 1)))) (tRet (tC (.int 1))) tNext)
    (tSeq (tIfS (tTest (tOp rNotN (tCall sp_two_orders [] E0 (tCons (tVar 0) tNil)) (tC .non))) (tRet (tC (.int 2))) tNext)
    (tRet (tC (.int 3)))))
theorem tie_fewest_orders {sp_all_orders sp_two_orders sp : Sp} {f : Addr} {fd : FuncData} (F : Fun K "fewest_orders" "fewest_orders" s_fewest_orders f fd) (T : Txt K mg C a_WIDTHS) (c_all_orders : Cal P w K mg base "all_orders" 3 ["table"] sp_all_orders) (c_two_orders : Cal P w K mg base "two_orders" 5 ["table"] sp_two_orders)
    (len : ∀ vs H Q E, sp vs H Q E → vs.length = ["table"].length) (pure : ∀ vs H Q E, sp vs H Q E → t_fewest_orders K C sp_all_orders sp_two_orders { nx := fun _ H' => Q .non H', rt := Q } (start n_fewest_orders vs) H) :
    FnOk P w K mg base CX0 6 f fd ["table"] sp := by
  refine F.ok sc_fewest_orders len (fun cdv A outer s H vs Q E hr h => ⟨t_fewest_orders K C sp_all_orders sp_two_orders, ?_, pure vs H Q E h⟩)
  exact (pss_cons (ps_if (pt_cmpR op_eq (pe_callB call_len_seq (by rfl) T.len PySem.boot_len (pa_cons (pe_callC c_all_orders (hr.mono (by decide)) (by rfl) (pa_cons (pv 0) pa_nil)) pa_nil)) pe_int (nomark _)) (pss_one (ps_ret pe_int)) pss_nil)
      (pss_cons (ps_if (pt_cmpR op_notN (pe_callC c_two_orders (hr.mono (by decide)) (by rfl) (pa_cons (pv 0) pa_nil)) pe_non (nomark _)) (pss_one (ps_ret pe_int)) pss_nil)
      (pss_one (ps_ret pe_int))))
/-! counted -/
abbrev s_counted : Stmt := top 42
abbrev n_counted : List Str := ["events"]
theorem sc_counted : FnScope n_counted ["events"] (defScope s_counted) := ⟨rfl, rfl, rfl, by decide +kernel, rfl, by decide +kernel, by decide +kernel⟩
def t_counted (K : PySem.W.Frag) (C : Addr) : TS :=
    (tRet (tOp rCat (tLst (tCons (tCB (rLenS K) (tCons (tVar 0) tNil)) tNil)) (tVar 0)))
theorem tie_counted {sp : Sp} {f : Addr} {fd : FuncData} (F : Fun K "counted" "counted" s_counted f fd) (T : Txt K mg C a_WIDTHS)
    (len : ∀ vs H Q E, sp vs H Q E → vs.length = ["events"].length) (pure : ∀ vs H Q E, sp vs H Q E → t_counted K C { nx := fun _ H' => Q .non H', rt := Q } (start n_counted vs) H) :
    FnOk P w K mg base CX0 1 f fd ["events"] sp := by
  refine F.ok sc_counted len (fun cdv A outer s H vs Q E hr h => ⟨t_counted K C, ?_, pure vs H Q E h⟩)
  exact (pss_one (ps_ret (pe_op op_cat (pe_lst (pa_cons (pe_callB call_len_seq (by rfl) T.len PySem.boot_len (pa_cons (pv 0) pa_nil)) pa_nil)) (pv 0))))
/-! counted_pairs -/
abbrev s_counted_pairs : Stmt := top 43
abbrev n_counted_pairs : List Str := ["pairs_found", "numbers", "i", "j"]
theorem sc_counted_pairs : FnScope n_counted_pairs ["pairs_found"] (defScope s_counted_pairs) := ⟨rfl, rfl, rfl, by decide +kernel, rfl, by decide +kernel, by decide +kernel⟩
def t_counted_pairs (K : PySem.W.Frag) (C : Addr) : TS :=
    (tSeq (tAsg (tLst (tCons (tCB (rLenS K) (tCons (tVar 0) tNil)) tNil)) (gName 1))
    (tSeq (tFor (iList K (tVar 0)) (gTup K 2 (gCons (gName 2) (gCons (gName 3) gNil))) (tSeq (tDrop (tBM K "list" rAppend (tVar 1) (tCons (tVar 2) tNil)))
    (tDrop (tBM K "list" rAppend (tVar 1) (tCons (tVar 3) tNil)))))
    (tRet (tVar 1))))
theorem tie_counted_pairs {sp : Sp} {f : Addr} {fd : FuncData} (F : Fun K "counted_pairs" "counted_pairs" s_counted_pairs f fd) (T : Txt K mg C a_WIDTHS)
    (len : ∀ vs H Q E, sp vs H Q E → vs.length = ["pairs_found"].length) (pure : ∀ vs H Q E, sp vs H Q E → t_counted_pairs K C { nx := fun _ H' => Q .non H', rt := Q } (start n_counted_pairs vs) H) :
    FnOk P w K mg base CX0 1 f fd ["pairs_found"] sp := by
  refine F.ok sc_counted_pairs len (fun cdv A outer s H vs Q E hr h => ⟨t_counted_pairs K C, ?_, pure vs H Q E h⟩)
  exact (pss_cons (ps_set (i := 1) sc_counted_pairs.nd rfl (by first | exact Or.inl rfl | exact Or.inr rfl) (pe_lst (pa_cons (pe_callB call_len_seq (by rfl) T.len PySem.boot_len (pa_cons (pv 0) pa_nil)) pa_nil)))
      (pss_cons (ps_for PassesOwn.never rfl (pi_list (pv 0)) (pg_tup rfl (pgs_cons (pg_name (i := 2) sc_counted_pairs.nd rfl (by first | exact Or.inl rfl | exact Or.inr rfl)) (pgs_cons (pg_name (i := 3) sc_counted_pairs.nd rfl (by first | exact Or.inl rfl | exact Or.inr rfl)) pgs_nil))) (pss_cons (ps_expr (pe_bm PySem.F.plainAttrs_list PySem.F.slot_list_append PySem.F.type_list_append mt_append (pv 1) (pa_cons (pv 2) pa_nil)))
      (pss_one (ps_expr (pe_bm PySem.F.plainAttrs_list PySem.F.slot_list_append PySem.F.type_list_append mt_append (pv 1) (pa_cons (pv 3) pa_nil))))))
      (pss_one (ps_ret (pv 1)))))
/-! told -/
abbrev s_told : Stmt := top 44
abbrev n_told : List Str := ["record"]
theorem sc_told : FnScope n_told ["record"] (defScope s_told) := ⟨rfl, rfl, rfl, by decide +kernel, rfl, by decide +kernel, by decide +kernel⟩
def t_told (K : PySem.W.Frag) (C : Addr) (sp_counted_pairs : Sp) : TS :=
    (tRet (tCall sp_counted_pairs [] E0 (tCons (tFld K (tVar 0) "told_pairs") tNil)))
theorem tie_told {sp_counted_pairs sp : Sp} {f : Addr} {fd : FuncData} (F : Fun K "told" "told" s_told f fd) (T : Txt K mg C a_WIDTHS) (c_counted_pairs : Cal P w K mg base "counted_pairs" 1 ["pairs_found"] sp_counted_pairs)
    (len : ∀ vs H Q E, sp vs H Q E → vs.length = ["record"].length) (pure : ∀ vs H Q E, sp vs H Q E → t_told K C sp_counted_pairs { nx := fun _ H' => Q .non H', rt := Q } (start n_told vs) H) :
    FnOk P w K mg base CX0 2 f fd ["record"] sp := by
  refine F.ok sc_told len (fun cdv A outer s H vs Q E hr h => ⟨t_told K C sp_counted_pairs, ?_, pure vs H Q E h⟩)
  exact (pss_one (ps_ret (pe_callC c_counted_pairs (hr.mono (by decide)) (by rfl) (pa_cons (pe_fld (pv 0) rfl) pa_nil))))
/-! state -/
abbrev s_state : Stmt := top 60
abbrev n_state : List Str := ["record"]
theorem sc_state : FnScope n_state ["record"] (defScope s_state) := ⟨rfl, rfl, rfl, by decide +kernel, rfl, by decide +kernel, by decide +kernel⟩
def t_state (K : PySem.W.Frag) (C : Addr) : TS :=
    (tRet (tLst (tCons (tFld K (tVar 0) "size") (tCons (tCB (rLenS K) (tCons (tFld K (tVar 0) "told_pairs") tNil)) (tCons (tCB (rLenS K) (tCons (tFld K (tVar 0) "earlier") tNil)) tNil)))))
theorem tie_state {sp : Sp} {f : Addr} {fd : FuncData} (F : Fun K "state" "state" s_state f fd) (T : Txt K mg C a_WIDTHS)
    (len : ∀ vs H Q E, sp vs H Q E → vs.length = ["record"].length) (pure : ∀ vs H Q E, sp vs H Q E → t_state K C { nx := fun _ H' => Q .non H', rt := Q } (start n_state vs) H) :
    FnOk P w K mg base CX0 1 f fd ["record"] sp := by
  refine F.ok sc_state len (fun cdv A outer s H vs Q E hr h => ⟨t_state K C, ?_, pure vs H Q E h⟩)
  exact (pss_one (ps_ret (pe_lst (pa_cons (pe_fld (pv 0) rfl) (pa_cons (pe_callB call_len_seq (by rfl) T.len PySem.boot_len (pa_cons (pe_fld (pv 0) rfl) pa_nil)) (pa_cons (pe_callB call_len_seq (by rfl) T.len PySem.boot_len (pa_cons (pe_fld (pv 0) rfl) pa_nil)) pa_nil))))))
/-! Record.__init__ -/
abbrev s_Record_init : Stmt := inClass (top 63) 0
abbrev n_Record_init : List Str := ["self"]
theorem sc_Record_init : FnScope n_Record_init ["self"] (defScope s_Record_init) := ⟨rfl, rfl, rfl, by decide +kernel, rfl, by decide +kernel, by decide +kernel⟩
def t_Record_init (K : PySem.W.Frag) (C : Addr) : TS :=
    (tSeq (sFld K (tVar 0) (tC (.int 0)) "size")
    (tSeq (sFld K (tVar 0) (tLst tNil) "told_pairs")
    (sFld K (tVar 0) (tLst tNil) "earlier")))
theorem tie_Record_init {sp : Sp} {f : Addr} {fd : FuncData} (F : Fun K "__init__" "Record.__init__" s_Record_init f fd) (T : Txt K mg C a_WIDTHS)
    (len : ∀ vs H Q E, sp vs H Q E → vs.length = ["self"].length) (pure : ∀ vs H Q E, sp vs H Q E → t_Record_init K C { nx := fun _ H' => Q .non H', rt := Q } (start n_Record_init vs) H) :
    FnOk P w K mg base CX0 1 f fd ["self"] sp := by
  refine F.ok sc_Record_init len (fun cdv A outer s H vs Q E hr h => ⟨t_Record_init K C, ?_, pure vs H Q E h⟩)
  exact (pss_cons (ps_fld (pv 0) pe_int rfl)
      (pss_cons (ps_fld (pv 0) (pe_lst pa_nil) rfl)
      (pss_one (ps_fld (pv 0) (pe_lst pa_nil) rfl))))
/-! Record.begun -/
abbrev s_Record_begun : Stmt := inClass (top 63) 1
abbrev n_Record_begun : List Str := ["self"]
theorem sc_Record_begun : FnScope n_Record_begun ["self"] (defScope s_Record_begun) := ⟨rfl, rfl, rfl, by decide +kernel, rfl, by decide +kernel, by decide +kernel⟩
def t_Record_begun (K : PySem.W.Frag) (C : Addr) : TS :=
    (tRet (tOp rGt (tFld K (tVar 0) "size") (tC (.int 0))))
theorem tie_Record_begun {sp : Sp} {f : Addr} {fd : FuncData} (F : Fun K "begun" "Record.begun" s_Record_begun f fd) (T : Txt K mg C a_WIDTHS)
    (len : ∀ vs H Q E, sp vs H Q E → vs.length = ["self"].length) (pure : ∀ vs H Q E, sp vs H Q E → t_Record_begun K C { nx := fun _ H' => Q .non H', rt := Q } (start n_Record_begun vs) H) :
    FnOk P w K mg base CX0 1 f fd ["self"] sp := by
  refine F.ok sc_Record_begun len (fun cdv A outer s H vs Q E hr h => ⟨t_Record_begun K C, ?_, pure vs H Q E h⟩)
  exact (pss_one (ps_ret (pe_cmpR op_gt (pe_fld (pv 0) rfl) pe_int (nomark _))))
/-! Record.has_event -/
abbrev s_Record_has_event : Stmt := inClass (top 63) 2
abbrev n_Record_has_event : List Str := ["self", "i"]
theorem sc_Record_has_event : FnScope n_Record_has_event ["self", "i"] (defScope s_Record_has_event) := ⟨rfl, rfl, rfl, by decide +kernel, rfl, by decide +kernel, by decide +kernel⟩
def t_Record_has_event (K : PySem.W.Frag) (C : Addr) : TS :=
    (tRet (tOp rLt (tVar 1) (tFld K (tVar 0) "size")))
theorem tie_Record_has_event {sp : Sp} {f : Addr} {fd : FuncData} (F : Fun K "has_event" "Record.has_event" s_Record_has_event f fd) (T : Txt K mg C a_WIDTHS)
    (len : ∀ vs H Q E, sp vs H Q E → vs.length = ["self", "i"].length) (pure : ∀ vs H Q E, sp vs H Q E → t_Record_has_event K C { nx := fun _ H' => Q .non H', rt := Q } (start n_Record_has_event vs) H) :
    FnOk P w K mg base CX0 1 f fd ["self", "i"] sp := by
  refine F.ok sc_Record_has_event len (fun cdv A outer s H vs Q E hr h => ⟨t_Record_has_event K C, ?_, pure vs H Q E h⟩)
  exact (pss_one (ps_ret (pe_cmpR op_lt (pv 1) (pe_fld (pv 0) rfl) (nomark _))))
/-! Record.table -/
abbrev s_Record_table : Stmt := inClass (top 63) 3
abbrev n_Record_table : List Str := ["self"]
theorem sc_Record_table : FnScope n_Record_table ["self"] (defScope s_Record_table) := ⟨rfl, rfl, rfl, by decide +kernel, rfl, by decide +kernel, by decide +kernel⟩
def t_Record_table (K : PySem.W.Frag) (C : Addr) (sp_heard_table : Sp) : TS :=
    (tRet (tCall sp_heard_table [] E0 (tCons (tFld K (tVar 0) "size") (tCons (tFld K (tVar 0) "told_pairs") tNil))))
theorem tie_Record_table {sp_heard_table sp : Sp} {f : Addr} {fd : FuncData} (F : Fun K "table" "Record.table" s_Record_table f fd) (T : Txt K mg C a_WIDTHS) (c_heard_table : Cal P w K mg base "heard_table" 1 ["size", "told_pairs"] sp_heard_table)
    (len : ∀ vs H Q E, sp vs H Q E → vs.length = ["self"].length) (pure : ∀ vs H Q E, sp vs H Q E → t_Record_table K C sp_heard_table { nx := fun _ H' => Q .non H', rt := Q } (start n_Record_table vs) H) :
    FnOk P w K mg base CX0 2 f fd ["self"] sp := by
  refine F.ok sc_Record_table len (fun cdv A outer s H vs Q E hr h => ⟨t_Record_table K C sp_heard_table, ?_, pure vs H Q E h⟩)
  exact (pss_one (ps_ret (pe_callC c_heard_table (hr.mono (by decide)) (by rfl) (pa_cons (pe_fld (pv 0) rfl) (pa_cons (pe_fld (pv 0) rfl) pa_nil)))))
/-! heard -/
abbrev s_heard : Stmt := top 45
abbrev n_heard : List Str := ["record", "i", "j"]
theorem sc_heard : FnScope n_heard ["record", "i", "j"] (defScope s_heard) := ⟨rfl, rfl, rfl, by decide +kernel, rfl, by decide +kernel, by decide +kernel⟩
def t_heard (K : PySem.W.Frag) (C : Addr) (sp_Record_has_event : Sp) (sp_Record_table : Sp) : TS :=
    (tSeq (tIfS (tOr (tNot (tB (tMeth C "has_event" sp_Record_has_event [] E0 (tVar 0) (tCons (tVar 1) tNil)))) (tNot (tB (tMeth C "has_event" sp_Record_has_event [] E0 (tVar 0) (tCons (tVar 2) tNil))))) (tRet (tLst (tCons (tC (.int (-2))) tNil))) tNext)
    (tRet (tLst (tCons (tIf (tOr (tTest (tOp rEq (tVar 1) (tVar 2))) (tB (tOp (rIxL K) (tOp (rIxL K) (tMeth C "table" sp_Record_table [] E0 (tVar 0) tNil) (tVar 1)) (tVar 2)))) (tC (.int 1)) (tC (.int 0))) tNil))))
theorem tie_heard {sp_Record_has_event sp_Record_table sp : Sp} {f : Addr} {fd : FuncData} (F : Fun K "heard" "heard" s_heard f fd) (T : Txt K mg C a_WIDTHS) (c_Record_has_event : CalM P w K mg base C "has_event" 1 ["self", "i"] sp_Record_has_event) (c_Record_table : CalM P w K mg base C "table" 2 ["self"] sp_Record_table)
    (len : ∀ vs H Q E, sp vs H Q E → vs.length = ["record", "i", "j"].length) (pure : ∀ vs H Q E, sp vs H Q E → t_heard K C sp_Record_has_event sp_Record_table { nx := fun _ H' => Q .non H', rt := Q } (start n_heard vs) H) :
    FnOk P w K mg base CX0 3 f fd ["record", "i", "j"] sp := by
  refine F.ok sc_heard len (fun cdv A outer s H vs Q E hr h => ⟨t_heard K C sp_Record_has_event sp_Record_table, ?_, pure vs H Q E h⟩)
  exact (pss_cons (ps_if (PW.pt (pw_or (pt_not (pt_val (pe_methC c_Record_has_event T.cl (hr.mono (by decide)) (pv 0) (pa_cons (pv 1) pa_nil)))) (pw_or1 (pt_not (pt_val (pe_methC c_Record_has_event T.cl (hr.mono (by decide)) (pv 0) (pa_cons (pv 2) pa_nil))))))) (pss_one (ps_ret (pe_lst (pa_cons (pe_cst (by rfl) T.c_NO_SUCH) pa_nil)))) pss_nil)
      (pss_one (ps_ret (pe_lst (pa_cons (pe_ifExp (PW.pt (pw_or (pt_cmpR op_eq (pv 1) (pv 2) (nomark _)) (pw_or1 (pt_val (pe_ix ix_list (pe_ix ix_list (pe_methC0 c_Record_table T.cl (hr.mono (by decide)) (pv 0)) (pv 1) (fun _ _ => rfl)) (pv 2) (fun _ _ => rfl)))))) pe_int pe_int) pa_nil)))))
/-! pairs -/
abbrev s_pairs : Stmt := top 46
abbrev n_pairs : List Str := ["record"]
theorem sc_pairs : FnScope n_pairs ["record"] (defScope s_pairs) := ⟨rfl, rfl, rfl, by decide +kernel, rfl, by decide +kernel, by decide +kernel⟩
def t_pairs (K : PySem.W.Frag) (C : Addr) (sp_counted_pairs : Sp) (sp_heard_pairs : Sp) (sp_Record_table : Sp) : TS :=
    (tRet (tCall sp_counted_pairs [] E0 (tCons (tCall sp_heard_pairs [] E0 (tCons (tMeth C "table" sp_Record_table [] E0 (tVar 0) tNil) tNil)) tNil)))
theorem tie_pairs {sp_counted_pairs sp_heard_pairs sp_Record_table sp : Sp} {f : Addr} {fd : FuncData} (F : Fun K "pairs" "pairs" s_pairs f fd) (T : Txt K mg C a_WIDTHS) (c_counted_pairs : Cal P w K mg base "counted_pairs" 1 ["pairs_found"] sp_counted_pairs) (c_heard_pairs : Cal P w K mg base "heard_pairs" 1 ["table"] sp_heard_pairs) (c_Record_table : CalM P w K mg base C "table" 2 ["self"] sp_Record_table)
    (len : ∀ vs H Q E, sp vs H Q E → vs.length = ["record"].length) (pure : ∀ vs H Q E, sp vs H Q E → t_pairs K C sp_counted_pairs sp_heard_pairs sp_Record_table { nx := fun _ H' => Q .non H', rt := Q } (start n_pairs vs) H) :
    FnOk P w K mg base CX0 3 f fd ["record"] sp := by
  refine F.ok sc_pairs len (fun cdv A outer s H vs Q E hr h => ⟨t_pairs K C sp_counted_pairs sp_heard_pairs sp_Record_table, ?_, pure vs H Q E h⟩)
  exact (pss_one (ps_ret (pe_callC c_counted_pairs (hr.mono (by decide)) (by rfl) (pa_cons (pe_callC c_heard_pairs (hr.mono (by decide)) (by rfl) (pa_cons (pe_methC0 c_Record_table T.cl (hr.mono (by decide)) (pv 0)) pa_nil)) pa_nil))))
/-! past -/
abbrev s_past : Stmt := top 47
abbrev n_past : List Str := ["record", "i"]
theorem sc_past : FnScope n_past ["record", "i"] (defScope s_past) := ⟨rfl, rfl, rfl, by decide +kernel, rfl, by decide +kernel, by decide +kernel⟩
def t_past (K : PySem.W.Frag) (C : Addr) (sp_counted : Sp) (sp_past_events : Sp) (sp_Record_has_event : Sp) (sp_Record_table : Sp) : TS :=
    (tSeq (tIfS (tNot (tB (tMeth C "has_event" sp_Record_has_event [] E0 (tVar 0) (tCons (tVar 1) tNil)))) (tRet (tLst (tCons (tC (.int (-2))) tNil))) tNext)
    (tRet (tCall sp_counted [] E0 (tCons (tCall sp_past_events [] E0 (tCons (tMeth C "table" sp_Record_table [] E0 (tVar 0) tNil) (tCons (tVar 1) tNil))) tNil))))
theorem tie_past {sp_counted sp_past_events sp_Record_has_event sp_Record_table sp : Sp} {f : Addr} {fd : FuncData} (F : Fun K "past" "past" s_past f fd) (T : Txt K mg C a_WIDTHS) (c_counted : Cal P w K mg base "counted" 1 ["events"] sp_counted) (c_past_events : Cal P w K mg base "past_events" 1 ["table", "i"] sp_past_events) (c_Record_has_event : CalM P w K mg base C "has_event" 1 ["self", "i"] sp_Record_has_event) (c_Record_table : CalM P w K mg base C "table" 2 ["self"] sp_Record_table)
    (len : ∀ vs H Q E, sp vs H Q E → vs.length = ["record", "i"].length) (pure : ∀ vs H Q E, sp vs H Q E → t_past K C sp_counted sp_past_events sp_Record_has_event sp_Record_table { nx := fun _ H' => Q .non H', rt := Q } (start n_past vs) H) :
    FnOk P w K mg base CX0 3 f fd ["record", "i"] sp := by
  refine F.ok sc_past len (fun cdv A outer s H vs Q E hr h => ⟨t_past K C sp_counted sp_past_events sp_Record_has_event sp_Record_table, ?_, pure vs H Q E h⟩)
  exact (pss_cons (ps_if (pt_not (pt_val (pe_methC c_Record_has_event T.cl (hr.mono (by decide)) (pv 0) (pa_cons (pv 1) pa_nil)))) (pss_one (ps_ret (pe_lst (pa_cons (pe_cst (by rfl) T.c_NO_SUCH) pa_nil)))) pss_nil)
      (pss_one (ps_ret (pe_callC c_counted (hr.mono (by decide)) (by rfl) (pa_cons (pe_callC c_past_events (hr.mono (by decide)) (by rfl) (pa_cons (pe_methC0 c_Record_table T.cl (hr.mono (by decide)) (pv 0)) (pa_cons (pv 1) pa_nil))) pa_nil)))))
/-! links -/
abbrev s_links : Stmt := top 48
abbrev n_links : List Str := ["record"]
theorem sc_links : FnScope n_links ["record"] (defScope s_links) := ⟨rfl, rfl, rfl, by decide +kernel, rfl, by decide +kernel, by decide +kernel⟩
def t_links (K : PySem.W.Frag) (C : Addr) (sp_counted_pairs : Sp) (sp_link_pairs : Sp) (sp_Record_table : Sp) : TS :=
    (tRet (tCall sp_counted_pairs [] E0 (tCons (tCall sp_link_pairs [] E0 (tCons (tMeth C "table" sp_Record_table [] E0 (tVar 0) tNil) tNil)) tNil)))
theorem tie_links {sp_counted_pairs sp_link_pairs sp_Record_table sp : Sp} {f : Addr} {fd : FuncData} (F : Fun K "links" "links" s_links f fd) (T : Txt K mg C a_WIDTHS) (c_counted_pairs : Cal P w K mg base "counted_pairs" 1 ["pairs_found"] sp_counted_pairs) (c_link_pairs : Cal P w K mg base "link_pairs" 2 ["table"] sp_link_pairs) (c_Record_table : CalM P w K mg base C "table" 2 ["self"] sp_Record_table)
    (len : ∀ vs H Q E, sp vs H Q E → vs.length = ["record"].length) (pure : ∀ vs H Q E, sp vs H Q E → t_links K C sp_counted_pairs sp_link_pairs sp_Record_table { nx := fun _ H' => Q .non H', rt := Q } (start n_links vs) H) :
    FnOk P w K mg base CX0 3 f fd ["record"] sp := by
  refine F.ok sc_links len (fun cdv A outer s H vs Q E hr h => ⟨t_links K C sp_counted_pairs sp_link_pairs sp_Record_table, ?_, pure vs H Q E h⟩)
  exact (pss_one (ps_ret (pe_callC c_counted_pairs (hr.mono (by decide)) (by rfl) (pa_cons (pe_callC c_link_pairs (hr.mono (by decide)) (by rfl) (pa_cons (pe_methC0 c_Record_table T.cl (hr.mono (by decide)) (pv 0)) pa_nil)) pa_nil))))
/-! first -/
abbrev s_first : Stmt := top 49
abbrev n_first : List Str := ["record"]
theorem sc_first : FnScope n_first ["record"] (defScope s_first) := ⟨rfl, rfl, rfl, by decide +kernel, rfl, by decide +kernel, by decide +kernel⟩
def t_first (K : PySem.W.Frag) (C : Addr) (sp_counted : Sp) (sp_first_events : Sp) (sp_Record_table : Sp) : TS :=
    (tRet (tCall sp_counted [] E0 (tCons (tCall sp_first_events [] E0 (tCons (tMeth C "table" sp_Record_table [] E0 (tVar 0) tNil) tNil)) tNil)))
theorem tie_first {sp_counted sp_first_events sp_Record_table sp : Sp} {f : Addr} {fd : FuncData} (F : Fun K "first" "first" s_first f fd) (T : Txt K mg C a_WIDTHS) (c_counted : Cal P w K mg base "counted" 1 ["events"] sp_counted) (c_first_events : Cal P w K mg base "first_events" 2 ["table"] sp_first_events) (c_Record_table : CalM P w K mg base C "table" 2 ["self"] sp_Record_table)
    (len : ∀ vs H Q E, sp vs H Q E → vs.length = ["record"].length) (pure : ∀ vs H Q E, sp vs H Q E → t_first K C sp_counted sp_first_events sp_Record_table { nx := fun _ H' => Q .non H', rt := Q } (start n_first vs) H) :
    FnOk P w K mg base CX0 3 f fd ["record"] sp := by
  refine F.ok sc_first len (fun cdv A outer s H vs Q E hr h => ⟨t_first K C sp_counted sp_first_events sp_Record_table, ?_, pure vs H Q E h⟩)
  exact (pss_one (ps_ret (pe_callC c_counted (hr.mono (by decide)) (by rfl) (pa_cons (pe_callC c_first_events (hr.mono (by decide)) (by rfl) (pa_cons (pe_methC0 c_Record_table T.cl (hr.mono (by decide)) (pv 0)) pa_nil)) pa_nil))))
/-! orders -/
abbrev s_orders : Stmt := top 50
abbrev n_orders : List Str := ["record"]
theorem sc_orders : FnScope n_orders ["record"] (defScope s_orders) := ⟨rfl, rfl, rfl, by decide +kernel, rfl, by decide +kernel, by decide +kernel⟩
def t_orders (K : PySem.W.Frag) (C : Addr) (sp_all_orders : Sp) (sp_Record_table : Sp) : TS :=
    (tRet (tLst (tCons (tCB (rLenS K) (tCons (tCall sp_all_orders [] E0 (tCons (tMeth C "table" sp_Record_table [] E0 (tVar 0) tNil) tNil)) tNil)) tNil)))
theorem tie_orders {sp_all_orders sp_Record_table sp : Sp} {f : Addr} {fd : FuncData} (F : Fun K "orders" "orders" s_orders f fd) (T : Txt K mg C a_WIDTHS) (c_all_orders : Cal P w K mg base "all_orders" 3 ["table"] sp_all_orders) (c_Record_table : CalM P w K mg base C "table" 2 ["self"] sp_Record_table)
    (len : ∀ vs H Q E, sp vs H Q E → vs.length = ["record"].length) (pure : ∀ vs H Q E, sp vs H Q E → t_orders K C sp_all_orders sp_Record_table { nx := fun _ H' => Q .non H', rt := Q } (start n_orders vs) H) :
    FnOk P w K mg base CX0 4 f fd ["record"] sp := by
  refine F.ok sc_orders len (fun cdv A outer s H vs Q E hr h => ⟨t_orders K C sp_all_orders sp_Record_table, ?_, pure vs H Q E h⟩)
  exact (pss_one (ps_ret (pe_lst (pa_cons (pe_callB call_len_seq (by rfl) T.len PySem.boot_len (pa_cons (pe_callC c_all_orders (hr.mono (by decide)) (by rfl) (pa_cons (pe_methC0 c_Record_table T.cl (hr.mono (by decide)) (pv 0)) pa_nil)) pa_nil)) pa_nil))))
/-! order -/
abbrev s_order : Stmt := top 51
abbrev n_order : List Str := ["record", "k", "found"]
theorem sc_order : FnScope n_order ["record", "k"] (defScope s_order) := ⟨rfl, rfl, rfl, by decide +kernel, rfl, by decide +kernel, by decide +kernel⟩
def t_order (K : PySem.W.Frag) (C : Addr) (sp_all_orders : Sp) (sp_counted : Sp) (sp_Record_table : Sp) : TS :=
    (tSeq (tAsg (tCall sp_all_orders [] E0 (tCons (tMeth C "table" sp_Record_table [] E0 (tVar 0) tNil) tNil)) (gName 2))
    (tSeq (tIfS (tTest (tOp rGe (tVar 1) (tCB (rLenS K) (tCons (tVar 2) tNil)))) (tRet (tLst (tCons (tC (.int (-2))) tNil))) tNext)
    (tRet (tCall sp_counted [] E0 (tCons (tOp (rIxL K) (tVar 2) (tVar 1)) tNil)))))
theorem tie_order {sp_all_orders sp_counted sp_Record_table sp : Sp} {f : Addr} {fd : FuncData} (F : Fun K "order" "order" s_order f fd) (T : Txt K mg C a_WIDTHS) (c_all_orders : Cal P w K mg base "all_orders" 3 ["table"] sp_all_orders) (c_counted : Cal P w K mg base "counted" 1 ["events"] sp_counted) (c_Record_table : CalM P w K mg base C "table" 2 ["self"] sp_Record_table)
    (len : ∀ vs H Q E, sp vs H Q E → vs.length = ["record", "k"].length) (pure : ∀ vs H Q E, sp vs H Q E → t_order K C sp_all_orders sp_counted sp_Record_table { nx := fun _ H' => Q .non H', rt := Q } (start n_order vs) H) :
    FnOk P w K mg base CX0 4 f fd ["record", "k"] sp := by
  refine F.ok sc_order len (fun cdv A outer s H vs Q E hr h => ⟨t_order K C sp_all_orders sp_counted sp_Record_table, ?_, pure vs H Q E h⟩)
  exact (pss_cons (ps_set (i := 2) sc_order.nd rfl (by first | exact Or.inl rfl | exact Or.inr rfl) (pe_callC c_all_orders (hr.mono (by decide)) (by rfl) (pa_cons (pe_methC0 c_Record_table T.cl (hr.mono (by decide)) (pv 0)) pa_nil)))
      (pss_cons (ps_if (pt_cmpR op_ge (pv 1) (pe_callB call_len_seq (by rfl) T.len PySem.boot_len (pa_cons (pv 2) pa_nil)) (nomark _)) (pss_one (ps_ret (pe_lst (pa_cons (pe_cst (by rfl) T.c_NO_SUCH) pa_nil)))) pss_nil)
      (pss_one (ps_ret (pe_callC c_counted (hr.mono (by decide)) (by rfl) (pa_cons (pe_ix ix_list (pv 2) (pv 1) (fun _ _ => rfl)) pa_nil))))))
/-! fits -/
abbrev s_fits : Stmt := top 52
abbrev n_fits : List Str := ["record", "handed_in"]
theorem sc_fits : FnScope n_fits ["record", "handed_in"] (defScope s_fits) := ⟨rfl, rfl, rfl, by decide +kernel, rfl, by decide +kernel, by decide +kernel⟩
def t_fits (K : PySem.W.Frag) (C : Addr) (sp_may_have_come : Sp) (sp_Record_table : Sp) : TS :=
    (tSeq (tIfS (tTest (tOp (rNeD K) (tCB (rSorted K) (tCons (tVar 1) tNil)) (tLstRg (tRg1 (tFld K (tVar 0) "size"))))) (tRet (tLst (tCons (tC (.int (-22))) tNil))) tNext)
    (tRet (tLst (tCons (tIf (tB (tCall sp_may_have_come [] E0 (tCons (tMeth C "table" sp_Record_table [] E0 (tVar 0) tNil) (tCons (tVar 1) tNil)))) (tC (.int 1)) (tC (.int 0))) tNil))))
theorem tie_fits {sp_may_have_come sp_Record_table sp : Sp} {f : Addr} {fd : FuncData} (F : Fun K "fits" "fits" s_fits f fd) (T : Txt K mg C a_WIDTHS) (c_may_have_come : Cal P w K mg base "may_have_come" 1 ["table", "row"] sp_may_have_come) (c_Record_table : CalM P w K mg base C "table" 2 ["self"] sp_Record_table)
    (len : ∀ vs H Q E, sp vs H Q E → vs.length = ["record", "handed_in"].length) (pure : ∀ vs H Q E, sp vs H Q E → t_fits K C sp_may_have_come sp_Record_table { nx := fun _ H' => Q .non H', rt := Q } (start n_fits vs) H) :
    FnOk P w K mg base CX0 3 f fd ["record", "handed_in"] sp := by
  refine F.ok sc_fits len (fun cdv A outer s H vs Q E hr h => ⟨t_fits K C sp_may_have_come sp_Record_table, ?_, pure vs H Q E h⟩)
  exact (pss_cons (ps_if (pt_cmpR (op_neD hr.units) (pe_callB cr_sorted (by rfl) T.sorted (by decide +kernel) (pa_cons (pv 1) pa_nil)) (pe_listRg rfl (by rfl) T.list (prg_1 (by rfl) T.range (pe_fld (pv 0) rfl))) (nomark _)) (pss_one (ps_ret (pe_lst (pa_cons (pe_cst (by rfl) T.c_NOT_AS_TOLD) pa_nil)))) pss_nil)
      (pss_one (ps_ret (pe_lst (pa_cons (pe_ifExp (pt_val (pe_callC c_may_have_come (hr.mono (by decide)) (by rfl) (pa_cons (pe_methC0 c_Record_table T.cl (hr.mono (by decide)) (pv 0)) (pa_cons (pv 1) pa_nil)))) pe_int pe_int) pa_nil)))))
/-! sooner -/
abbrev s_sooner : Stmt := top 53
abbrev n_sooner : List Str := ["record", "i", "j", "found"]
theorem sc_sooner : FnScope n_sooner ["record", "i", "j"] (defScope s_sooner) := ⟨rfl, rfl, rfl, by decide +kernel, rfl, by decide +kernel, by decide +kernel⟩
def t_sooner (K : PySem.W.Frag) (C : Addr) (sp_all_orders : Sp) (sp_how_often_sooner : Sp) (sp_Record_has_event : Sp) (sp_Record_table : Sp) : TS :=
    (tSeq (tIfS (tOr (tNot (tB (tMeth C "has_event" sp_Record_has_event [] E0 (tVar 0) (tCons (tVar 1) tNil)))) (tNot (tB (tMeth C "has_event" sp_Record_has_event [] E0 (tVar 0) (tCons (tVar 2) tNil))))) (tRet (tLst (tCons (tC (.int (-2))) tNil))) tNext)
    (tSeq (tIfS (tTest (tOp rEq (tVar 1) (tVar 2))) (tRet (tLst (tCons (tC (.int (-22))) tNil))) tNext)
    (tSeq (tAsg (tCall sp_all_orders [] E0 (tCons (tMeth C "table" sp_Record_table [] E0 (tVar 0) tNil) tNil)) (gName 3))
    (tRet (tLst (tCons (tCall sp_how_often_sooner [] E0 (tCons (tVar 3) (tCons (tVar 1) (tCons (tVar 2) tNil)))) (tCons (tCB (rLenS K) (tCons (tVar 3) tNil)) tNil)))))))
theorem tie_sooner {sp_all_orders sp_how_often_sooner sp_Record_has_event sp_Record_table sp : Sp} {f : Addr} {fd : FuncData} (F : Fun K "sooner" "sooner" s_sooner f fd) (T : Txt K mg C a_WIDTHS) (c_all_orders : Cal P w K mg base "all_orders" 3 ["table"] sp_all_orders) (c_how_often_sooner : Cal P w K mg base "how_often_sooner" 1 ["rows", "i", "j"] sp_how_often_sooner) (c_Record_has_event : CalM P w K mg base C "has_event" 1 ["self", "i"] sp_Record_has_event) (c_Record_table : CalM P w K mg base C "table" 2 ["self"] sp_Record_table)
    (len : ∀ vs H Q E, sp vs H Q E → vs.length = ["record", "i", "j"].length) (pure : ∀ vs H Q E, sp vs H Q E → t_sooner K C sp_all_orders sp_how_often_sooner sp_Record_has_event sp_Record_table { nx := fun _ H' => Q .non H', rt := Q } (start n_sooner vs) H) :
    FnOk P w K mg base CX0 4 f fd ["record", "i", "j"] sp := by
  refine F.ok sc_sooner len (fun cdv A outer s H vs Q E hr h => ⟨t_sooner K C sp_all_orders sp_how_often_sooner sp_Record_has_event sp_Record_table, ?_, pure vs H Q E h⟩)
  exact (pss_cons (ps_if (PW.pt (pw_or (pt_not (pt_val (pe_methC c_Record_has_event T.cl (hr.mono (by decide)) (pv 0) (pa_cons (pv 1) pa_nil)))) (pw_or1 (pt_not (pt_val (pe_methC c_Record_has_event T.cl (hr.mono (by decide)) (pv 0) (pa_cons (pv 2) pa_nil))))))) (pss_one (ps_ret (pe_lst (pa_cons (pe_cst (by rfl) T.c_NO_SUCH) pa_nil)))) pss_nil)
      (pss_cons (ps_if (pt_cmpR op_eq (pv 1) (pv 2) (nomark _)) (pss_one (ps_ret (pe_lst (pa_cons (pe_cst (by rfl) T.c_NOT_AS_TOLD) pa_nil)))) pss_nil)
      (pss_cons (ps_set (i := 3) sc_sooner.nd rfl (by first | exact Or.inl rfl | exact Or.inr rfl) (pe_callC c_all_orders (hr.mono (by decide)) (by rfl) (pa_cons (pe_methC0 c_Record_table T.cl (hr.mono (by decide)) (pv 0)) pa_nil)))
      (pss_one (ps_ret (pe_lst (pa_cons (pe_callC c_how_often_sooner (hr.mono (by decide)) (by rfl) (pa_cons (pv 3) (pa_cons (pv 1) (pa_cons (pv 2) pa_nil)))) (pa_cons (pe_callB call_len_seq (by rfl) T.len PySem.boot_len (pa_cons (pv 3) pa_nil)) pa_nil))))))))
/-! place -/
abbrev s_place : Stmt := top 54
abbrev n_place : List Str := ["record", "i"]
theorem sc_place : FnScope n_place ["record", "i"] (defScope s_place) := ⟨rfl, rfl, rfl, by decide +kernel, rfl, by decide +kernel, by decide +kernel⟩
def t_place (K : PySem.W.Frag) (C : Addr) (sp_counted : Sp) (sp_how_often_at_each_place : Sp) (sp_all_orders : Sp) (sp_Record_has_event : Sp) (sp_Record_table : Sp) : TS :=
    (tSeq (tIfS (tNot (tB (tMeth C "has_event" sp_Record_has_event [] E0 (tVar 0) (tCons (tVar 1) tNil)))) (tRet (tLst (tCons (tC (.int (-2))) tNil))) tNext)
    (tRet (tCall sp_counted [] E0 (tCons (tCall sp_how_often_at_each_place [] E0 (tCons (tCall sp_all_orders [] E0 (tCons (tMeth C "table" sp_Record_table [] E0 (tVar 0) tNil) tNil)) (tCons (tVar 1) tNil))) tNil))))
theorem tie_place {sp_counted sp_how_often_at_each_place sp_all_orders sp_Record_has_event sp_Record_table sp : Sp} {f : Addr} {fd : FuncData} (F : Fun K "place" "place" s_place f fd) (T : Txt K mg C a_WIDTHS) (c_counted : Cal P w K mg base "counted" 1 ["events"] sp_counted) (c_how_often_at_each_place : Cal P w K mg base "how_often_at_each_place" 1 ["rows", "event"] sp_how_often_at_each_place) (c_all_orders : Cal P w K mg base "all_orders" 3 ["table"] sp_all_orders) (c_Record_has_event : CalM P w K mg base C "has_event" 1 ["self", "i"] sp_Record_has_event) (c_Record_table : CalM P w K mg base C "table" 2 ["self"] sp_Record_table)
    (len : ∀ vs H Q E, sp vs H Q E → vs.length = ["record", "i"].length) (pure : ∀ vs H Q E, sp vs H Q E → t_place K C sp_counted sp_how_often_at_each_place sp_all_orders sp_Record_has_event sp_Record_table { nx := fun _ H' => Q .non H', rt := Q } (start n_place vs) H) :
    FnOk P w K mg base CX0 4 f fd ["record", "i"] sp := by
  refine F.ok sc_place len (fun cdv A outer s H vs Q E hr h => ⟨t_place K C sp_counted sp_how_often_at_each_place sp_all_orders sp_Record_has_event sp_Record_table, ?_, pure vs H Q E h⟩)
  exact (pss_cons (ps_if (pt_not (pt_val (pe_methC c_Record_has_event T.cl (hr.mono (by decide)) (pv 0) (pa_cons (pv 1) pa_nil)))) (pss_one (ps_ret (pe_lst (pa_cons (pe_cst (by rfl) T.c_NO_SUCH) pa_nil)))) pss_nil)
      (pss_one (ps_ret (pe_callC c_counted (hr.mono (by decide)) (by rfl) (pa_cons (pe_callC c_how_often_at_each_place (hr.mono (by decide)) (by rfl) (pa_cons (pe_callC c_all_orders (hr.mono (by decide)) (by rfl) (pa_cons (pe_methC0 c_Record_table T.cl (hr.mono (by decide)) (pv 0)) pa_nil)) (pa_cons (pv 1) pa_nil))) pa_nil)))))
/-! line -/
abbrev s_line : Stmt := top 55
abbrev n_line : List Str := ["record", "found"]
theorem sc_line : FnScope n_line ["record"] (defScope s_line) := ⟨rfl, rfl, rfl, by decide +kernel, rfl, by decide +kernel, by decide +kernel⟩
def t_line (K : PySem.W.Frag) (C : Addr) (sp_two_orders : Sp) (sp_counted : Sp) (sp_Record_table : Sp) : TS :=
    (tSeq (tAsg (tCall sp_two_orders [] E0 (tCons (tMeth C "table" sp_Record_table [] E0 (tVar 0) tNil) tNil)) (gName 1))
    (tSeq (tIfS (tTest (tOp rIsN (tVar 1) (tC .non))) (tRet (tLst (tCons (tC (.int (-33))) tNil))) tNext)
    (tRet (tCall sp_counted [] E0 (tCons (tOp rCat (tOp (rIxT K) (tVar 1) (tC (.int 0))) (tOp (rIxT K) (tVar 1) (tC (.int 1)))) tNil)))))
theorem tie_line {sp_two_orders sp_counted sp_Record_table sp : Sp} {f : Addr} {fd : FuncData} (F : Fun K "line" "line" s_line f fd) (T : Txt K mg C a_WIDTHS) (c_two_orders : Cal P w K mg base "two_orders" 5 ["table"] sp_two_orders) (c_counted : Cal P w K mg base "counted" 1 ["events"] sp_counted) (c_Record_table : CalM P w K mg base C "table" 2 ["self"] sp_Record_table)
    (len : ∀ vs H Q E, sp vs H Q E → vs.length = ["record"].length) (pure : ∀ vs H Q E, sp vs H Q E → t_line K C sp_two_orders sp_counted sp_Record_table { nx := fun _ H' => Q .non H', rt := Q } (start n_line vs) H) :
    FnOk P w K mg base CX0 6 f fd ["record"] sp := by
  refine F.ok sc_line len (fun cdv A outer s H vs Q E hr h => ⟨t_line K C sp_two_orders sp_counted sp_Record_table, ?_, pure vs H Q E h⟩)
  exact (pss_cons (ps_set (i := 1) sc_line.nd rfl (by first | exact Or.inl rfl | exact Or.inr rfl) (pe_callC c_two_orders (hr.mono (by decide)) (by rfl) (pa_cons (pe_methC0 c_Record_table T.cl (hr.mono (by decide)) (pv 0)) pa_nil)))
      (pss_cons (ps_if (pt_cmpR op_isN (pv 1) pe_non (nomark _)) (pss_one (ps_ret (pe_lst (pa_cons (pe_cst (by rfl) T.c_NONE_THERE) pa_nil)))) pss_nil)
      (pss_one (ps_ret (pe_callC c_counted (hr.mono (by decide)) (by rfl) (pa_cons (pe_op op_cat (pe_ix ix_tup (pv 1) pe_int (fun _ _ => rfl)) (pe_ix ix_tup (pv 1) pe_int (fun _ _ => rfl))) pa_nil))))))
/-! places_on_line -/
abbrev s_places_on_line : Stmt := top 56
abbrev n_places_on_line : List Str := ["record", "found", "numbers", "event"]
theorem sc_places_on_line : FnScope n_places_on_line ["record"] (defScope s_places_on_line) := ⟨rfl, rfl, rfl, by decide +kernel, rfl, by decide +kernel, by decide +kernel⟩
def t_places_on_line (K : PySem.W.Frag) (C : Addr) (sp_two_orders : Sp) (sp_Record_table : Sp) : TS :=
    (tSeq (tAsg (tCall sp_two_orders [] E0 (tCons (tMeth C "table" sp_Record_table [] E0 (tVar 0) tNil) tNil)) (gName 1))
    (tSeq (tIfS (tTest (tOp rIsN (tVar 1) (tC .non))) (tRet (tLst (tCons (tC (.int (-33))) tNil))) tNext)
    (tSeq (tAsg (tLst (tCons (tFld K (tVar 0) "size") tNil)) (gName 2))
    (tSeq (tFor (iRng1 (tCons (tFld K (tVar 0) "size") tNil)) (gName 3) (tSeq (tDrop (tBM K "list" rAppend (tVar 2) (tCons (tBM K "list" (rIndex K) (tOp (rIxT K) (tVar 1) (tC (.int 0))) (tCons (tVar 3) tNil)) tNil)))
    (tDrop (tBM K "list" rAppend (tVar 2) (tCons (tBM K "list" (rIndex K) (tOp (rIxT K) (tVar 1) (tC (.int 1))) (tCons (tVar 3) tNil)) tNil)))))
    (tRet (tVar 2))))))
theorem tie_places_on_line {sp_two_orders sp_Record_table sp : Sp} {f : Addr} {fd : FuncData} (F : Fun K "places_on_line" "places_on_line" s_places_on_line f fd) (T : Txt K mg C a_WIDTHS) (c_two_orders : Cal P w K mg base "two_orders" 5 ["table"] sp_two_orders) (c_Record_table : CalM P w K mg base C "table" 2 ["self"] sp_Record_table)
    (len : ∀ vs H Q E, sp vs H Q E → vs.length = ["record"].length) (pure : ∀ vs H Q E, sp vs H Q E → t_places_on_line K C sp_two_orders sp_Record_table { nx := fun _ H' => Q .non H', rt := Q } (start n_places_on_line vs) H) :
    FnOk P w K mg base CX0 6 f fd ["record"] sp := by
  refine F.ok sc_places_on_line len (fun cdv A outer s H vs Q E hr h => ⟨t_places_on_line K C sp_two_orders sp_Record_table, ?_, pure vs H Q E h⟩)
  exact (pss_cons (ps_set (i := 1) sc_places_on_line.nd rfl (by first | exact Or.inl rfl | exact Or.inr rfl) (pe_callC c_two_orders (hr.mono (by decide)) (by rfl) (pa_cons (pe_methC0 c_Record_table T.cl (hr.mono (by decide)) (pv 0)) pa_nil)))
      (pss_cons (ps_if (pt_cmpR op_isN (pv 1) pe_non (nomark _)) (pss_one (ps_ret (pe_lst (pa_cons (pe_cst (by rfl) T.c_NONE_THERE) pa_nil)))) pss_nil)
      (pss_cons (ps_set (i := 2) sc_places_on_line.nd rfl (by first | exact Or.inl rfl | exact Or.inr rfl) (pe_lst (pa_cons (pe_fld (pv 0) rfl) pa_nil)))
      (pss_cons (ps_for PassesOwn.never rfl (pi_range1 (by rfl) T.range (pa_cons (pe_fld (pv 0) rfl) pa_nil)) (pg_name (i := 3) sc_places_on_line.nd rfl (by first | exact Or.inl rfl | exact Or.inr rfl)) (pss_cons (ps_expr (pe_bm PySem.F.plainAttrs_list PySem.F.slot_list_append PySem.F.type_list_append mt_append (pv 2) (pa_cons (pe_bm PySem.F.plainAttrs_list PySem.F.slot_list_index PySem.F.type_list_index mt_index (pe_ix ix_tup (pv 1) pe_int (fun _ _ => rfl)) (pa_cons (pv 3) pa_nil)) pa_nil)))
      (pss_one (ps_expr (pe_bm PySem.F.plainAttrs_list PySem.F.slot_list_append PySem.F.type_list_append mt_append (pv 2) (pa_cons (pe_bm PySem.F.plainAttrs_list PySem.F.slot_list_index PySem.F.type_list_index mt_index (pe_ix ix_tup (pv 1) pe_int (fun _ _ => rfl)) (pa_cons (pv 3) pa_nil)) pa_nil))))))
      (pss_one (ps_ret (pv 2)))))))
/-! fewest -/
abbrev s_fewest : Stmt := top 57
abbrev n_fewest : List Str := ["record"]
theorem sc_fewest : FnScope n_fewest ["record"] (defScope s_fewest) := ⟨rfl, rfl, rfl, by decide +kernel, rfl, by decide +kernel, by decide +kernel⟩
def t_fewest (K : PySem.W.Frag) (C : Addr) (sp_fewest_orders : Sp) (sp_Record_table : Sp) : TS :=
    (tRet (tLst (tCons (tCall sp_fewest_orders [] E0 (tCons (tMeth C "table" sp_Record_table [] E0 (tVar 0) tNil) tNil)) tNil)))
theorem tie_fewest {sp_fewest_orders sp_Record_table sp : Sp} {f : Addr} {fd : FuncData} (F : Fun K "fewest" "fewest" s_fewest f fd) (T : Txt K mg C a_WIDTHS) (c_fewest_orders : Cal P w K mg base "fewest_orders" 6 ["table"] sp_fewest_orders) (c_Record_table : CalM P w K mg base C "table" 2 ["self"] sp_Record_table)
    (len : ∀ vs H Q E, sp vs H Q E → vs.length = ["record"].length) (pure : ∀ vs H Q E, sp vs H Q E → t_fewest K C sp_fewest_orders sp_Record_table { nx := fun _ H' => Q .non H', rt := Q } (start n_fewest vs) H) :
    FnOk P w K mg base CX0 7 f fd ["record"] sp := by
  refine F.ok sc_fewest len (fun cdv A outer s H vs Q E hr h => ⟨t_fewest K C sp_fewest_orders sp_Record_table, ?_, pure vs H Q E h⟩)
  exact (pss_one (ps_ret (pe_lst (pa_cons (pe_callC c_fewest_orders (hr.mono (by decide)) (by rfl) (pa_cons (pe_methC0 c_Record_table T.cl (hr.mono (by decide)) (pv 0)) pa_nil)) pa_nil))))
/-! most_in_row -/
abbrev s_most_in_row : Stmt := top 58
abbrev n_most_in_row : List Str := ["record"]
theorem sc_most_in_row : FnScope n_most_in_row ["record"] (defScope s_most_in_row) := ⟨rfl, rfl, rfl, by decide +kernel, rfl, by decide +kernel, by decide +kernel⟩
def t_most_in_row (K : PySem.W.Frag) (C : Addr) (sp_counted : Sp) (sp_most_together : Sp) (sp_Record_table : Sp) : TS :=
    (tRet (tCall sp_counted [] E0 (tCons (tCall sp_most_together [] E0 (tCons (tMeth C "table" sp_Record_table [] E0 (tVar 0) tNil) (tCons (tC (.bl true)) tNil))) tNil)))
theorem tie_most_in_row {sp_counted sp_most_together sp_Record_table sp : Sp} {f : Addr} {fd : FuncData} (F : Fun K "most_in_row" "most_in_row" s_most_in_row f fd) (T : Txt K mg C a_WIDTHS) (c_counted : Cal P w K mg base "counted" 1 ["events"] sp_counted) (c_most_together : Cal P w K mg base "most_together" 3 ["table", "in_row"] sp_most_together) (c_Record_table : CalM P w K mg base C "table" 2 ["self"] sp_Record_table)
    (len : ∀ vs H Q E, sp vs H Q E → vs.length = ["record"].length) (pure : ∀ vs H Q E, sp vs H Q E → t_most_in_row K C sp_counted sp_most_together sp_Record_table { nx := fun _ H' => Q .non H', rt := Q } (start n_most_in_row vs) H) :
    FnOk P w K mg base CX0 4 f fd ["record"] sp := by
  refine F.ok sc_most_in_row len (fun cdv A outer s H vs Q E hr h => ⟨t_most_in_row K C sp_counted sp_most_together sp_Record_table, ?_, pure vs H Q E h⟩)
  exact (pss_one (ps_ret (pe_callC c_counted (hr.mono (by decide)) (by rfl) (pa_cons (pe_callC c_most_together (hr.mono (by decide)) (by rfl) (pa_cons (pe_methC0 c_Record_table T.cl (hr.mono (by decide)) (pv 0)) (pa_cons pe_bl pa_nil))) pa_nil))))
/-! most_apart -/
abbrev s_most_apart : Stmt := top 59
abbrev n_most_apart : List Str := ["record"]
theorem sc_most_apart : FnScope n_most_apart ["record"] (defScope s_most_apart) := ⟨rfl, rfl, rfl, by decide +kernel, rfl, by decide +kernel, by decide +kernel⟩
def t_most_apart (K : PySem.W.Frag) (C : Addr) (sp_counted : Sp) (sp_most_together : Sp) (sp_Record_table : Sp) : TS :=
    (tRet (tCall sp_counted [] E0 (tCons (tCall sp_most_together [] E0 (tCons (tMeth C "table" sp_Record_table [] E0 (tVar 0) tNil) (tCons (tC (.bl false)) tNil))) tNil)))
theorem tie_most_apart {sp_counted sp_most_together sp_Record_table sp : Sp} {f : Addr} {fd : FuncData} (F : Fun K "most_apart" "most_apart" s_most_apart f fd) (T : Txt K mg C a_WIDTHS) (c_counted : Cal P w K mg base "counted" 1 ["events"] sp_counted) (c_most_together : Cal P w K mg base "most_together" 3 ["table", "in_row"] sp_most_together) (c_Record_table : CalM P w K mg base C "table" 2 ["self"] sp_Record_table)
    (len : ∀ vs H Q E, sp vs H Q E → vs.length = ["record"].length) (pure : ∀ vs H Q E, sp vs H Q E → t_most_apart K C sp_counted sp_most_together sp_Record_table { nx := fun _ H' => Q .non H', rt := Q } (start n_most_apart vs) H) :
    FnOk P w K mg base CX0 4 f fd ["record"] sp := by
  refine F.ok sc_most_apart len (fun cdv A outer s H vs Q E hr h => ⟨t_most_apart K C sp_counted sp_most_together sp_Record_table, ?_, pure vs H Q E h⟩)
  exact (pss_one (ps_ret (pe_callC c_counted (hr.mono (by decide)) (by rfl) (pa_cons (pe_callC c_most_together (hr.mono (by decide)) (by rfl) (pa_cons (pe_methC0 c_Record_table T.cl (hr.mono (by decide)) (pv 0)) (pa_cons pe_bl pa_nil))) pa_nil))))
/-! Record.start -/
abbrev s_Record_start : Stmt := inClass (top 63) 4
abbrev n_Record_start : List Str := ["self", "size"]
theorem sc_Record_start : FnScope n_Record_start ["self", "size"] (defScope s_Record_start) := ⟨rfl, rfl, rfl, by decide +kernel, rfl, by decide +kernel, by decide +kernel⟩
def t_Record_start (K : PySem.W.Frag) (C : Addr) : TS :=
    (tSeq (sFld K (tVar 0) (tVar 1) "size")
    (tSeq (sFld K (tVar 0) (tLst tNil) "told_pairs")
    (sFld K (tVar 0) (tLst tNil) "earlier")))
theorem tie_Record_start {sp : Sp} {f : Addr} {fd : FuncData} (F : Fun K "start" "Record.start" s_Record_start f fd) (T : Txt K mg C a_WIDTHS)
    (len : ∀ vs H Q E, sp vs H Q E → vs.length = ["self", "size"].length) (pure : ∀ vs H Q E, sp vs H Q E → t_Record_start K C { nx := fun _ H' => Q .non H', rt := Q } (start n_Record_start vs) H) :
    FnOk P w K mg base CX0 1 f fd ["self", "size"] sp := by
  refine F.ok sc_Record_start len (fun cdv A outer s H vs Q E hr h => ⟨t_Record_start K C, ?_, pure vs H Q E h⟩)
  exact (pss_cons (ps_fld (pv 0) (pv 1) rfl)
      (pss_cons (ps_fld (pv 0) (pe_lst pa_nil) rfl)
      (pss_one (ps_fld (pv 0) (pe_lst pa_nil) rfl))))
/-! begin -/
abbrev s_begin : Stmt := top 18
abbrev n_begin : List Str := ["record", "n"]
theorem sc_begin : FnScope n_begin ["record", "n"] (defScope s_begin) := ⟨rfl, rfl, rfl, by decide +kernel, rfl, by decide +kernel, by decide +kernel⟩
def t_begin (K : PySem.W.Frag) (C : Addr) (sp_Record_start : Sp) : TS :=
    (tSeq (tIfS (tOr (tTest (tOp rLt (tVar 1) (tC (.int 1)))) (tTest (tOp rGt (tVar 1) (tC (.int (6)))))) (tRet (tLst (tCons (tC (.int (-22))) tNil))) tNext)
    (tSeq (tDrop (tMeth C "start" sp_Record_start [] E0 (tVar 0) (tCons (tVar 1) tNil)))
    (tRet (tLst (tCons (tC (.int 0)) tNil)))))
theorem tie_begin {sp_Record_start sp : Sp} {f : Addr} {fd : FuncData} (F : Fun K "begin" "begin" s_begin f fd) (T : Txt K mg C a_WIDTHS) (c_Record_start : CalM P w K mg base C "start" 1 ["self", "size"] sp_Record_start)
    (len : ∀ vs H Q E, sp vs H Q E → vs.length = ["record", "n"].length) (pure : ∀ vs H Q E, sp vs H Q E → t_begin K C sp_Record_start { nx := fun _ H' => Q .non H', rt := Q } (start n_begin vs) H) :
    FnOk P w K mg base CX0 2 f fd ["record", "n"] sp := by
  refine F.ok sc_begin len (fun cdv A outer s H vs Q E hr h => ⟨t_begin K C sp_Record_start, ?_, pure vs H Q E h⟩)
  exact (pss_cons (ps_if (PW.pt (pw_or (pt_cmpR op_lt (pv 1) pe_int (nomark _)) (pw_or1 (pt_cmpR op_gt (pv 1) (pe_cst (by rfl) T.c_MOST_EVENTS) (nomark _))))) (pss_one (ps_ret (pe_lst (pa_cons (pe_cst (by rfl) T.c_NOT_AS_TOLD) pa_nil)))) pss_nil)
      (pss_cons (ps_expr (pe_methC c_Record_start T.cl (hr.mono (by decide)) (pv 0) (pa_cons (pv 1) pa_nil)))
      (pss_one (ps_ret (pe_lst (pa_cons pe_int pa_nil))))))
/-! Record.change -/
abbrev s_Record_change : Stmt := inClass (top 63) 5
abbrev n_Record_change : List Str := ["self", "size", "told_pairs"]
theorem sc_Record_change : FnScope n_Record_change ["self", "size", "told_pairs"] (defScope s_Record_change) := ⟨rfl, rfl, rfl, by decide +kernel, rfl, by decide +kernel, by decide +kernel⟩
def t_Record_change (K : PySem.W.Frag) (C : Addr) : TS :=
    (tSeq (sFld K (tVar 0) (tSl (rSlL K) (tOp rCat (tFld K (tVar 0) "earlier") (tLst (tCons (tTup (tCons (tFld K (tVar 0) "size") (tCons (tFld K (tVar 0) "told_pairs") tNil))) tNil))) (tPart (tUn uNeg (tC (.int (10))))) tNoPart) "earlier")
    (tSeq (sFld K (tVar 0) (tVar 1) "size")
    (sFld K (tVar 0) (tVar 2) "told_pairs")))
theorem tie_Record_change {sp : Sp} {f : Addr} {fd : FuncData} (F : Fun K "change" "Record.change" s_Record_change f fd) (T : Txt K mg C a_WIDTHS)
    (len : ∀ vs H Q E, sp vs H Q E → vs.length = ["self", "size", "told_pairs"].length) (pure : ∀ vs H Q E, sp vs H Q E → t_Record_change K C { nx := fun _ H' => Q .non H', rt := Q } (start n_Record_change vs) H) :
    FnOk P w K mg base CX0 1 f fd ["self", "size", "told_pairs"] sp := by
  refine F.ok sc_Record_change len (fun cdv A outer s H vs Q E hr h => ⟨t_Record_change K C, ?_, pure vs H Q E h⟩)
  exact (pss_cons (ps_fld (pv 0) (pe_slice sl_list (pe_op op_cat (pe_fld (pv 0) rfl) (pe_lst (pa_cons (pe_tup (pa_cons (pe_fld (pv 0) rfl) (pa_cons (pe_fld (pv 0) rfl) pa_nil))) pa_nil))) (po_some (pe_un un_neg (pe_cst (by rfl) T.c_MOST_CHANGES))) po_none) rfl)
      (pss_cons (ps_fld (pv 0) (pv 1) rfl)
      (pss_one (ps_fld (pv 0) (pv 2) rfl))))
/-! tell -/
abbrev s_tell : Stmt := top 19
abbrev n_tell : List Str := ["record", "i", "j"]
theorem sc_tell : FnScope n_tell ["record", "i", "j"] (defScope s_tell) := ⟨rfl, rfl, rfl, by decide +kernel, rfl, by decide +kernel, by decide +kernel⟩
def t_tell (K : PySem.W.Frag) (C : Addr) (sp_Record_has_event : Sp) (sp_Record_table : Sp) (sp_Record_change : Sp) : TS :=
    (tSeq (tIfS (tOr (tNot (tB (tMeth C "has_event" sp_Record_has_event [] E0 (tVar 0) (tCons (tVar 1) tNil)))) (tNot (tB (tMeth C "has_event" sp_Record_has_event [] E0 (tVar 0) (tCons (tVar 2) tNil))))) (tRet (tLst (tCons (tC (.int (-2))) tNil))) tNext)
    (tSeq (tIfS (tOr (tTest (tOp rEq (tVar 1) (tVar 2))) (tB (tOp (rIxL K) (tOp (rIxL K) (tMeth C "table" sp_Record_table [] E0 (tVar 0) tNil) (tVar 2)) (tVar 1)))) (tRet (tLst (tCons (tC (.int (-35))) tNil))) tNext)
    (tSeq (tIfS (tTest (tOp (rInD K) (tTup (tCons (tVar 1) (tCons (tVar 2) tNil))) (tFld K (tVar 0) "told_pairs"))) (tRet (tLst (tCons (tC (.int (-17))) tNil))) tNext)
    (tSeq (tDrop (tMeth C "change" sp_Record_change [] E0 (tVar 0) (tCons (tFld K (tVar 0) "size") (tCons (tOp rCat (tFld K (tVar 0) "told_pairs") (tLst (tCons (tTup (tCons (tVar 1) (tCons (tVar 2) tNil))) tNil))) tNil))))
    (tRet (tLst (tCons (tCB (rLenS K) (tCons (tFld K (tVar 0) "told_pairs") tNil)) tNil)))))))
theorem tie_tell {sp_Record_has_event sp_Record_table sp_Record_change sp : Sp} {f : Addr} {fd : FuncData} (F : Fun K "tell" "tell" s_tell f fd) (T : Txt K mg C a_WIDTHS) (c_Record_has_event : CalM P w K mg base C "has_event" 1 ["self", "i"] sp_Record_has_event) (c_Record_table : CalM P w K mg base C "table" 2 ["self"] sp_Record_table) (c_Record_change : CalM P w K mg base C "change" 1 ["self", "size", "told_pairs"] sp_Record_change)
    (len : ∀ vs H Q E, sp vs H Q E → vs.length = ["record", "i", "j"].length) (pure : ∀ vs H Q E, sp vs H Q E → t_tell K C sp_Record_has_event sp_Record_table sp_Record_change { nx := fun _ H' => Q .non H', rt := Q } (start n_tell vs) H) :
    FnOk P w K mg base CX0 3 f fd ["record", "i", "j"] sp := by
  refine F.ok sc_tell len (fun cdv A outer s H vs Q E hr h => ⟨t_tell K C sp_Record_has_event sp_Record_table sp_Record_change, ?_, pure vs H Q E h⟩)
  exact (pss_cons (ps_if (PW.pt (pw_or (pt_not (pt_val (pe_methC c_Record_has_event T.cl (hr.mono (by decide)) (pv 0) (pa_cons (pv 1) pa_nil)))) (pw_or1 (pt_not (pt_val (pe_methC c_Record_has_event T.cl (hr.mono (by decide)) (pv 0) (pa_cons (pv 2) pa_nil))))))) (pss_one (ps_ret (pe_lst (pa_cons (pe_cst (by rfl) T.c_NO_SUCH) pa_nil)))) pss_nil)
      (pss_cons (ps_if (PW.pt (pw_or (pt_cmpR op_eq (pv 1) (pv 2) (nomark _)) (pw_or1 (pt_val (pe_ix ix_list (pe_ix ix_list (pe_methC0 c_Record_table T.cl (hr.mono (by decide)) (pv 0)) (pv 2) (fun _ _ => rfl)) (pv 1) (fun _ _ => rfl)))))) (pss_one (ps_ret (pe_lst (pa_cons (pe_cst (by rfl) T.c_RING) pa_nil)))) pss_nil)
      (pss_cons (ps_if (pt_cmpR (op_inD (by exact units65 hr)) (pe_tup (pa_cons (pv 1) (pa_cons (pv 2) pa_nil))) (pe_fld (pv 0) rfl) (by rfl)) (pss_one (ps_ret (pe_lst (pa_cons (pe_cst (by rfl) T.c_TOLD_ALREADY) pa_nil)))) pss_nil)
      (pss_cons (ps_expr (pe_methC c_Record_change T.cl (hr.mono (by decide)) (pv 0) (pa_cons (pe_fld (pv 0) rfl) (pa_cons (pe_op op_cat (pe_fld (pv 0) rfl) (pe_lst (pa_cons (pe_tup (pa_cons (pv 1) (pa_cons (pv 2) pa_nil))) pa_nil))) pa_nil))))
      (pss_one (ps_ret (pe_lst (pa_cons (pe_callB call_len_seq (by rfl) T.len PySem.boot_len (pa_cons (pe_fld (pv 0) rfl) pa_nil)) pa_nil))))))))
/-! untell -/
abbrev s_untell : Stmt := top 20
abbrev n_untell : List Str := ["record", "i", "j", "pair"]
theorem sc_untell : FnScope n_untell ["record", "i", "j"] (defScope s_untell) := ⟨rfl, rfl, rfl, by decide +kernel, rfl, by decide +kernel, by decide +kernel⟩
def t_untell (K : PySem.W.Frag) (C : Addr) (sp_Record_has_event : Sp) (sp_Record_change : Sp) : TS :=
    (tSeq (tIfS (tOr (tNot (tB (tMeth C "has_event" sp_Record_has_event [] E0 (tVar 0) (tCons (tVar 1) tNil)))) (tNot (tB (tMeth C "has_event" sp_Record_has_event [] E0 (tVar 0) (tCons (tVar 2) tNil))))) (tRet (tLst (tCons (tC (.int (-2))) tNil))) tNext)
    (tSeq (tIfS (tTest (tOp (rNotInD K) (tTup (tCons (tVar 1) (tCons (tVar 2) tNil))) (tFld K (tVar 0) "told_pairs"))) (tRet (tLst (tCons (tC (.int (-33))) tNil))) tNext)
    (tSeq (tDrop (tMeth C "change" sp_Record_change [] E0 (tVar 0) (tCons (tFld K (tVar 0) "size") (tCons (tLc (iList K (tFld K (tVar 0) "told_pairs")) (gName 3) (tTest (tOp (rNeD K) (tVar 3) (tTup (tCons (tVar 1) (tCons (tVar 2) tNil))))) (tVar 3) [3]) tNil))))
    (tRet (tLst (tCons (tCB (rLenS K) (tCons (tFld K (tVar 0) "told_pairs") tNil)) tNil))))))
theorem tie_untell {sp_Record_has_event sp_Record_change sp : Sp} {f : Addr} {fd : FuncData} (F : Fun K "untell" "untell" s_untell f fd) (T : Txt K mg C a_WIDTHS) (c_Record_has_event : CalM P w K mg base C "has_event" 1 ["self", "i"] sp_Record_has_event) (c_Record_change : CalM P w K mg base C "change" 1 ["self", "size", "told_pairs"] sp_Record_change)
    (len : ∀ vs H Q E, sp vs H Q E → vs.length = ["record", "i", "j"].length) (pure : ∀ vs H Q E, sp vs H Q E → t_untell K C sp_Record_has_event sp_Record_change { nx := fun _ H' => Q .non H', rt := Q } (start n_untell vs) H) :
    FnOk P w K mg base CX0 2 f fd ["record", "i", "j"] sp := by
  refine F.ok sc_untell len (fun cdv A outer s H vs Q E hr h => ⟨t_untell K C sp_Record_has_event sp_Record_change, ?_, pure vs H Q E h⟩)
  exact (pss_cons (ps_if (PW.pt (pw_or (pt_not (pt_val (pe_methC c_Record_has_event T.cl (hr.mono (by decide)) (pv 0) (pa_cons (pv 1) pa_nil)))) (pw_or1 (pt_not (pt_val (pe_methC c_Record_has_event T.cl (hr.mono (by decide)) (pv 0) (pa_cons (pv 2) pa_nil))))))) (pss_one (ps_ret (pe_lst (pa_cons (pe_cst (by rfl) T.c_NO_SUCH) pa_nil)))) pss_nil)
      (pss_cons (ps_if (pt_cmpR (op_notInD (by exact units65 hr)) (pe_tup (pa_cons (pv 1) (pa_cons (pv 2) pa_nil))) (pe_fld (pv 0) rfl) (by rfl)) (pss_one (ps_ret (pe_lst (pa_cons (pe_cst (by rfl) T.c_NONE_THERE) pa_nil)))) pss_nil)
      (pss_cons (ps_expr (pe_methC c_Record_change T.cl (hr.mono (by decide)) (pv 0) (pa_cons (pe_fld (pv 0) rfl) (pa_cons (pe_lc (own := [("pair", 3)]) (g := (gName 3)) (tt := (tTest (tOp (rNeD K) (tVar 3) (tTup (tCons (tVar 1) (tCons (tVar 2) tNil)))))) (te := (tVar 3)) (by rfl) sc_untell.nd (pi_list (pe_fld (pv 0) rfl)) (blkOk_by (own := [("pair", 3)]) (N := n_untell) (sc := defScope s_untell) (by decide +kernel)) (fun _ _ _ _ _ => (pg_name (i := 3) sc_untell.nd rfl (by first | exact Or.inl rfl | exact Or.inr rfl))) (fun _ _ _ _ _ => (pts_one (pt_cmpR (op_neD hr.units) (pv 3) (pe_tup (pa_cons (pv 1) (pa_cons (pv 2) pa_nil))) (nomark _)))) (fun _ _ _ _ _ => (pv 3))) pa_nil))))
      (pss_one (ps_ret (pe_lst (pa_cons (pe_callB call_len_seq (by rfl) T.len PySem.boot_len (pa_cons (pe_fld (pv 0) rfl) pa_nil)) pa_nil)))))))
/-! turn -/
abbrev s_turn : Stmt := top 21
abbrev n_turn : List Str := ["record", "i", "j"]
theorem sc_turn : FnScope n_turn ["record"] (defScope s_turn) := ⟨rfl, rfl, rfl, by decide +kernel, rfl, by decide +kernel, by decide +kernel⟩
def t_turn (K : PySem.W.Frag) (C : Addr) (sp_Record_change : Sp) : TS :=
    (tSeq (tDrop (tMeth C "change" sp_Record_change [] E0 (tVar 0) (tCons (tFld K (tVar 0) "size") (tCons (tLc (iList K (tFld K (tVar 0) "told_pairs")) (gTup K 2 (gCons (gName 1) (gCons (gName 2) gNil))) tYes (tTup (tCons (tVar 2) (tCons (tVar 1) tNil))) [1, 2]) tNil))))
    (tRet (tLst (tCons (tCB (rLenS K) (tCons (tFld K (tVar 0) "told_pairs") tNil)) tNil))))
theorem tie_turn {sp_Record_change sp : Sp} {f : Addr} {fd : FuncData} (F : Fun K "turn" "turn" s_turn f fd) (T : Txt K mg C a_WIDTHS) (c_Record_change : CalM P w K mg base C "change" 1 ["self", "size", "told_pairs"] sp_Record_change)
    (len : ∀ vs H Q E, sp vs H Q E → vs.length = ["record"].length) (pure : ∀ vs H Q E, sp vs H Q E → t_turn K C sp_Record_change { nx := fun _ H' => Q .non H', rt := Q } (start n_turn vs) H) :
    FnOk P w K mg base CX0 2 f fd ["record"] sp := by
  refine F.ok sc_turn len (fun cdv A outer s H vs Q E hr h => ⟨t_turn K C sp_Record_change, ?_, pure vs H Q E h⟩)
  exact (pss_cons (ps_expr (pe_methC c_Record_change T.cl (hr.mono (by decide)) (pv 0) (pa_cons (pe_fld (pv 0) rfl) (pa_cons (pe_lc (own := [("i", 1), ("j", 2)]) (g := (gTup K 2 (gCons (gName 1) (gCons (gName 2) gNil)))) (tt := tYes) (te := (tTup (tCons (tVar 2) (tCons (tVar 1) tNil)))) (by rfl) sc_turn.nd (pi_list (pe_fld (pv 0) rfl)) (blkOk_by (own := [("i", 1), ("j", 2)]) (N := n_turn) (sc := defScope s_turn) (by decide +kernel)) (fun _ _ _ _ _ => (pg_tup rfl (pgs_cons (pg_name (i := 1) sc_turn.nd rfl (by first | exact Or.inl rfl | exact Or.inr rfl)) (pgs_cons (pg_name (i := 2) sc_turn.nd rfl (by first | exact Or.inl rfl | exact Or.inr rfl)) pgs_nil)))) (fun _ _ _ _ _ => pts_nil) (fun _ _ _ _ _ => (pe_tup (pa_cons (pv 2) (pa_cons (pv 1) pa_nil))))) pa_nil))))
      (pss_one (ps_ret (pe_lst (pa_cons (pe_callB call_len_seq (by rfl) T.len PySem.boot_len (pa_cons (pe_fld (pv 0) rfl) pa_nil)) pa_nil)))))
/-! without -/
abbrev s_without : Stmt := top 23
abbrev n_without : List Str := ["record", "i", "left", "pair", "a", "b"]
theorem sc_without : FnScope n_without ["record", "i"] (defScope s_without) := ⟨rfl, rfl, rfl, by decide +kernel, rfl, by decide +kernel, by decide +kernel⟩
def t_without (K : PySem.W.Frag) (C : Addr) (sp_heard_pairs : Sp) (sp_number_without : Sp) (sp_Record_has_event : Sp) (sp_Record_table : Sp) (sp_Record_change : Sp) : TS :=
    (tSeq (tIfS (tNot (tB (tMeth C "has_event" sp_Record_has_event [] E0 (tVar 0) (tCons (tVar 1) tNil)))) (tRet (tLst (tCons (tC (.int (-2))) tNil))) tNext)
    (tSeq (tIfS (tTest (tOp rEq (tFld K (tVar 0) "size") (tC (.int 1)))) (tRet (tLst (tCons (tC (.int (-6))) tNil))) tNext)
    (tSeq (tAsg (tLc (iList K (tCall sp_heard_pairs [] E0 (tCons (tMeth C "table" sp_Record_table [] E0 (tVar 0) tNil) tNil))) (gName 3) (tTest (tOp (rIn K true) (tVar 1) (tVar 3))) (tVar 3) [3]) (gName 2))
    (tSeq (tDrop (tMeth C "change" sp_Record_change [] E0 (tVar 0) (tCons (tOp rSub (tFld K (tVar 0) "size") (tC (.int 1))) (tCons (tLc (iList K (tVar 2)) (gTup K 2 (gCons (gName 4) (gCons (gName 5) gNil))) tYes (tTup (tCons (tCall sp_number_without [] E0 (tCons (tVar 4) (tCons (tVar 1) tNil))) (tCons (tCall sp_number_without [] E0 (tCons (tVar 5) (tCons (tVar 1) tNil))) tNil))) [4, 5]) tNil))))
    (tRet (tLst (tCons (tFld K (tVar 0) "size") tNil)))))))
theorem tie_without {sp_heard_pairs sp_number_without sp_Record_has_event sp_Record_table sp_Record_change sp : Sp} {f : Addr} {fd : FuncData} (F : Fun K "without" "without" s_without f fd) (T : Txt K mg C a_WIDTHS) (c_heard_pairs : Cal P w K mg base "heard_pairs" 1 ["table"] sp_heard_pairs) (c_number_without : Cal P w K mg base "number_without" 1 ["event", "gone"] sp_number_without) (c_Record_has_event : CalM P w K mg base C "has_event" 1 ["self", "i"] sp_Record_has_event) (c_Record_table : CalM P w K mg base C "table" 2 ["self"] sp_Record_table) (c_Record_change : CalM P w K mg base C "change" 1 ["self", "size", "told_pairs"] sp_Record_change)
    (len : ∀ vs H Q E, sp vs H Q E → vs.length = ["record", "i"].length) (pure : ∀ vs H Q E, sp vs H Q E → t_without K C sp_heard_pairs sp_number_without sp_Record_has_event sp_Record_table sp_Record_change { nx := fun _ H' => Q .non H', rt := Q } (start n_without vs) H) :
    FnOk P w K mg base CX0 3 f fd ["record", "i"] sp := by
  refine F.ok sc_without len (fun cdv A outer s H vs Q E hr h => ⟨t_without K C sp_heard_pairs sp_number_without sp_Record_has_event sp_Record_table sp_Record_change, ?_, pure vs H Q E h⟩)
  exact (pss_cons (ps_if (pt_not (pt_val (pe_methC c_Record_has_event T.cl (hr.mono (by decide)) (pv 0) (pa_cons (pv 1) pa_nil)))) (pss_one (ps_ret (pe_lst (pa_cons (pe_cst (by rfl) T.c_NO_SUCH) pa_nil)))) pss_nil)
      (pss_cons (ps_if (pt_cmpR op_eq (pe_fld (pv 0) rfl) pe_int (nomark _)) (pss_one (ps_ret (pe_lst (pa_cons (pe_cst (by rfl) T.c_ONLY_ONE) pa_nil)))) pss_nil)
      (pss_cons (ps_setLc (i := 2) (own := [("pair", 3)]) (g := (gName 3)) (tt := (tTest (tOp (rIn K true) (tVar 1) (tVar 3)))) (te := (tVar 3)) (by rfl) sc_without.nd rfl rfl (sw_true rfl rfl rfl (by decide +kernel)) (pi_list (pe_callC c_heard_pairs (hr.mono (by decide)) (by rfl) (pa_cons (pe_methC0 c_Record_table T.cl (hr.mono (by decide)) (pv 0)) pa_nil))) (blkOk_by (own := [("pair", 3)]) (N := n_without) (sc := defScope s_without) (by decide +kernel)) (fun _ _ _ _ _ => (pg_name (i := 3) sc_without.nd rfl (by first | exact Or.inl rfl | exact Or.inr rfl))) (fun _ _ _ _ _ => (pts_one (pt_cmpR op_notIn_seq (pv 1) (pv 3) (by rfl)))) (fun _ _ _ _ _ => (pv 3)))
      (pss_cons (ps_expr (pe_methC c_Record_change T.cl (hr.mono (by decide)) (pv 0) (pa_cons (pe_op op_sub (pe_fld (pv 0) rfl) pe_int) (pa_cons (pe_lc (own := [("a", 4), ("b", 5)]) (g := (gTup K 2 (gCons (gName 4) (gCons (gName 5) gNil)))) (tt := tYes) (te := (tTup (tCons (tCall sp_number_without [] E0 (tCons (tVar 4) (tCons (tVar 1) tNil))) (tCons (tCall sp_number_without [] E0 (tCons (tVar 5) (tCons (tVar 1) tNil))) tNil)))) (by rfl) sc_without.nd (pi_list (pv 2)) (blkOk_by (own := [("a", 4), ("b", 5)]) (N := n_without) (sc := defScope s_without) (by decide +kernel)) (fun _ _ _ _ _ => (pg_tup rfl (pgs_cons (pg_name (i := 4) sc_without.nd rfl (by first | exact Or.inl rfl | exact Or.inr rfl)) (pgs_cons (pg_name (i := 5) sc_without.nd rfl (by first | exact Or.inl rfl | exact Or.inr rfl)) pgs_nil)))) (fun _ _ _ _ _ => pts_nil) (fun _ _ _ _ _ => (pe_tup (pa_cons (pe_callC c_number_without (hr.mono (by decide)) (by rfl) (pa_cons (pv 4) (pa_cons (pv 1) pa_nil))) (pa_cons (pe_callC c_number_without (hr.mono (by decide)) (by rfl) (pa_cons (pv 5) (pa_cons (pv 1) pa_nil))) pa_nil))))) pa_nil))))
      (pss_one (ps_ret (pe_lst (pa_cons (pe_fld (pv 0) rfl) pa_nil))))))))
/-! Record.take_back -/
abbrev s_Record_take_back : Stmt := inClass (top 63) 6
abbrev n_Record_take_back : List Str := ["self", "last_one"]
theorem sc_Record_take_back : FnScope n_Record_take_back ["self"] (defScope s_Record_take_back) := ⟨rfl, rfl, rfl, by decide +kernel, rfl, by decide +kernel, by decide +kernel⟩
def t_Record_take_back (K : PySem.W.Frag) (C : Addr) : TS :=
    (tSeq (tAsg (tOp (rIxL K) (tFld K (tVar 0) "earlier") (tUn uNeg (tC (.int 1)))) (gName 1))
    (tSeq (sFld K (tVar 0) (tSl (rSlL K) (tFld K (tVar 0) "earlier") tNoPart (tPart (tUn uNeg (tC (.int 1))))) "earlier")
    (tSeq (sFld K (tVar 0) (tOp (rIxT K) (tVar 1) (tC (.int 0))) "size")
    (sFld K (tVar 0) (tOp (rIxT K) (tVar 1) (tC (.int 1))) "told_pairs"))))
theorem tie_Record_take_back {sp : Sp} {f : Addr} {fd : FuncData} (F : Fun K "take_back" "Record.take_back" s_Record_take_back f fd) (T : Txt K mg C a_WIDTHS)
    (len : ∀ vs H Q E, sp vs H Q E → vs.length = ["self"].length) (pure : ∀ vs H Q E, sp vs H Q E → t_Record_take_back K C { nx := fun _ H' => Q .non H', rt := Q } (start n_Record_take_back vs) H) :
    FnOk P w K mg base CX0 1 f fd ["self"] sp := by
  refine F.ok sc_Record_take_back len (fun cdv A outer s H vs Q E hr h => ⟨t_Record_take_back K C, ?_, pure vs H Q E h⟩)
  exact (pss_cons (ps_set (i := 1) sc_Record_take_back.nd rfl (by first | exact Or.inl rfl | exact Or.inr rfl) (pe_ix ix_list (pe_fld (pv 0) rfl) (pe_un un_neg pe_int) (fun _ _ => rfl)))
      (pss_cons (ps_fld (pv 0) (pe_slice sl_list (pe_fld (pv 0) rfl) po_none (po_some (pe_un un_neg pe_int))) rfl)
      (pss_cons (ps_fld (pv 0) (pe_ix ix_tup (pv 1) pe_int (fun _ _ => rfl)) rfl)
      (pss_one (ps_fld (pv 0) (pe_ix ix_tup (pv 1) pe_int (fun _ _ => rfl)) rfl)))))
/-! back -/
abbrev s_back : Stmt := top 24
abbrev n_back : List Str := ["record"]
theorem sc_back : FnScope n_back ["record"] (defScope s_back) := ⟨rfl, rfl, rfl, by decide +kernel, rfl, by decide +kernel, by decide +kernel⟩
def t_back (K : PySem.W.Frag) (C : Addr) (sp_Record_take_back : Sp) : TS :=
    (tSeq (tIfS (tNot (tTru K (tFld K (tVar 0) "earlier"))) (tRet (tLst (tCons (tC (.int (-6))) tNil))) tNext)
    (tSeq (tDrop (tMeth C "take_back" sp_Record_take_back [] E0 (tVar 0) tNil))
    (tRet (tLst (tCons (tCB (rLenS K) (tCons (tFld K (tVar 0) "earlier") tNil)) tNil)))))
theorem tie_back {sp_Record_take_back sp : Sp} {f : Addr} {fd : FuncData} (F : Fun K "back" "back" s_back f fd) (T : Txt K mg C a_WIDTHS) (c_Record_take_back : CalM P w K mg base C "take_back" 1 ["self"] sp_Record_take_back)
    (len : ∀ vs H Q E, sp vs H Q E → vs.length = ["record"].length) (pure : ∀ vs H Q E, sp vs H Q E → t_back K C sp_Record_take_back { nx := fun _ H' => Q .non H', rt := Q } (start n_back vs) H) :
    FnOk P w K mg base CX0 2 f fd ["record"] sp := by
  refine F.ok sc_back len (fun cdv A outer s H vs Q E hr h => ⟨t_back K C sp_Record_take_back, ?_, pure vs H Q E h⟩)
  exact (pss_cons (ps_if (pt_not (pt_truth (pe_fld (pv 0) rfl) (by intro _; rfl))) (pss_one (ps_ret (pe_lst (pa_cons (pe_cst (by rfl) T.c_NO_CHANGE) pa_nil)))) pss_nil)
      (pss_cons (ps_expr (pe_methC0 c_Record_take_back T.cl (hr.mono (by decide)) (pv 0)))
      (pss_one (ps_ret (pe_lst (pa_cons (pe_callB call_len_seq (by rfl) T.len PySem.boot_len (pa_cons (pe_fld (pv 0) rfl) pa_nil)) pa_nil))))))
/-! call_end -/
abbrev s_call_end : Stmt := top 88
abbrev n_call_end : List Str := ["calls", "at", "end"]
theorem sc_call_end : FnScope n_call_end ["calls", "at"] (defScope s_call_end) := ⟨rfl, rfl, rfl, by decide +kernel, rfl, by decide +kernel, by decide +kernel⟩
def t_call_end (K : PySem.W.Frag) (C : Addr) (a_WIDTHS : Addr) : TS :=
    (tSeq (tAsg (tOp rAdd (tOp rAdd (tVar 1) (tC (.int 1))) (tOp (rIxT K) (tC (.ref a_WIDTHS)) (tOp (rIxL K) (tVar 0) (tVar 1)))) (gName 2))
    (tSeq (tIfS (tTest (tOp rEq (tOp (rIxL K) (tVar 0) (tVar 1)) (tC (.int (12))))) (tRet (tOp rAdd (tVar 2) (tOp (rIxL K) (tVar 0) (tOp rAdd (tVar 1) (tC (.int 1)))))) tNext)
    (tRet (tVar 2))))
theorem tie_call_end {sp : Sp} {f : Addr} {fd : FuncData} (F : Fun K "call_end" "call_end" s_call_end f fd) (T : Txt K mg C a_WIDTHS)
    (len : ∀ vs H Q E, sp vs H Q E → vs.length = ["calls", "at"].length) (pure : ∀ vs H Q E, sp vs H Q E → t_call_end K C a_WIDTHS { nx := fun _ H' => Q .non H', rt := Q } (start n_call_end vs) H) :
    FnOk P w K mg base CX0 1 f fd ["calls", "at"] sp := by
  refine F.ok sc_call_end len (fun cdv A outer s H vs Q E hr h => ⟨t_call_end K C a_WIDTHS, ?_, pure vs H Q E h⟩)
  exact (pss_cons (ps_set (i := 2) sc_call_end.nd rfl (by first | exact Or.inl rfl | exact Or.inr rfl) (pe_op op_add (pe_op op_add (pv 1) pe_int) (pe_ix ix_tup (pe_glob (by rfl) T.c_WIDTHS rfl) (pe_ix ix_list (pv 0) (pv 1) (fun _ _ => rfl)) (fun _ _ => rfl))))
      (pss_cons (ps_if (pt_cmpR op_eq (pe_ix ix_list (pv 0) (pv 1) (fun _ _ => rfl)) (pe_cst (by rfl) T.c_FITS) (nomark _)) (pss_one (ps_ret (pe_op op_add (pv 2) (pe_ix ix_list (pv 0) (pe_op op_add (pv 1) pe_int) (fun _ _ => rfl))))) pss_nil)
      (pss_one (ps_ret (pv 2)))))
/-! answer_change -/
abbrev s_answer_change : Stmt := top 89
abbrev n_answer_change : List Str := ["record", "call", "given"]
theorem sc_answer_change : FnScope n_answer_change ["record", "call", "given"] (defScope s_answer_change) := ⟨rfl, rfl, rfl, by decide +kernel, rfl, by decide +kernel, by decide +kernel⟩
def t_answer_change (K : PySem.W.Frag) (C : Addr) (sp_tell : Sp) (sp_untell : Sp) (sp_turn : Sp) (sp_without : Sp) (sp_back : Sp) : TS :=
    (tSeq (tIfS (tTest (tOp rEq (tVar 1) (tC (.int (1))))) (tRet (tCall sp_tell [] E0 (tCons (tVar 0) (tCons (tOp (rIxL K) (tVar 2) (tC (.int 0))) (tCons (tOp (rIxL K) (tVar 2) (tC (.int 1))) tNil))))) tNext)
    (tSeq (tIfS (tTest (tOp rEq (tVar 1) (tC (.int (2))))) (tRet (tCall sp_untell [] E0 (tCons (tVar 0) (tCons (tOp (rIxL K) (tVar 2) (tC (.int 0))) (tCons (tOp (rIxL K) (tVar 2) (tC (.int 1))) tNil))))) tNext)
    (tSeq (tIfS (tTest (tOp rEq (tVar 1) (tC (.int (3))))) (tRet (tCall sp_turn [] E0 (tCons (tVar 0) tNil))) tNext)
    (tSeq (tIfS (tTest (tOp rEq (tVar 1) (tC (.int (4))))) (tRet (tCall sp_without [] E0 (tCons (tVar 0) (tCons (tOp (rIxL K) (tVar 2) (tC (.int 0))) tNil)))) tNext)
    (tRet (tCall sp_back [] E0 (tCons (tVar 0) tNil)))))))
theorem tie_answer_change {sp_tell sp_untell sp_turn sp_without sp_back sp : Sp} {f : Addr} {fd : FuncData} (F : Fun K "answer_change" "answer_change" s_answer_change f fd) (T : Txt K mg C a_WIDTHS) (c_tell : Cal P w K mg base "tell" 3 ["record", "i", "j"] sp_tell) (c_untell : Cal P w K mg base "untell" 2 ["record", "i", "j"] sp_untell) (c_turn : Cal P w K mg base "turn" 2 ["record"] sp_turn) (c_without : Cal P w K mg base "without" 3 ["record", "i"] sp_without) (c_back : Cal P w K mg base "back" 2 ["record"] sp_back)
    (len : ∀ vs H Q E, sp vs H Q E → vs.length = ["record", "call", "given"].length) (pure : ∀ vs H Q E, sp vs H Q E → t_answer_change K C sp_tell sp_untell sp_turn sp_without sp_back { nx := fun _ H' => Q .non H', rt := Q } (start n_answer_change vs) H) :
    FnOk P w K mg base CX0 4 f fd ["record", "call", "given"] sp := by
  refine F.ok sc_answer_change len (fun cdv A outer s H vs Q E hr h => ⟨t_answer_change K C sp_tell sp_untell sp_turn sp_without sp_back, ?_, pure vs H Q E h⟩)
  exact (pss_cons (ps_if (pt_cmpR op_eq (pv 1) (pe_cst (by rfl) T.c_TELL) (nomark _)) (pss_one (ps_ret (pe_callC c_tell (hr.mono (by decide)) (by rfl) (pa_cons (pv 0) (pa_cons (pe_ix ix_list (pv 2) pe_int (fun _ _ => rfl)) (pa_cons (pe_ix ix_list (pv 2) pe_int (fun _ _ => rfl)) pa_nil)))))) pss_nil)
      (pss_cons (ps_if (pt_cmpR op_eq (pv 1) (pe_cst (by rfl) T.c_UNTELL) (nomark _)) (pss_one (ps_ret (pe_callC c_untell (hr.mono (by decide)) (by rfl) (pa_cons (pv 0) (pa_cons (pe_ix ix_list (pv 2) pe_int (fun _ _ => rfl)) (pa_cons (pe_ix ix_list (pv 2) pe_int (fun _ _ => rfl)) pa_nil)))))) pss_nil)
      (pss_cons (ps_if (pt_cmpR op_eq (pv 1) (pe_cst (by rfl) T.c_TURN) (nomark _)) (pss_one (ps_ret (pe_callC c_turn (hr.mono (by decide)) (by rfl) (pa_cons (pv 0) pa_nil)))) pss_nil)
      (pss_cons (ps_if (pt_cmpR op_eq (pv 1) (pe_cst (by rfl) T.c_WITHOUT) (nomark _)) (pss_one (ps_ret (pe_callC c_without (hr.mono (by decide)) (by rfl) (pa_cons (pv 0) (pa_cons (pe_ix ix_list (pv 2) pe_int (fun _ _ => rfl)) pa_nil))))) pss_nil)
      (pss_one (ps_ret (pe_callC c_back (hr.mono (by decide)) (by rfl) (pa_cons (pv 0) pa_nil))))))))
/-! answer_hearing -/
abbrev s_answer_hearing : Stmt := top 90
abbrev n_answer_hearing : List Str := ["record", "call", "given"]
theorem sc_answer_hearing : FnScope n_answer_hearing ["record", "call", "given"] (defScope s_answer_hearing) := ⟨rfl, rfl, rfl, by decide +kernel, rfl, by decide +kernel, by decide +kernel⟩
def t_answer_hearing (K : PySem.W.Frag) (C : Addr) (sp_told : Sp) (sp_heard : Sp) (sp_pairs : Sp) (sp_past : Sp) (sp_links : Sp) (sp_first : Sp) : TS :=
    (tSeq (tIfS (tTest (tOp rEq (tVar 1) (tC (.int (5))))) (tRet (tCall sp_told [] E0 (tCons (tVar 0) tNil))) tNext)
    (tSeq (tIfS (tTest (tOp rEq (tVar 1) (tC (.int (6))))) (tRet (tCall sp_heard [] E0 (tCons (tVar 0) (tCons (tOp (rIxL K) (tVar 2) (tC (.int 0))) (tCons (tOp (rIxL K) (tVar 2) (tC (.int 1))) tNil))))) tNext)
    (tSeq (tIfS (tTest (tOp rEq (tVar 1) (tC (.int (7))))) (tRet (tCall sp_pairs [] E0 (tCons (tVar 0) tNil))) tNext)
    (tSeq (tIfS (tTest (tOp rEq (tVar 1) (tC (.int (8))))) (tRet (tCall sp_past [] E0 (tCons (tVar 0) (tCons (tOp (rIxL K) (tVar 2) (tC (.int 0))) tNil)))) tNext)
    (tSeq (tIfS (tTest (tOp rEq (tVar 1) (tC (.int (9))))) (tRet (tCall sp_links [] E0 (tCons (tVar 0) tNil))) tNext)
    (tRet (tCall sp_first [] E0 (tCons (tVar 0) tNil))))))))
theorem tie_answer_hearing {sp_told sp_heard sp_pairs sp_past sp_links sp_first sp : Sp} {f : Addr} {fd : FuncData} (F : Fun K "answer_hearing" "answer_hearing" s_answer_hearing f fd) (T : Txt K mg C a_WIDTHS) (c_told : Cal P w K mg base "told" 2 ["record"] sp_told) (c_heard : Cal P w K mg base "heard" 3 ["record", "i", "j"] sp_heard) (c_pairs : Cal P w K mg base "pairs" 3 ["record"] sp_pairs) (c_past : Cal P w K mg base "past" 3 ["record", "i"] sp_past) (c_links : Cal P w K mg base "links" 3 ["record"] sp_links) (c_first : Cal P w K mg base "first" 3 ["record"] sp_first)
    (len : ∀ vs H Q E, sp vs H Q E → vs.length = ["record", "call", "given"].length) (pure : ∀ vs H Q E, sp vs H Q E → t_answer_hearing K C sp_told sp_heard sp_pairs sp_past sp_links sp_first { nx := fun _ H' => Q .non H', rt := Q } (start n_answer_hearing vs) H) :
    FnOk P w K mg base CX0 4 f fd ["record", "call", "given"] sp := by
  refine F.ok sc_answer_hearing len (fun cdv A outer s H vs Q E hr h => ⟨t_answer_hearing K C sp_told sp_heard sp_pairs sp_past sp_links sp_first, ?_, pure vs H Q E h⟩)
  exact (pss_cons (ps_if (pt_cmpR op_eq (pv 1) (pe_cst (by rfl) T.c_TOLD) (nomark _)) (pss_one (ps_ret (pe_callC c_told (hr.mono (by decide)) (by rfl) (pa_cons (pv 0) pa_nil)))) pss_nil)
      (pss_cons (ps_if (pt_cmpR op_eq (pv 1) (pe_cst (by rfl) T.c_HEARD) (nomark _)) (pss_one (ps_ret (pe_callC c_heard (hr.mono (by decide)) (by rfl) (pa_cons (pv 0) (pa_cons (pe_ix ix_list (pv 2) pe_int (fun _ _ => rfl)) (pa_cons (pe_ix ix_list (pv 2) pe_int (fun _ _ => rfl)) pa_nil)))))) pss_nil)
      (pss_cons (ps_if (pt_cmpR op_eq (pv 1) (pe_cst (by rfl) T.c_PAIRS) (nomark _)) (pss_one (ps_ret (pe_callC c_pairs (hr.mono (by decide)) (by rfl) (pa_cons (pv 0) pa_nil)))) pss_nil)
      (pss_cons (ps_if (pt_cmpR op_eq (pv 1) (pe_cst (by rfl) T.c_PAST) (nomark _)) (pss_one (ps_ret (pe_callC c_past (hr.mono (by decide)) (by rfl) (pa_cons (pv 0) (pa_cons (pe_ix ix_list (pv 2) pe_int (fun _ _ => rfl)) pa_nil))))) pss_nil)
      (pss_cons (ps_if (pt_cmpR op_eq (pv 1) (pe_cst (by rfl) T.c_LINKS) (nomark _)) (pss_one (ps_ret (pe_callC c_links (hr.mono (by decide)) (by rfl) (pa_cons (pv 0) pa_nil)))) pss_nil)
      (pss_one (ps_ret (pe_callC c_first (hr.mono (by decide)) (by rfl) (pa_cons (pv 0) pa_nil)))))))))
/-! answer_orders -/
abbrev s_answer_orders : Stmt := top 91
abbrev n_answer_orders : List Str := ["record", "call", "given"]
theorem sc_answer_orders : FnScope n_answer_orders ["record", "call", "given"] (defScope s_answer_orders) := ⟨rfl, rfl, rfl, by decide +kernel, rfl, by decide +kernel, by decide +kernel⟩
def t_answer_orders (K : PySem.W.Frag) (C : Addr) (sp_orders : Sp) (sp_order : Sp) (sp_fits : Sp) (sp_sooner : Sp) (sp_place : Sp) : TS :=
    (tSeq (tIfS (tTest (tOp rEq (tVar 1) (tC (.int (10))))) (tRet (tCall sp_orders [] E0 (tCons (tVar 0) tNil))) tNext)
    (tSeq (tIfS (tTest (tOp rEq (tVar 1) (tC (.int (11))))) (tRet (tCall sp_order [] E0 (tCons (tVar 0) (tCons (tOp (rIxL K) (tVar 2) (tC (.int 0))) tNil)))) tNext)
    (tSeq (tIfS (tTest (tOp rEq (tVar 1) (tC (.int (12))))) (tRet (tCall sp_fits [] E0 (tCons (tVar 0) (tCons (tSl (rSlL K) (tVar 2) (tPart (tC (.int 1))) tNoPart) tNil)))) tNext)
    (tSeq (tIfS (tTest (tOp rEq (tVar 1) (tC (.int (14))))) (tRet (tCall sp_sooner [] E0 (tCons (tVar 0) (tCons (tOp (rIxL K) (tVar 2) (tC (.int 0))) (tCons (tOp (rIxL K) (tVar 2) (tC (.int 1))) tNil))))) tNext)
    (tRet (tCall sp_place [] E0 (tCons (tVar 0) (tCons (tOp (rIxL K) (tVar 2) (tC (.int 0))) tNil))))))))
theorem tie_answer_orders {sp_orders sp_order sp_fits sp_sooner sp_place sp : Sp} {f : Addr} {fd : FuncData} (F : Fun K "answer_orders" "answer_orders" s_answer_orders f fd) (T : Txt K mg C a_WIDTHS) (c_orders : Cal P w K mg base "orders" 4 ["record"] sp_orders) (c_order : Cal P w K mg base "order" 4 ["record", "k"] sp_order) (c_fits : Cal P w K mg base "fits" 3 ["record", "handed_in"] sp_fits) (c_sooner : Cal P w K mg base "sooner" 4 ["record", "i", "j"] sp_sooner) (c_place : Cal P w K mg base "place" 4 ["record", "i"] sp_place)
    (len : ∀ vs H Q E, sp vs H Q E → vs.length = ["record", "call", "given"].length) (pure : ∀ vs H Q E, sp vs H Q E → t_answer_orders K C sp_orders sp_order sp_fits sp_sooner sp_place { nx := fun _ H' => Q .non H', rt := Q } (start n_answer_orders vs) H) :
    FnOk P w K mg base CX0 5 f fd ["record", "call", "given"] sp := by
  refine F.ok sc_answer_orders len (fun cdv A outer s H vs Q E hr h => ⟨t_answer_orders K C sp_orders sp_order sp_fits sp_sooner sp_place, ?_, pure vs H Q E h⟩)
  exact (pss_cons (ps_if (pt_cmpR op_eq (pv 1) (pe_cst (by rfl) T.c_ORDERS) (nomark _)) (pss_one (ps_ret (pe_callC c_orders (hr.mono (by decide)) (by rfl) (pa_cons (pv 0) pa_nil)))) pss_nil)
      (pss_cons (ps_if (pt_cmpR op_eq (pv 1) (pe_cst (by rfl) T.c_ORDER) (nomark _)) (pss_one (ps_ret (pe_callC c_order (hr.mono (by decide)) (by rfl) (pa_cons (pv 0) (pa_cons (pe_ix ix_list (pv 2) pe_int (fun _ _ => rfl)) pa_nil))))) pss_nil)
      (pss_cons (ps_if (pt_cmpR op_eq (pv 1) (pe_cst (by rfl) T.c_FITS) (nomark _)) (pss_one (ps_ret (pe_callC c_fits (hr.mono (by decide)) (by rfl) (pa_cons (pv 0) (pa_cons (pe_slice sl_list (pv 2) (po_some pe_int) po_none) pa_nil))))) pss_nil)
      (pss_cons (ps_if (pt_cmpR op_eq (pv 1) (pe_cst (by rfl) T.c_SOONER) (nomark _)) (pss_one (ps_ret (pe_callC c_sooner (hr.mono (by decide)) (by rfl) (pa_cons (pv 0) (pa_cons (pe_ix ix_list (pv 2) pe_int (fun _ _ => rfl)) (pa_cons (pe_ix ix_list (pv 2) pe_int (fun _ _ => rfl)) pa_nil)))))) pss_nil)
      (pss_one (ps_ret (pe_callC c_place (hr.mono (by decide)) (by rfl) (pa_cons (pv 0) (pa_cons (pe_ix ix_list (pv 2) pe_int (fun _ _ => rfl)) pa_nil)))))))))
/-! answer_whole -/
abbrev s_answer_whole : Stmt := top 92
abbrev n_answer_whole : List Str := ["record", "call"]
theorem sc_answer_whole : FnScope n_answer_whole ["record", "call"] (defScope s_answer_whole) := ⟨rfl, rfl, rfl, by decide +kernel, rfl, by decide +kernel, by decide +kernel⟩
def t_answer_whole (K : PySem.W.Frag) (C : Addr) (sp_line : Sp) (sp_places_on_line : Sp) (sp_fewest : Sp) (sp_most_in_row : Sp) (sp_most_apart : Sp) (sp_state : Sp) : TS :=
    (tSeq (tIfS (tTest (tOp rEq (tVar 1) (tC (.int (16))))) (tRet (tCall sp_line [] E0 (tCons (tVar 0) tNil))) tNext)
    (tSeq (tIfS (tTest (tOp rEq (tVar 1) (tC (.int (17))))) (tRet (tCall sp_places_on_line [] E0 (tCons (tVar 0) tNil))) tNext)
    (tSeq (tIfS (tTest (tOp rEq (tVar 1) (tC (.int (18))))) (tRet (tCall sp_fewest [] E0 (tCons (tVar 0) tNil))) tNext)
    (tSeq (tIfS (tTest (tOp rEq (tVar 1) (tC (.int (19))))) (tRet (tCall sp_most_in_row [] E0 (tCons (tVar 0) tNil))) tNext)
    (tSeq (tIfS (tTest (tOp rEq (tVar 1) (tC (.int (20))))) (tRet (tCall sp_most_apart [] E0 (tCons (tVar 0) tNil))) tNext)
    (tRet (tCall sp_state [] E0 (tCons (tVar 0) tNil))))))))
theorem tie_answer_whole {sp_line sp_places_on_line sp_fewest sp_most_in_row sp_most_apart sp_state sp : Sp} {f : Addr} {fd : FuncData} (F : Fun K "answer_whole" "answer_whole" s_answer_whole f fd) (T : Txt K mg C a_WIDTHS) (c_line : Cal P w K mg base "line" 6 ["record"] sp_line) (c_places_on_line : Cal P w K mg base "places_on_line" 6 ["record"] sp_places_on_line) (c_fewest : Cal P w K mg base "fewest" 7 ["record"] sp_fewest) (c_most_in_row : Cal P w K mg base "most_in_row" 4 ["record"] sp_most_in_row) (c_most_apart : Cal P w K mg base "most_apart" 4 ["record"] sp_most_apart) (c_state : Cal P w K mg base "state" 1 ["record"] sp_state)
    (len : ∀ vs H Q E, sp vs H Q E → vs.length = ["record", "call"].length) (pure : ∀ vs H Q E, sp vs H Q E → t_answer_whole K C sp_line sp_places_on_line sp_fewest sp_most_in_row sp_most_apart sp_state { nx := fun _ H' => Q .non H', rt := Q } (start n_answer_whole vs) H) :
    FnOk P w K mg base CX0 8 f fd ["record", "call"] sp := by
  refine F.ok sc_answer_whole len (fun cdv A outer s H vs Q E hr h => ⟨t_answer_whole K C sp_line sp_places_on_line sp_fewest sp_most_in_row sp_most_apart sp_state, ?_, pure vs H Q E h⟩)
  exact (pss_cons (ps_if (pt_cmpR op_eq (pv 1) (pe_cst (by rfl) T.c_LINE) (nomark _)) (pss_one (ps_ret (pe_callC c_line (hr.mono (by decide)) (by rfl) (pa_cons (pv 0) pa_nil)))) pss_nil)
      (pss_cons (ps_if (pt_cmpR op_eq (pv 1) (pe_cst (by rfl) T.c_EVENTS) (nomark _)) (pss_one (ps_ret (pe_callC c_places_on_line (hr.mono (by decide)) (by rfl) (pa_cons (pv 0) pa_nil)))) pss_nil)
      (pss_cons (ps_if (pt_cmpR op_eq (pv 1) (pe_cst (by rfl) T.c_FEWEST) (nomark _)) (pss_one (ps_ret (pe_callC c_fewest (hr.mono (by decide)) (by rfl) (pa_cons (pv 0) pa_nil)))) pss_nil)
      (pss_cons (ps_if (pt_cmpR op_eq (pv 1) (pe_cst (by rfl) T.c_ROW) (nomark _)) (pss_one (ps_ret (pe_callC c_most_in_row (hr.mono (by decide)) (by rfl) (pa_cons (pv 0) pa_nil)))) pss_nil)
      (pss_cons (ps_if (pt_cmpR op_eq (pv 1) (pe_cst (by rfl) T.c_APART) (nomark _)) (pss_one (ps_ret (pe_callC c_most_apart (hr.mono (by decide)) (by rfl) (pa_cons (pv 0) pa_nil)))) pss_nil)
      (pss_one (ps_ret (pe_callC c_state (hr.mono (by decide)) (by rfl) (pa_cons (pv 0) pa_nil)))))))))
/-! answer_call -/
abbrev s_answer_call : Stmt := top 93
abbrev n_answer_call : List Str := ["record", "call", "given"]
theorem sc_answer_call : FnScope n_answer_call ["record", "call", "given"] (defScope s_answer_call) := ⟨rfl, rfl, rfl, by decide +kernel, rfl, by decide +kernel, by decide +kernel⟩
def t_answer_call (K : PySem.W.Frag) (C : Addr) (sp_begin : Sp) (sp_answer_change : Sp) (sp_answer_hearing : Sp) (sp_answer_orders : Sp) (sp_answer_whole : Sp) (sp_Record_begun : Sp) : TS :=
    (tSeq (tIfS (tTest (tOp rEq (tVar 1) (tC (.int (0))))) (tRet (tCall sp_begin [] E0 (tCons (tVar 0) (tCons (tOp (rIxL K) (tVar 2) (tC (.int 0))) tNil)))) tNext)
    (tSeq (tIfS (tNot (tB (tMeth C "begun" sp_Record_begun [] E0 (tVar 0) tNil))) (tRet (tLst (tCons (tC (.int (-11))) tNil))) tNext)
    (tSeq (tIfS (tOr (tTest (tOp rLe (tVar 1) (tC (.int (4))))) (tTest (tOp rEq (tVar 1) (tC (.int (21)))))) (tRet (tCall sp_answer_change [] E0 (tCons (tVar 0) (tCons (tVar 1) (tCons (tVar 2) tNil))))) tNext)
    (tSeq (tIfS (tOr (tTest (tOp rLe (tVar 1) (tC (.int (9))))) (tTest (tOp rEq (tVar 1) (tC (.int (13)))))) (tRet (tCall sp_answer_hearing [] E0 (tCons (tVar 0) (tCons (tVar 1) (tCons (tVar 2) tNil))))) tNext)
    (tSeq (tIfS (tTest (tOp rLe (tVar 1) (tC (.int (15))))) (tRet (tCall sp_answer_orders [] E0 (tCons (tVar 0) (tCons (tVar 1) (tCons (tVar 2) tNil))))) tNext)
    (tRet (tCall sp_answer_whole [] E0 (tCons (tVar 0) (tCons (tVar 1) tNil)))))))))
theorem tie_answer_call {sp_begin sp_answer_change sp_answer_hearing sp_answer_orders sp_answer_whole sp_Record_begun sp : Sp} {f : Addr} {fd : FuncData} (F : Fun K "answer_call" "answer_call" s_answer_call f fd) (T : Txt K mg C a_WIDTHS) (c_begin : Cal P w K mg base "begin" 2 ["record", "n"] sp_begin) (c_answer_change : Cal P w K mg base "answer_change" 4 ["record", "call", "given"] sp_answer_change) (c_answer_hearing : Cal P w K mg base "answer_hearing" 4 ["record", "call", "given"] sp_answer_hearing) (c_answer_orders : Cal P w K mg base "answer_orders" 5 ["record", "call", "given"] sp_answer_orders) (c_answer_whole : Cal P w K mg base "answer_whole" 8 ["record", "call"] sp_answer_whole) (c_Record_begun : CalM P w K mg base C "begun" 1 ["self"] sp_Record_begun)
    (len : ∀ vs H Q E, sp vs H Q E → vs.length = ["record", "call", "given"].length) (pure : ∀ vs H Q E, sp vs H Q E → t_answer_call K C sp_begin sp_answer_change sp_answer_hearing sp_answer_orders sp_answer_whole sp_Record_begun { nx := fun _ H' => Q .non H', rt := Q } (start n_answer_call vs) H) :
    FnOk P w K mg base CX0 9 f fd ["record", "call", "given"] sp := by
  refine F.ok sc_answer_call len (fun cdv A outer s H vs Q E hr h => ⟨t_answer_call K C sp_begin sp_answer_change sp_answer_hearing sp_answer_orders sp_answer_whole sp_Record_begun, ?_, pure vs H Q E h⟩)
  exact (pss_cons (ps_if (pt_cmpR op_eq (pv 1) (pe_cst (by rfl) T.c_BEGIN) (nomark _)) (pss_one (ps_ret (pe_callC c_begin (hr.mono (by decide)) (by rfl) (pa_cons (pv 0) (pa_cons (pe_ix ix_list (pv 2) pe_int (fun _ _ => rfl)) pa_nil))))) pss_nil)
      (pss_cons (ps_if (pt_not (pt_val (pe_methC0 c_Record_begun T.cl (hr.mono (by decide)) (pv 0)))) (pss_one (ps_ret (pe_lst (pa_cons (pe_cst (by rfl) T.c_NOT_BEGUN) pa_nil)))) pss_nil)
      (pss_cons (ps_if (PW.pt (pw_or (pt_cmpR op_le (pv 1) (pe_cst (by rfl) T.c_WITHOUT) (nomark _)) (pw_or1 (pt_cmpR op_eq (pv 1) (pe_cst (by rfl) T.c_BACK) (nomark _))))) (pss_one (ps_ret (pe_callC c_answer_change (hr.mono (by decide)) (by rfl) (pa_cons (pv 0) (pa_cons (pv 1) (pa_cons (pv 2) pa_nil)))))) pss_nil)
      (pss_cons (ps_if (PW.pt (pw_or (pt_cmpR op_le (pv 1) (pe_cst (by rfl) T.c_LINKS) (nomark _)) (pw_or1 (pt_cmpR op_eq (pv 1) (pe_cst (by rfl) T.c_FIRST) (nomark _))))) (pss_one (ps_ret (pe_callC c_answer_hearing (hr.mono (by decide)) (by rfl) (pa_cons (pv 0) (pa_cons (pv 1) (pa_cons (pv 2) pa_nil)))))) pss_nil)
      (pss_cons (ps_if (pt_cmpR op_le (pv 1) (pe_cst (by rfl) T.c_PLACE) (nomark _)) (pss_one (ps_ret (pe_callC c_answer_orders (hr.mono (by decide)) (by rfl) (pa_cons (pv 0) (pa_cons (pv 1) (pa_cons (pv 2) pa_nil)))))) pss_nil)
      (pss_one (ps_ret (pe_callC c_answer_whole (hr.mono (by decide)) (by rfl) (pa_cons (pv 0) (pa_cons (pv 1) pa_nil))))))))))
/-! answers -/
abbrev s_answers : Stmt := top 94
abbrev n_answers : List Str := ["calls", "record", "answered", "at", "end", "numbers"]
theorem sc_answers : FnScope n_answers ["calls"] (defScope s_answers) := ⟨rfl, rfl, rfl, by decide +kernel, rfl, by decide +kernel, by decide +kernel⟩
def t_answers (K : PySem.W.Frag) (C : Addr) (sp_call_end : Sp) (sp_answer_call : Sp) (sp_Record_init : Sp) : TS :=
    (tSeq (tAsg (tMake C sp_Record_init [] E0 tNil) (gName 1))
    (tSeq (tAsg (tLst tNil) (gName 2))
    (tSeq (tAsg (tC (.int 0)) (gName 3))
    (tSeq (tWhile (tTest (tOp rLt (tVar 3) (tCB (rLenS K) (tCons (tVar 0) tNil)))) (tSeq (tAsg (tCall sp_call_end [] E0 (tCons (tVar 0) (tCons (tVar 3) tNil))) (gName 4))
    (tSeq (tAsg (tCall sp_answer_call [] E0 (tCons (tVar 1) (tCons (tOp (rIxL K) (tVar 0) (tVar 3)) (tCons (tSl (rSlL K) (tVar 0) (tPart (tOp rAdd (tVar 3) (tC (.int 1)))) (tPart (tVar 4))) tNil)))) (gName 5))
    (tSeq (tDrop (tBM K "list" rAppend (tVar 2) (tCons (tCB (rLenS K) (tCons (tVar 5) tNil)) tNil)))
    (tSeq (tDrop (tBM K "list" rExtend (tVar 2) (tCons (tVar 5) tNil)))
    (tAsg (tVar 4) (gName 3)))))))
    (tRet (tVar 2))))))
theorem tie_answers {sp_call_end sp_answer_call sp_Record_init sp : Sp} {f : Addr} {fd : FuncData} (F : Fun K "answers" "answers" s_answers f fd) (T : Txt K mg C a_WIDTHS) (c_call_end : Cal P w K mg base "call_end" 1 ["calls", "at"] sp_call_end) (c_answer_call : Cal P w K mg base "answer_call" 9 ["record", "call", "given"] sp_answer_call) (m_Record : CalC P w K mg base C "Record" 1 ["self"] sp_Record_init)
    (len : ∀ vs H Q E, sp vs H Q E → vs.length = ["calls"].length) (pure : ∀ vs H Q E, sp vs H Q E → t_answers K C sp_call_end sp_answer_call sp_Record_init { nx := fun _ H' => Q .non H', rt := Q } (start n_answers vs) H) :
    FnOk P w K mg base CX0 10 f fd ["calls"] sp := by
  refine F.ok sc_answers len (fun cdv A outer s H vs Q E hr h => ⟨t_answers K C sp_call_end sp_answer_call sp_Record_init, ?_, pure vs H Q E h⟩)
  exact (pss_cons (ps_set (i := 1) sc_answers.nd rfl (by first | exact Or.inl rfl | exact Or.inr rfl) (pe_makeC0 m_Record (hr.mono (by decide)) (by rfl)))
      (pss_cons (ps_set (i := 2) sc_answers.nd rfl (by first | exact Or.inl rfl | exact Or.inr rfl) (pe_lst pa_nil))
      (pss_cons (ps_set (i := 3) sc_answers.nd rfl (by first | exact Or.inl rfl | exact Or.inr rfl) pe_int)
      (pss_cons (ps_while PassesOwn.never (pt_cmpR op_lt (pv 3) (pe_callB call_len_seq (by rfl) T.len PySem.boot_len (pa_cons (pv 0) pa_nil)) (nomark _)) (pss_cons (ps_set (i := 4) sc_answers.nd rfl (by first | exact Or.inl rfl | exact Or.inr rfl) (pe_callC c_call_end (hr.mono (by decide)) (by rfl) (pa_cons (pv 0) (pa_cons (pv 3) pa_nil))))
      (pss_cons (ps_set (i := 5) sc_answers.nd rfl (by first | exact Or.inl rfl | exact Or.inr rfl) (pe_callC c_answer_call (hr.mono (by decide)) (by rfl) (pa_cons (pv 1) (pa_cons (pe_ix ix_list (pv 0) (pv 3) (fun _ _ => rfl)) (pa_cons (pe_slice sl_list (pv 0) (po_some (pe_op op_add (pv 3) pe_int)) (po_some (pv 4))) pa_nil)))))
      (pss_cons (ps_expr (pe_bm PySem.F.plainAttrs_list PySem.F.slot_list_append PySem.F.type_list_append mt_append (pv 2) (pa_cons (pe_callB call_len_seq (by rfl) T.len PySem.boot_len (pa_cons (pv 5) pa_nil)) pa_nil)))
      (pss_cons (ps_expr (pe_bm PySem.F.plainAttrs_list PySem.F.slot_list_extend PySem.F.type_list_extend mt_extend (pv 2) (pa_cons (pv 5) pa_nil)))
      (pss_one (ps_set (i := 3) sc_answers.nd rfl (by first | exact Or.inl rfl | exact Or.inr rfl) (pv 4))))))))
      (pss_one (ps_ret (pv 2)))))))
end
end Oa

set_option Elab.async false
set_option linter.all false
set_option maxRecDepth 100000
set_option maxHeartbeats 2000000
/-! What the defs over tables, pairs and rows promise, by data. -/
namespace Oa
open PySem PySem.Spec PyProof.Rows L2 Evl

def dInts (l : List Int) : PyData := .list (l.map PyData.int)
def dNat (x : Nat) : PyData := .int (x : Int)
def dNats (l : List Nat) : PyData := .list (l.map dNat)
def dPair (q : Nat × Nat) : PyData := .tuple [dNat q.1, dNat q.2]
def dPairs (l : List (Nat × Nat)) : PyData := .list (l.map dPair)
def dRows (l : List (List Nat)) : PyData := .list (l.map dNats)
def dRow (n : Nat) (f : Nat → Bool) : PyData := .list ((List.range n).map fun j => .bool (f j))
def dTab (n : Nat) (f : Nat → Nat → Bool) : PyData := .list ((List.range n).map fun i => dRow n (f i))
theorem dNats_ints (l : List Nat) : dNats l = .list ((l.map fun (x : Nat) => (x : Int)).map PyData.int) := by
  unfold dNats
  rw [List.map_map]
  rfl
theorem contains_ints (l : List Nat) (x : Nat) : (l.map fun (x : Nat) => (x : Int)).contains (x : Int) = l.contains x := by
  induction l with
  | nil => rfl
  | cons a l ih =>
    rw [List.map_cons, List.contains_cons, List.contains_cons, ih]
    congr 1
    rw [Bool.eq_iff_iff, beq_iff_eq, beq_iff_eq]
    omega
theorem getElem?_rangeMap {β : Type} {n i : Nat} (f : Nat → β) (h : i < n) : ((List.range n).map f)[i]? = some (f i) := by
  rw [List.getElem?_map, List.getElem?_range h]
  rfl
section
variable {K : PySem.W.Frag} {σ : L2.St} {B : Hp} {ta ti tj te tl : TE} {C : Addr}
theorem ed_cell {n i j : Nat} {f : Nat → Nat → Bool} (ht : EvD ta σ B (dTab n f)) (hi : EvD ti σ B (dNat i)) (hj : EvD tj σ B (dNat j)) (h1 : i < n) (h2 : j < n) :
    EvD (tOp (rIxL K) (tOp (rIxL K) ta ti) tj) σ B (.bool (f i j)) :=
  ed_op (ed_op ht hi (rd_ixL (d := dRow n (f i)) (getElem?_rangeMap _ h1))) hj (rd_ixL (getElem?_rangeMap _ h2))
theorem ed_len {ds : List PyData} (h : EvD te σ B (.list ds)) : EvD (tCB (rLenS K) (tCons te tNil)) σ B (dNat ds.length) := ed_cb (ea_cons h ea_nil) rc_len
theorem ed_lenTab {n : Nat} {f : Nat → Nat → Bool} (h : EvD te σ B (dTab n f)) : EvD (tCB (rLenS K) (tCons te tNil)) σ B (dNat n) :=
  ed_is (ed_len h) (by rw [List.length_map, List.length_range])
theorem ed_inNats {neg : Bool} {x : Nat} {l : List Nat} (hx : EvD ta σ B (dNat x)) (hl : EvD tl σ B (dNats l)) : EvD (tOp (rIn K neg) ta tl) σ B (.bool (if neg then !l.contains x else l.contains x)) := by
  rw [← contains_ints l x]
  rw [dNats_ints] at hl
  exact ed_op hx hl rd_inL
end
theorem wipe1 {σ : L2.St} {j : Nat} (x : V) : wipe ((wipe σ [j]).set j (some x)) [j] = wipe σ [j] := by
  show (((σ.set j none).set j (some x)).set j none) = σ.set j none
  rw [List.set_set, List.set_set]

/-! the defs -/
section
variable {K : PySem.W.Frag} {C : Addr}
/-- past_events -/
def prPast (ds : List PyData) (d : PyData) : Prop := ∃ (n : Nat) (f : Nat → Nat → Bool) (i : Nat), ds = [dTab n f, dNat i] ∧ n ≤ 6 ∧ i < n ∧ d = dNats ((List.range n).filter fun j => f j i)
theorem pu_past (vs : List V) (H : Hp) (Q : VK) (E : XK) (h : prm prPast vs H Q E) : t_past_events K C { nx := fun _ H' => Q .non H', rt := Q } (start n_past_events vs) H := by
  obtain ⟨B, ds, d, e, hv, ⟨n, f, i, rfl, hn, hi, rfl⟩, k⟩ := h
  obtain _ | ⟨h1, _ | ⟨h2, _ | _⟩⟩ := hv
  refine sd_ret (ed_is (ed_lcR1 (fun j => f j i) dNat (ea_cons (ed_lenTab (ed_var rfl h1)) ea_nil) (by omega) (fun x => wipe1 x)
    (fun j hj => eb_B (ed_cell (ed_var rfl h1) (ed_var rfl (.int _)) (ed_var rfl h2) hj hi)) (fun j hj _ => ed_var rfl (.int _))) rfl) e k
theorem ln_past (vs : List V) (H : Hp) (Q : VK) (E : XK) (h : prm prPast vs H Q E) : vs.length = 2 := by
  obtain ⟨B, ds, d, e, hv, ⟨n, f, i, rfl, _⟩, k⟩ := h
  exact hv.length

theorem eb_yes {σ : L2.St} {B : Hp} : EvB tYes σ B true := fun H1 e Q q => q B H1 (.refl e)
theorem giv_all {n : Nat} {w : Nat → PyData} : giv n (fun _ => true) w = (List.range n).map w := by
  unfold giv
  rw [List.filter_eq_self.mpr fun _ _ => rfl]
theorem giv_list {α : Type} (p : α → Bool) (W : α → PyData) : ∀ (l : List α), giv l.length (fun i => (l[i]?.map p).getD false) (fun i => (l[i]?.map W).getD (.int 0)) = (l.filter p).map W
  | [] => rfl
  | a :: l => by
    have ih := giv_list p W l
    unfold giv at ih ⊢
    rw [List.length_cons, List.range_succ_eq_map, List.filter_cons, List.filter_map, List.filter_cons]
    have e1 : ((fun i => ((a :: l)[i]?.map p).getD false) ∘ Nat.succ) = fun i => (l[i]?.map p).getD false := rfl
    have e2 : ((a :: l)[0]?.map p).getD false = p a := rfl
    rw [e1, e2]
    cases p a with
    | true =>
      rw [if_pos rfl, if_pos rfl, List.map_cons, List.map_cons, List.map_map, ← ih]
      rfl
    | false =>
      rw [if_neg (by decide), if_neg (by decide), List.map_map, ← ih]
      rfl
section
variable {σ : L2.St} {B : Hp} {t : TT} {te tl : TE}
theorem at_some {α : Type} {D : α → PyData} {l : List α} {i : Nat} {d : PyData} (h : (l.map D)[i]? = some d) : ∃ x, x ∈ l ∧ l[i]? = some x ∧ d = D x := by
  rw [List.getElem?_map] at h
  cases e : l[i]? with
  | none => rw [e] at h; cases h
  | some x =>
    rw [e] at h
    exact ⟨x, List.mem_of_getElem? e, rfl, (Option.some.inj h).symm⟩
theorem ed_lcM {α : Type} {l : List α} {D : α → PyData} {j : Nat} {vs : List Nat} (p : α → Bool) (W : α → PyData) (h : EvD tl σ B (.list (l.map D))) (hz : l.length ≤ 40000) (hw : ∀ x, wipe ((wipe σ vs).set j (some x)) vs = wipe σ vs)
    (ht : ∀ x ∈ l, ∀ v B', Dt B' v (D x) → Ex B B' → EvB t ((wipe σ vs).set j (some v)) B' (p x)) (he : ∀ x ∈ l, ∀ v B', Dt B' v (D x) → Ex B B' → p x = true → EvD te ((wipe σ vs).set j (some v)) B' (W x)) :
    EvD (tLc (iList K tl) (gName j) t te vs) σ B (.list ((l.filter p).map W)) := by
  have := ed_lcLn (K := K) (t := t) (te := te) (fun i => (l[i]?.map p).getD false) (fun i => (l[i]?.map W).getD (.int 0)) h (by rw [List.length_map]; exact hz) hw
    (fun i d x B' hd hx e => by
      obtain ⟨y, hy, hi, rfl⟩ := at_some hd
      have h2 := ht y hy x B' hx e
      show EvB t _ B' ((l[i]?.map p).getD false)
      rw [hi]
      exact h2) (fun i d x B' hd hx e hf => by
      obtain ⟨y, hy, hi, rfl⟩ := at_some hd
      have hf : (l[i]?.map p).getD false = true := hf
      rw [hi] at hf
      have h2 := he y hy x B' hx e hf
      show EvD te _ B' ((l[i]?.map W).getD (.int 0))
      rw [hi]
      exact h2)
  rw [List.length_map, giv_list] at this
  exact this
theorem ed_lcMp {α : Type} {l : List α} {D1 D2 : α → PyData} {j1 j2 : Nat} {vs : List Nat} (p : α → Bool) (W : α → PyData) (h : EvD tl σ B (.list (l.map fun x => .tuple [D1 x, D2 x]))) (hz : l.length ≤ 40000) (hw : ∀ x y, wipe (((wipe σ vs).set j1 (some x)).set j2 (some y)) vs = wipe σ vs)
    (ht : ∀ x ∈ l, ∀ v w B', Dt B' v (D1 x) → Dt B' w (D2 x) → Ex B B' → EvB t (((wipe σ vs).set j1 (some v)).set j2 (some w)) B' (p x))
    (he : ∀ x ∈ l, ∀ v w B', Dt B' v (D1 x) → Dt B' w (D2 x) → Ex B B' → p x = true → EvD te (((wipe σ vs).set j1 (some v)).set j2 (some w)) B' (W x)) :
    EvD (tLc (iList K tl) (gTup K 2 (gCons (gName j1) (gCons (gName j2) gNil))) t te vs) σ B (.list ((l.filter p).map W)) := by
  have := ed_lcLp (K := K) (t := t) (te := te) (j1 := j1) (j2 := j2) (fun i => (l[i]?.map p).getD false) (fun i => (l[i]?.map W).getD (.int 0)) h (by rw [List.length_map]; exact hz) hw
    (fun i d v w B' hd e => by
      obtain ⟨y, hy, hi, rfl⟩ := at_some hd
      refine ⟨D1 y, D2 y, rfl, fun h1 h2 => ⟨?_, fun hf => ?_⟩⟩
      · have h3 := ht y hy v w B' h1 h2 e
        show EvB t _ B' ((l[i]?.map p).getD false)
        rw [hi]
        exact h3
      · have hf : (l[i]?.map p).getD false = true := hf
        rw [hi] at hf
        have h3 := he y hy v w B' h1 h2 e hf
        show EvD te _ B' ((l[i]?.map W).getD (.int 0))
        rw [hi]
        exact h3)
  rw [List.length_map, giv_list] at this
  exact this
end
theorem wipe2 {σ : L2.St} {j1 j2 : Nat} (x y : V) : wipe (((wipe σ [j1, j2]).set j1 (some x)).set j2 (some y)) [j1, j2] = wipe σ [j1, j2] := by
  show ((((((σ.set j2 none).set j1 none).set j1 (some x)).set j2 (some y)).set j2 none).set j1 none) = (σ.set j2 none).set j1 none
  rw [List.set_set, List.set_set]
  by_cases h : j1 = j2
  · subst h
    rw [List.set_set, List.set_set, List.set_set]
  · rw [List.set_comm (some x) none (show j1 ≠ j2 from h)]
    simp only [List.set_set]
/-- one_lies_between -/
def prBetween (ds : List PyData) (d : PyData) : Prop := ∃ (n : Nat) (f : Nat → Nat → Bool) (i j : Nat), ds = [dTab n f, dNat i, dNat j] ∧ n ≤ 6 ∧ i < n ∧ j < n ∧ d = .bool ((List.range n).any fun k => f i k && f k j)
theorem pu_between (vs : List V) (H : Hp) (Q : VK) (E : XK) (h : prm prBetween vs H Q E) : t_one_lies_between K C { nx := fun _ H' => Q .non H', rt := Q } (start n_one_lies_between vs) H := by
  obtain ⟨B, ds, d, e, hv, ⟨n, f, i, j, rfl, hn, hi, hj, rfl⟩, k⟩ := h
  obtain _ | ⟨h1, _ | ⟨h2, _ | ⟨h3, _ | _⟩⟩⟩ := hv
  refine sd_ret (ed_is (ed_cb (ea_cons (ed_is (ed_lcR1 (fun _ => true) (fun k => .bool (f i k && f k j)) (ea_cons (ed_lenTab (ed_var rfl h1)) ea_nil) (by omega) (fun x => wipe1 x)
    (fun k hk => eb_yes) (fun k hk _ => ed_andV (ed_cell (ed_var rfl h1) (ed_var rfl h2) (ed_var rfl (.int _)) hi hk) (fun _ => ed_cell (ed_var rfl h1) (ed_var rfl (.int _)) (ed_var rfl h3) hk hj)))
    (show _ = PyData.list (((List.range n).map fun k => f i k && f k j).map PyData.bool) by rw [giv_all, List.map_map]; rfl)) ea_nil) rc_any) ?_) e k
  rw [List.any_map]
  rfl
/-- heard_pairs -/
def pairsTo (n : Nat) (f : Nat → Nat → Bool) (m : Nat) : List (Nat × Nat) := (List.range m).flatMap fun i => ((List.range n).filter fun j => f i j).map fun j => (i, j)
theorem pairsTo_succ (n : Nat) (f : Nat → Nat → Bool) (m : Nat) : pairsTo n f (m + 1) = pairsTo n f m ++ ((List.range n).filter fun j => f m j).map fun j => (m, j) := by
  unfold pairsTo
  rw [List.range_succ, List.flatMap_append]
  simp
theorem pairsTo_len (n : Nat) (f : Nat → Nat → Bool) : ∀ m, (pairsTo n f m).length ≤ m * n
  | 0 => by simp [pairsTo]
  | m + 1 => by
    rw [pairsTo_succ, List.length_append, List.length_map, Nat.succ_mul]
    have h1 := pairsTo_len n f m
    have h2 := List.length_filter_le (fun j => f m j) (List.range n)
    rw [List.length_range] at h2
    omega
def prPairs (ds : List PyData) (d : PyData) : Prop := ∃ (n : Nat) (f : Nat → Nat → Bool), ds = [dTab n f] ∧ n ≤ 6 ∧ d = dPairs (pairsTo n f n)
theorem pu_pairs (vs : List V) (H : Hp) (Q : VK) (E : XK) (h : prm prPairs vs H Q E) : t_heard_pairs K C { nx := fun _ H' => Q .non H', rt := Q } (start n_heard_pairs vs) H := by
  obtain ⟨B, ds, d, e, hv, ⟨n, f, rfl, hn, rfl⟩, k⟩ := h
  obtain _ | ⟨h1, _ | _⟩ := hv
  rename_i v1
  refine qd_new (.refl e) fun p hp a0 => ?_
  refine qd_forR1 (ea_cons (ed_lenTab (ed_var rfl h1)) ea_nil) (by omega) a0.ex (fun i σ' H' => ∃ x y, σ' = [some v1, some (.ref p), x, y] ∧ Acc B H p ((pairsTo n f i).map dPair) H')
    (fun B2 H2 g2 => ⟨none, none, rfl, acc_ext a0 g2.ex⟩) ?_ ?_
  · rintro i σ' H' hi ⟨x, y, rfl, a1⟩
    refine sd_forR1 (ea_cons (ed_lenTab (ed_var rfl h1)) ea_nil) (by omega) a1.ex (fun j σ' H' => ∃ y, σ' = [some v1, some (.ref p), some (.int (i : Int)), y] ∧ Acc B H p ((pairsTo n f i).map dPair ++ (((List.range j).filter fun j => f i j).map fun j => (i, j)).map dPair) H')
      (fun B2 H2 g2 => ⟨y, rfl, by simpa using acc_ext a1 g2.ex⟩) ?_ ?_
    · rintro j σ' H' hj ⟨y, rfl, a2⟩
      refine sd_when (eb_B (ed_cell (ed_var rfl h1) (ed_var rfl (.int _)) (ed_var rfl (.int _)) hi hj)) a2.ex (fun hb B2 H2 g2 => ?_) (fun hb B2 H2 g2 => ?_)
      · refine sd_appA (d := dPair (i, j)) hp (acc_ext a2 g2.ex) rfl (ed_tup (ea_cons (ed_var rfl (.int _)) (ea_cons (ed_var rfl (.int _)) ea_nil)) (by show 2 ≤ 100000; decide)) ?_ fun H3 a3 => ?_
        · rw [List.length_append, List.length_map, List.length_map, List.length_map]
          have h2 := pairsTo_len n f i
          have h3 := List.length_filter_le (fun j => f i j) (List.range j)
          rw [List.length_range] at h3
          have h4 : i * n ≤ 6 * 6 := Nat.mul_le_mul (by omega) hn
          omega
        · refine ⟨some (.int (j : Int)), rfl, ?_⟩
          rw [List.range_succ, List.filter_append, List.filter_cons, if_pos hb, List.filter_nil, List.map_append, List.map_append, ← List.append_assoc]
          exact a3
      · refine ⟨some (.int (j : Int)), rfl, ?_⟩
        rw [List.range_succ, List.filter_append, List.filter_cons, if_neg (by rw [hb]; decide), List.filter_nil, List.append_nil]
        exact acc_ext a2 g2.ex
    · rintro σ' H' ⟨y, rfl, a2⟩
      refine ⟨some (.int (i : Int)), y, rfl, ?_⟩
      rw [pairsTo_succ, List.map_append]
      exact a2
  · rintro σ' H' ⟨x, y, rfl, a1⟩
    obtain ⟨B2, g2, hd⟩ := acc_done hp a1
    exact ⟨_, rfl, k _ B2 H' g2 hd⟩
/-- number_without -/
def prNumber (ds : List PyData) (d : PyData) : Prop := ∃ (x i : Nat), ds = [dNat x, dNat i] ∧ d = dNat (down i x)
theorem pu_number (vs : List V) (H : Hp) (Q : VK) (E : XK) (h : prm prNumber vs H Q E) : t_number_without K C { nx := fun _ H' => Q .non H', rt := Q } (start n_number_without vs) H := by
  obtain ⟨B, ds, d, e, hv, ⟨x, i, rfl, rfl⟩, k⟩ := h
  obtain _ | ⟨h1, _ | ⟨h2, _ | _⟩⟩ := hv
  refine sd_ret (ed_if (b := decide (i < x)) (eb_test (ed_is (ed_op (ed_var rfl h1) (ed_var rfl h2) (rd_I0 (d := .bool (decide ((i : Int) < (x : Int)))) fun B => .bl _)) ?_)) (fun hb => ?_) (fun hb => ?_)) e k
  · congr 1
    exact decide_eq_decide.mpr (by omega)
  · have hb := of_decide_eq_true hb
    refine ed_is (ed_op (ed_var rfl h1) ed_int (rd_I0 (d := .int ((x : Int) - 1)) fun B => .int _)) ?_
    unfold dNat down
    rw [if_pos hb]
    congr 1
    omega
  · have hb := of_decide_eq_false hb
    refine ed_is (ed_var rfl h1) ?_
    unfold down
    rw [if_neg hb]

/-- link_pairs -/
def prLinks (ds : List PyData) (d : PyData) : Prop := ∃ (n : Nat) (f : Nat → Nat → Bool), ds = [dTab n f] ∧ n ≤ 6 ∧ d = dPairs ((pairsTo n f n).filter fun q => !(List.range n).any fun k => f q.1 k && f k q.2)
theorem mem_pairsTo {n : Nat} {f : Nat → Nat → Bool} {m : Nat} {q : Nat × Nat} (h : q ∈ pairsTo n f m) : q.1 < m ∧ q.2 < n ∧ f q.1 q.2 = true := by
  unfold pairsTo at h
  simp only [List.mem_flatMap, List.mem_range, List.mem_map, List.mem_filter] at h
  obtain ⟨i, hi, j, ⟨hj, hf⟩, rfl⟩ := h
  exact ⟨hi, hj, hf⟩
theorem ed_fst {K : PySem.W.Frag} {σ : L2.St} {B : Hp} {te : TE} {d1 d2 : PyData} (h : EvD te σ B (.tuple [d1, d2])) : EvD (tOp (rIxT K) te (tC (.int 0))) σ B d1 := ed_op h (ed_int (i := 0)) (rd_ixT (j := 0) rfl)
theorem ed_snd {K : PySem.W.Frag} {σ : L2.St} {B : Hp} {te : TE} {d1 d2 : PyData} (h : EvD te σ B (.tuple [d1, d2])) : EvD (tOp (rIxT K) te (tC (.int 1))) σ B d2 := ed_op h (ed_int (i := 1)) (rd_ixT (j := 1) rfl)
theorem pu_links (vs : List V) (H : Hp) (Q : VK) (E : XK) (h : prm prLinks vs H Q E) : t_link_pairs K C (prm prPairs) (prm prBetween) { nx := fun _ H' => Q .non H', rt := Q } (start n_link_pairs vs) H := by
  obtain ⟨B, ds, d, e, hv, ⟨n, f, rfl, hn, rfl⟩, k⟩ := h
  obtain _ | ⟨h1, _ | _⟩ := hv
  have len := pairsTo_len n f n
  have h36 : n * n ≤ 6 * 6 := Nat.mul_le_mul hn hn
  refine sd_ret (ed_lcM (l := pairsTo n f n) (D := dPair) (fun q => !(List.range n).any fun k => f q.1 k && f k q.2) dPair (ed_call (ea_cons (ed_var rfl h1) ea_nil) ⟨n, f, rfl, hn, rfl⟩) (by omega) (fun x => wipe1 x)
    (fun q hq v B' hv' eb => eb_not (eb_B (ed_call (ea_cons (ed_var rfl (h1.ex eb)) (ea_cons (ed_fst (ed_var rfl hv')) (ea_cons (ed_snd (ed_var rfl hv')) ea_nil))) ⟨n, f, q.1, q.2, rfl, hn, (mem_pairsTo hq).1, (mem_pairsTo hq).2.1, rfl⟩)))
    (fun q hq v B' hv' eb _ => ed_var rfl hv')) e k
/-- may_follow -/
def follow (row : List Nat) (x : Nat) (past : List Nat) : Bool := !row.contains x && past.all fun j => row.contains j
def prFollow (ds : List PyData) (d : PyData) : Prop := ∃ (row : List Nat) (x : Nat) (past : List Nat), ds = [dNats row, dNat x, dNats past] ∧ past.length ≤ 100 ∧ d = .bool (follow row x past)
theorem pu_follow (vs : List V) (H : Hp) (Q : VK) (E : XK) (h : prm prFollow vs H Q E) : t_may_follow K C { nx := fun _ H' => Q .non H', rt := Q } (start n_may_follow vs) H := by
  obtain ⟨B, ds, d, e, hv, ⟨row, x, past, rfl, hl, rfl⟩, k⟩ := h
  obtain _ | ⟨h1, _ | ⟨h2, _ | ⟨h3, _ | _⟩⟩⟩ := hv
  refine sd_ret (ed_andV (ed_inNats (ed_var rfl h2) (ed_var rfl h1)) fun _ => ed_is (ed_cb (ea_cons (ed_is (ed_lcM (l := past) (D := dNat) (fun _ => true) (fun j => .bool (row.contains j)) (ed_var rfl h3) (by omega) (fun x => wipe1 x)
    (fun _ _ _ _ _ _ => eb_yes) (fun j _ v B' hv' eb _ => ed_inNats (neg := false) (ed_var rfl hv') (ed_var rfl (h1.ex eb))))
    (show _ = PyData.list ((past.map fun j => row.contains j).map PyData.bool) by rw [List.filter_eq_self.mpr fun _ _ => rfl, List.map_map]; rfl)) ea_nil) rc_all) ?_) e k
  rw [List.all_map]
  rfl
/-- one_longer -/
def longerF (n : Nat) (pa : Nat → List Nat) (rows : List (List Nat)) : List (List Nat) := rows.flatMap fun row => ((List.range n).filter fun x => follow row x (pa x)).map fun x => row ++ [x]
theorem longerF_len (n : Nat) (pa : Nat → List Nat) : ∀ rows, (longerF n pa rows).length ≤ rows.length * n
  | [] => by simp [longerF]
  | r :: rows => by
    have h1 := longerF_len n pa rows
    unfold longerF at h1 ⊢
    rw [List.flatMap_cons, List.length_append, List.length_map, List.length_cons, Nat.succ_mul]
    have h2 := List.length_filter_le (fun x => follow r x (pa x)) (List.range n)
    rw [List.length_range] at h2
    omega
def prLonger (ds : List PyData) (d : PyData) : Prop := ∃ (n : Nat) (pa : Nat → List Nat) (rows : List (List Nat)), ds = [dRows rows, dRows ((List.range n).map pa)] ∧ n ≤ 6 ∧ (∀ x, (pa x).length ≤ 100) ∧ (∀ r ∈ rows, r.length ≤ 100) ∧ rows.length ≤ 10000 ∧ d = dRows (longerF n pa rows)
theorem take_snoc {α : Type} {l : List α} {i : Nat} {x : α} (h : l[i]? = some x) : l.take (i + 1) = l.take i ++ [x] := by
  rw [List.take_succ, h]
  rfl
theorem pu_longer (vs : List V) (H : Hp) (Q : VK) (E : XK) (h : prm prLonger vs H Q E) : t_one_longer K C (prm prFollow) { nx := fun _ H' => Q .non H', rt := Q } (start n_one_longer vs) H := by
  obtain ⟨B, ds, d, e, hv, ⟨n, pa, rows, rfl, hn, hpa, hr, hlen, rfl⟩, k⟩ := h
  obtain _ | ⟨h1, _ | ⟨h2, _ | _⟩⟩ := hv
  rename_i v1 v2
  refine qd_new (.refl e) fun p hp a0 => ?_
  refine qd_forL (ed_var rfl h1) a0.ex fun B1 H1 g1 => ⟨fun i σ' H' => ∃ x y z, σ' = [some v1, some v2, some (.ref p), x, y, z] ∧ Ex B1 H' ∧ Acc B H p ((longerF n pa (rows.take i)).map dNats) H',
    ⟨none, none, none, rfl, g1.sub, acc_ext a0 g1.ex⟩, fun i σ' H' ⟨_, _, _, _, q, _⟩ => q, ?_, ?_⟩
  · rintro i d v σ' H' hi hv ⟨x, y, z, rfl, ex1, a1⟩
    obtain ⟨row, hrow, hri, rfl⟩ := at_some hi
    have bl : (longerF n pa (rows.take i)).length ≤ 60000 := by
      have h1 := longerF_len n pa (rows.take i)
      have h2 : (rows.take i).length ≤ rows.length := (by rw [List.length_take]; exact Nat.min_le_right _ _)
      have h3 : (rows.take i).length * n ≤ 10000 * 6 := Nat.mul_le_mul (by omega) hn
      omega
    show tFor _ _ _ _ [some v1, some v2, some (.ref p), some v, y, z] H'
    have s1 : Side B H p B1 := (side_refl a0).grow a0 g1
    refine sd_forE (B := B1) (ea_cons (ed_var rfl (h2.ex g1.base)) ea_nil) ex1 fun B2 H2 g2 => ⟨fun j σ' H' => ∃ y z, σ' = [some v1, some v2, some (.ref p), some v, y, z] ∧ Ex B2 H' ∧ Acc B H p ((longerF n pa (rows.take i)).map dNats ++ ((((List.range j).filter fun x => follow row x (pa x)).map fun x => row ++ [x]).map dNats)) H',
      ⟨y, z, rfl, g2.sub, by simpa using acc_ext a1 g2.ex⟩, fun j σ' H' ⟨_, _, _, q, _⟩ => q, ?_, ?_⟩
    · rintro j d w σ' H' T hj hw ⟨y, z, rfl, ex2, a2⟩ hT
      obtain ⟨_, _, hx, rfl⟩ := at_some hj
      have hjn : j < n := by
        have := (List.getElem?_eq_some_iff.mp hx).1
        rw [List.length_map, List.length_range] at this
        exact this
      rw [getElem?_rangeMap _ hjn] at hx
      cases hx
      show tIfS _ _ _ _ [some v1, some v2, some (.ref p), some v, some (.int (j : Int)), some w] _
      have exT : Ex H' (upd H' T (.tup [.int (j : Int), w])) := Ex.new hT
      have hvB : Dt B2 v (dNats row) := hv.ex g2.base
      refine sd_when (B := B2) (b := follow row j (pa j)) (eb_B (ed_call (ea_cons (ed_var rfl hvB) (ea_cons (ed_var rfl (.int _)) (ea_cons (ed_var rfl hw) ea_nil))) ⟨row, j, pa j, rfl, hpa j, rfl⟩)) (ex2.trans exT) (fun hb B3 H3 g3 => ?_) (fun hb B3 H3 g3 => ?_)
      · have a3 := acc_ext a2 (exT.trans g3.ex)
        refine sd_appS (d := dNats (row ++ [j])) hp a3 ((s1.grow a1 g2)) ((ex2.trans exT).trans g3.ex) rfl (ed_is (ed_op (ed_var rfl hvB) (ed_lst (ea_cons (ed_var rfl (.int (j : Int))) ea_nil) (by show 1 ≤ 100000; decide)) (rd_cat ?_)) ?_) ?_ fun H4 ex4 a4 => ?_
        · have := hr row hrow
          rw [List.length_map]
          show _ + 1 ≤ _
          omega
        · unfold dNats
          rw [List.map_append]
          rfl
        · rw [List.length_append, List.length_map, List.length_map, List.length_map]
          have h3 := List.length_filter_le (fun x => follow row x (pa x)) (List.range j)
          rw [List.length_range] at h3
          omega
        · refine ⟨some (.int (j : Int)), some w, rfl, ex4, ?_⟩
          rw [List.range_succ, List.filter_append, List.filter_cons, if_pos hb, List.filter_nil, List.map_append, List.map_append, ← List.append_assoc]
          exact a4
      · refine ⟨some (.int (j : Int)), some w, rfl, (ex2.trans exT).trans g3.ex, ?_⟩
        rw [List.range_succ, List.filter_append, List.filter_cons, if_neg (by rw [hb]; decide), List.filter_nil, List.append_nil]
        exact acc_ext a2 (exT.trans g3.ex)
    · rintro σ' H' ⟨y, z, rfl, ex2, a2⟩
      refine ⟨some v, y, z, rfl, g2.base.trans ex2, ?_⟩
      rw [take_snoc hri, show longerF n pa (rows.take i ++ [row]) = longerF n pa (rows.take i) ++ ((List.range n).filter fun x => follow row x (pa x)).map fun x => row ++ [x] by unfold longerF; rw [List.flatMap_append]; simp, List.map_append]
      rw [List.length_map, List.length_map, List.length_range] at a2
      exact a2
  · rintro σ' H' ⟨x, y, z, rfl, ex1, a1⟩
    rw [List.length_map, List.take_length] at a1
    obtain ⟨B2, g2, hd⟩ := acc_done hp a1
    exact ⟨_, rfl, k _ B2 H' g2 hd⟩

/-- all_orders -/
def grownF (n : Nat) (pa : Nat → List Nat) : Nat → List (List Nat)
  | 0 => [[]]
  | k + 1 => longerF n pa (grownF n pa k)
theorem grownF_len (n : Nat) (pa : Nat → List Nat) (hn : n ≤ 6) : ∀ k, (grownF n pa k).length ≤ 6 ^ k
  | 0 => Nat.le_refl _
  | k + 1 => by
    have h1 := longerF_len n pa (grownF n pa k)
    have h2 := Nat.mul_le_mul (grownF_len n pa hn k) hn
    rw [Nat.pow_succ]
    exact Nat.le_trans h1 h2
theorem grownF_row (n : Nat) (pa : Nat → List Nat) : ∀ k, ∀ r ∈ grownF n pa k, r.length = k
  | 0, r, h => by
    rw [List.mem_singleton.mp h]
    rfl
  | k + 1, r, h => by
    obtain ⟨q, hq, h2⟩ := List.mem_flatMap.mp h
    obtain ⟨x, _, rfl⟩ := List.mem_map.mp h2
    rw [List.length_append, grownF_row n pa k q hq]
    rfl
def prOrders (ds : List PyData) (d : PyData) : Prop := ∃ (n : Nat) (f : Nat → Nat → Bool), ds = [dTab n f] ∧ n ≤ 6 ∧ d = dRows (grownF n (fun x => (List.range n).filter fun j => f j x) n)
theorem pu_orders (vs : List V) (H : Hp) (Q : VK) (E : XK) (h : prm prOrders vs H Q E) : t_all_orders K C (prm prPast) (prm prLonger) { nx := fun _ H' => Q .non H', rt := Q } (start n_all_orders vs) H := by
  obtain ⟨B, ds, d, e, hv, ⟨n, f, rfl, hn, rfl⟩, k⟩ := h
  obtain _ | ⟨h1, _ | _⟩ := hv
  rename_i v1
  refine qd_asg (d := dRows ((List.range n).map fun x => (List.range n).filter fun j => f j x)) (ed_is (ed_lcR1 (fun _ => true) (fun x => dNats ((List.range n).filter fun j => f j x)) (ea_cons (ed_lenTab (ed_var rfl h1)) ea_nil) (by omega) (fun x => wipe1 x)
    (fun x hx => eb_yes) (fun x hx _ => ed_call (ea_cons (ed_var rfl h1) (ea_cons (ed_var rfl (.int _)) ea_nil)) ⟨n, f, x, rfl, hn, hx, rfl⟩)) ?_) e fun v2 B2 H2 g2 h2 => ?_
  · rw [giv_all]
    unfold dRows
    rw [List.map_map]
    rfl
  refine qd_asg (B := B2) (d := dRows [[]]) (ed_lst (ea_cons (ed_lst ea_nil (Nat.zero_le _)) ea_nil) (by show 1 ≤ 100000; decide)) g2.sub fun v3 B3 H3 g3 h3 => ?_
  refine qd_forR1 (B := B3) (ea_cons (ed_lenTab (ed_var rfl (h1.ex (g2.base.trans g3.base)))) ea_nil) (by omega) g3.sub
    (fun i σ' H' => ∃ x y z B', σ' = [some v1, some v2, some x, y, z] ∧ Grow B H B' H' ∧ Dt B' v2 (dRows ((List.range n).map fun x => (List.range n).filter fun j => f j x)) ∧ Dt B' x (dRows (grownF n (fun x => (List.range n).filter fun j => f j x) i)))
    (fun B4 H4 g4 => ⟨v3, none, none, B4, rfl, (g2.trans g3).trans g4, h2.ex (g3.base.trans g4.base), h3.ex g4.base⟩) ?_ ?_
  · rintro i σ' H' hi ⟨x, y, z, B', rfl, g, hp, hx⟩
    refine sd_asg (B := B') (ed_call (ea_cons (ed_var rfl hx) (ea_cons (ed_var rfl hp) ea_nil)) ⟨n, _, _, rfl, hn, fun x => ?_, fun r hr => ?_, ?_, rfl⟩) g.sub fun w B5 H5 g5 hw => ?_
    · have := List.length_filter_le (fun j => f j x) (List.range n)
      rw [List.length_range] at this
      omega
    · rw [grownF_row _ _ i r hr]
      omega
    · have h1 := grownF_len n (fun x => (List.range n).filter fun j => f j x) hn i
      have h2 : 6 ^ i ≤ 6 ^ 5 := Nat.pow_le_pow_right (by omega) (by omega)
      exact Nat.le_trans h1 (Nat.le_trans h2 (by decide))
    · exact ⟨w, some (.int (i : Int)), z, B5, rfl, g.trans g5, hp.ex g5.base, hw⟩
  · rintro σ' H' ⟨x, y, z, B', rfl, g, hp, hx⟩
    exact ⟨_, rfl, k _ B' H' g hx⟩
/-- it is the specification's -/
theorem grownF_grown (n : Nat) (t : Kv416.Table) : ∀ k, grownF n (fun x => (List.range n).filter fun j => Kv416.at_ t j x) k = grown n t k
  | 0 => rfl
  | k + 1 => by
    show longerF n _ (grownF n _ k) = longer n t (grown n t k)
    rw [grownF_grown n t k]
    rfl
/-- counted -/
def prCounted (ds : List PyData) (d : PyData) : Prop := ∃ (l : List PyData), ds = [.list l] ∧ l.length ≤ 1000 ∧ d = .list (dNat l.length :: l)
theorem pu_counted (vs : List V) (H : Hp) (Q : VK) (E : XK) (h : prm prCounted vs H Q E) : t_counted K C { nx := fun _ H' => Q .non H', rt := Q } (start n_counted vs) H := by
  obtain ⟨B, ds, d, e, hv, ⟨l, rfl, hl, rfl⟩, k⟩ := h
  obtain _ | ⟨h1, _ | _⟩ := hv
  refine sd_ret (ed_op (ed_lst (ea_cons (ed_len (ed_var rfl h1)) ea_nil) (by show 1 ≤ 100000; decide)) (ed_var rfl h1) (rd_cat ?_)) e k
  show 1 + l.length ≤ 100000
  omega
/-- counted_pairs -/
def prCountedP (ds : List PyData) (d : PyData) : Prop := ∃ (l : List (Nat × Nat)), ds = [dPairs l] ∧ l.length ≤ 1000 ∧ d = dNats (l.length :: l.flatMap fun q => [q.1, q.2])
theorem pu_countedP (vs : List V) (H : Hp) (Q : VK) (E : XK) (h : prm prCountedP vs H Q E) : t_counted_pairs K C { nx := fun _ H' => Q .non H', rt := Q } (start n_counted_pairs vs) H := by
  obtain ⟨B, ds, d, e, hv, ⟨l, rfl, hl, rfl⟩, k⟩ := h
  obtain _ | ⟨h1, _ | _⟩ := hv
  rename_i v1
  refine qd_newD (A := B) (ea_cons (ed_len (ed_var rfl h1)) ea_nil) e (by show 1 ≤ 100000; decide) fun p H1 hp a0 => ?_
  refine qd_forL (ed_var rfl h1) a0.ex fun B1 H1 g1 => ⟨fun i σ' H' => ∃ x y, σ' = [some v1, some (.ref p), x, y] ∧ Ex B1 H' ∧ Acc B H p ((l.length :: (l.take i).flatMap fun q => [q.1, q.2]).map dNat) H',
    ⟨none, none, rfl, g1.sub, ?_⟩, fun i σ' H' ⟨_, _, _, q, _⟩ => q, ?_, ?_⟩
  · have := acc_ext a0 g1.ex
    rw [List.length_map] at this
    exact this
  · rintro i d v σ' H' hi hv ⟨x, y, rfl, ex1, a1⟩
    obtain ⟨q, hq, hqi, rfl⟩ := at_some hi
    have hlen : ((l.take i).flatMap fun q => [q.1, q.2]).length ≤ 2 * l.length := by
      have h1 : ∀ (m : List (Nat × Nat)), (m.flatMap fun q => [q.1, q.2]).length = 2 * m.length := by
        intro m
        induction m with
        | nil => rfl
        | cons a m ih =>
          rw [List.flatMap_cons, List.length_append, ih]
          show 2 + 2 * m.length = 2 * (m.length + 1)
          omega
      rw [h1, List.length_take]
      omega
    refine gd_pair hv ex1 fun w1 w2 hw1 hw2 => ?_
    have s1 : Side B H p B1 := (side_refl a0).grow a0 g1
    refine qd_appS (σ := [some v1, some (.ref p), some w1, some w2]) hp a1 s1 ex1 rfl (ed_var rfl hw1) ?_ fun H2 ex2 a2 => ?_
    · rw [List.length_map, List.length_cons]
      omega
    refine sd_appS (σ := [some v1, some (.ref p), some w1, some w2]) hp a2 s1 ex2 rfl (ed_var rfl hw2) ?_ fun H3 ex3 a3 => ?_
    · rw [List.length_append, List.length_map, List.length_cons]
      show _ + 1 < _
      omega
    refine ⟨some w1, some w2, rfl, ex3, ?_⟩
    rw [take_snoc hqi, List.flatMap_append]
    simpa [List.append_assoc] using a3
  · rintro σ' H' ⟨x, y, rfl, ex1, a1⟩
    rw [List.length_map, List.take_length] at a1
    obtain ⟨B2, g2, hd⟩ := acc_done hp a1
    exact ⟨_, rfl, k _ B2 H' g2 hd⟩
end
end Oa

set_option Elab.async false
set_option linter.all false
set_option maxRecDepth 100000
set_option maxHeartbeats 2000000
/-! Python's own: index, count, sum, sorted, list(range), == of lists of numbers. -/
namespace Oa
open PySem PySem.Spec PyProof.Rows L2 Evl
section
variable {K : PySem.W.Frag} {σ : L2.St} {B : Hp} {to te ta tb : TE}
theorem dt_nats {B : Hp} {v : V} {l : List Nat} (h : Dt B v (dNats l)) : ∃ a, v = .ref a ∧ B a = some (.lst ((l.map fun (x : Nat) => (x : Int)).map V.int)) := by
  rw [dNats_ints] at h
  obtain ⟨a, xs, rfl, ha, hall⟩ := dt_list h
  have := hall.ints
  subst this
  exact ⟨a, rfl, ha⟩
theorem ty_list {a : Addr} {xs : List V} {H : Hp} (h : H a = some (.lst xs)) : tyV K "list" (.ref a) H := Or.inl ⟨rfl, xs, sq_of h⟩
/-- l.index(x), x in it -/
theorem ed_index {l : List Nat} {x : Nat} (hl : EvD to σ B (dNats l)) (hx : EvD te σ B (dNat x)) (hm : x ∈ l) : EvD (tBM K "list" (rIndex K) to (tCons te tNil)) σ B (dNat (l.idxOf x)) := fun H1 e Q q =>
  hl H1 e _ fun v B2 H2 g2 hv => by
    obtain ⟨a, rfl, ha⟩ := dt_nats hv
    refine ⟨ty_list (g2.sub _ _ ha), (hx.mono g2.base) H2 g2.sub _ fun w B3 H3 g3 hw => ?_⟩
    cases hw
    have hi : l.idxOf x < l.length := List.idxOf_lt_length_of_mem hm
    refine ⟨a, _, .int (x : Int), l.idxOf x, .int (x : Int), rfl, rfl, sq_of (g3.ex _ _ (g2.sub _ _ ha)), rfl, flat_ints _, ?_, ?_, ?_, q _ B3 H3 (g2.trans g3) (.int _)⟩
    · rw [List.getElem?_map, List.getElem?_map, List.getElem?_eq_getElem hi, List.getElem_idxOf hi]
      rfl
    · show ((x : Int) == (x : Int)) = true
      exact beq_self_eq_true _
    · intro m z hm' hz
      rw [List.getElem?_map, List.getElem?_map] at hz
      cases e2 : l[m]? with
      | none => rw [e2] at hz; cases hz
      | some y =>
        rw [e2] at hz
        cases hz
        have hne : y ≠ x := fun z => by
          subst z
          obtain ⟨hml, hy⟩ := List.getElem?_eq_some_iff.mp e2
          have := List.not_of_lt_findIdx (show m < l.findIdx (· == y) from hm')
          rw [hy] at this
          rw [beq_self_eq_true] at this
          cases this
        show ((y : Int) == (x : Int)) = false
        rw [beq_eq_false_iff_ne]
        omega
/-- l.count(x) -/
theorem count_ints (l : List Nat) (x : Nat) : (l.map fun (x : Nat) => (x : Int)).count (x : Int) = l.count x := by
  induction l with
  | nil => rfl
  | cons a l ih =>
    rw [List.map_cons, List.count_cons, List.count_cons, ih]
    congr 1
    have : ((a : Int) == (x : Int)) = (a == x) := by rw [Bool.eq_iff_iff, beq_iff_eq, beq_iff_eq]; omega
    rw [this]
theorem ed_count {l : List Nat} {x : Nat} (hl : EvD to σ B (dNats l)) (hx : EvD te σ B (dNat x)) : EvD (tBM K "list" (rCntI K) to (tCons te tNil)) σ B (dNat (l.count x)) := fun H1 e Q q =>
  hl H1 e _ fun v B2 H2 g2 hv => by
    obtain ⟨a, rfl, ha⟩ := dt_nats hv
    refine ⟨ty_list (g2.sub _ _ ha), (hx.mono g2.base) H2 g2.sub _ fun w B3 H3 g3 hw => ?_⟩
    cases hw
    refine ⟨a, _, (x : Int), rfl, rfl, sq_of (g3.ex _ _ (g2.sub _ _ ha)), ?_⟩
    rw [count_ints]
    exact q _ B3 H3 (g2.trans g3) (.int _)
/-- sum(l) -/
theorem sum_ints : ∀ (l : List Nat), (l.map fun (x : Nat) => (x : Int)).sum = ((l.sum : Nat) : Int)
  | [] => rfl
  | a :: l => by
    rw [List.map_cons, List.sum_cons, List.sum_cons, sum_ints l]
    omega
theorem rc_sum {l : List Nat} : RCD (rSum K) [dNats l] (dNat l.sum) := fun B H1 e vs hv Q q => by
  cases hv with
  | cons h1 h2 =>
    cases h2
    obtain ⟨a, rfl, ha⟩ := dt_nats h1
    refine ⟨a, _, rfl, sq_of (e _ _ ha), ?_⟩
    rw [sum_ints]
    exact q _ B H1 (.refl e) (.int _)
/-- sorted(l): s is l in order -/
theorem sorted_one : ∀ {a b : List Int}, a.Perm b → a.Pairwise (· ≤ ·) → b.Pairwise (· ≤ ·) → a = b
  | [], b, p, _, _ => (List.nil_perm.mp p).symm
  | x :: a, [], p, _, _ => absurd p.length_eq (by simp)
  | x :: a, y :: b, p, ha, hb => by
    rw [List.pairwise_cons] at ha hb
    have h1 : x = y := by
      have hx : x ∈ y :: b := p.mem_iff.mp List.mem_cons_self
      have hy : y ∈ x :: a := p.mem_iff.mpr List.mem_cons_self
      rcases List.mem_cons.mp hx with h | h
      · exact h
      · rcases List.mem_cons.mp hy with h' | h'
        · exact h'.symm
        · have := ha.1 y h'
          have := hb.1 x h
          omega
    subst h1
    rw [sorted_one ((List.perm_cons x).mp p) ha.2 hb.2]
theorem rc_sorted {l s : List Nat} (hp : s.Perm l) (hs : s.Pairwise (· ≤ ·)) (hl : l.length < 64) : RCD (rSorted K) [dNats l] (dNats s) := fun B H1 e vs hv Q q => by
  cases hv with
  | cons h1 h2 =>
    cases h2
    obtain ⟨a, rfl, ha⟩ := dt_nats h1
    refine ⟨a, _, rfl, sq_of (e _ _ ha), by rw [List.length_map]; exact hl, fun ns' p hp' hs' hn => ?_⟩
    have e2 : ns' = s.map fun (x : Nat) => (x : Int) := by
      refine sorted_one (hp'.trans (hp.map _).symm) hs' ?_
      rw [List.pairwise_map]
      exact hs.imp fun h => by omega
    rw [e2]
    have g := Grow.new (o := .lst ((s.map fun (x : Nat) => (x : Int)).map V.int)) e hn
    refine q _ _ _ g ?_
    rw [dNats_ints]
    exact .lst upd_same (DtAll.ofInts _)
/-- list(range(n)) -/
theorem ed_lrange {n : Nat} (h : EvD ta σ B (dNat n)) (hn : n ≤ 100000) : EvD (tLstRg (tRg1 ta)) σ B (dNats (List.range n)) := fun H1 e Q q => h H1 e _ fun v B2 H2 g2 hv => by
  cases hv
  refine ⟨(n : Int), rfl, RgOk.of_le (by omega) (by omega) (by omega) (by omega), fun p hp => ?_⟩
  have g := Grow.new (o := .lst (rgV 0 (n : Int))) g2.sub hp
  refine q _ _ _ (g2.trans g) ?_
  rw [dNats_ints]
  have e1 : rgV 0 (n : Int) = ((List.range n).map fun (x : Nat) => (x : Int)).map V.int := by
    unfold rgV
    rw [List.map_map, show ((n : Int) - 0).toNat = n by omega]
    apply List.map_congr_left
    intro i _
    show V.int (0 + (i : Int)) = V.int (i : Int)
    rw [Int.zero_add]
  rw [e1]
  exact .lst upd_same (DtAll.ofInts _)
/-- == and != of lists of numbers -/
theorem eqv_nats : ∀ (a b : List Nat), PyData.eqvAll (a.map dNat) (b.map dNat) = decide (a = b)
  | [], [] => by rfl
  | [], _ :: _ => by rfl
  | _ :: _, [] => by rfl
  | x :: a, y :: b => by
    show (((x : Int) == (y : Int)) && PyData.eqvAll (a.map dNat) (b.map dNat)) = _
    rw [eqv_nats a b, Bool.eq_iff_iff, Bool.and_eq_true, beq_iff_eq, decide_eq_true_iff, decide_eq_true_iff, List.cons.injEq]
    constructor
    · rintro ⟨h1, h2⟩
      exact ⟨by omega, h2⟩
    · rintro ⟨h1, h2⟩
      exact ⟨by omega, h2⟩
theorem canLay_nats : ∀ (l : List Nat), PyData.canLayAll0 (l.map dNat) = true
  | [] => rfl
  | x :: l => canLay_nats l
theorem depth_nats : ∀ (l : List Nat), PyData.depthAll (l.map dNat) = 0
  | [] => rfl
  | x :: l => by
    show max 0 (PyData.depthAll (l.map dNat)) = 0
    rw [depth_nats l]
    rfl
theorem shaped_nats (l : List Nat) : SeqAt.shaped (dNats l) = true := by
  unfold SeqAt.shaped
  rw [Bool.and_eq_true]
  refine ⟨canLay_nats l, decide_eq_true ?_⟩
  show PyData.depthAll (l.map dNat) + 1 ≤ 64
  rw [depth_nats]
  decide
theorem rd_eqL {a b : List Nat} : RD (rEqD K) (dNats a) (dNats b) (.bool (decide (a = b))) := fun B H1 e x y hx hy Q k => by
  refine ⟨dNats a, dNats b, (hx.ex e).dp, (hy.ex e).dp, shaped_nats a, shaped_nats b, ?_⟩
  show Q (.bl (PyData.eqvAll (a.map dNat) (b.map dNat))) H1
  rw [eqv_nats]
  exact k _ B H1 (.refl e) (.bl _)
theorem rd_neL {a b : List Nat} : RD (rNeD K) (dNats a) (dNats b) (.bool (!decide (a = b))) := fun B H1 e x y hx hy Q k => by
  refine ⟨dNats a, dNats b, (hx.ex e).dp, (hy.ex e).dp, shaped_nats a, shaped_nats b, ?_⟩
  show Q (.bl (!PyData.eqvAll (a.map dNat) (b.map dNat))) H1
  rw [eqv_nats]
  exact k _ B H1 (.refl e) (.bl _)
end
end Oa

set_option Elab.async false
set_option linter.all false
set_option maxRecDepth 100000
set_option maxHeartbeats 2000000
/-! heard_table: the table, changed in place. -/
namespace Oa
open PySem PySem.Spec PyProof.Rows L2 Evl

def bRow (n : Nat) (f : Nat → Bool) : List V := (List.range n).map fun j => V.bl (f j)
/-- a table of the def's own: its rows at rs, all of them new since H -/
structure TabH (H : Hp) (p : Addr) (rs : List Addr) (n : Nat) (f : Nat → Nat → Bool) (H' : Hp) : Prop where
  ex : Ex H H'
  len : rs.length = n
  nd : rs.Nodup
  np : p ∉ rs
  fp : H p = none
  fr : ∀ r ∈ rs, H r = none
  at_p : H' p = some (.lst (rs.map V.ref))
  at_r : ∀ i r, rs[i]? = some r → H' r = some (.lst (bRow n (f i)))
theorem TabH.congr {H H' : Hp} {p : Addr} {rs : List Addr} {n : Nat} {f g : Nat → Nat → Bool} (t : TabH H p rs n f H') (h : ∀ i j, i < n → j < n → f i j = g i j) : TabH H p rs n g H' := by
  refine { t with at_r := fun i r hr => ?_ }
  have hi : i < n := by rw [← t.len]; exact (List.getElem?_eq_some_iff.mp hr).1
  rw [t.at_r i r hr]
  unfold bRow
  rw [List.map_congr_left fun j hj => by rw [h i j hi (List.mem_range.mp hj)]]
theorem TabH.wide {H H' H2 : Hp} {p : Addr} {rs : List Addr} {n : Nat} {f : Nat → Nat → Bool} (t : TabH H p rs n f H') (e : Ex H' H2) : TabH H p rs n f H2 :=
  { t with ex := t.ex.trans e, at_p := e _ _ t.at_p, at_r := fun i r hr => e _ _ (t.at_r i r hr) }
theorem TabH.row {H H' : Hp} {p : Addr} {rs : List Addr} {n : Nat} {f : Nat → Nat → Bool} (t : TabH H p rs n f H') {i : Nat} (hi : i < n) : ∃ r, rs[i]? = some r ∧ r ∈ rs ∧ H' r = some (.lst (bRow n (f i))) := by
  have h : i < rs.length := by rw [t.len]; exact hi
  exact ⟨rs[i], List.getElem?_eq_getElem h, List.getElem_mem h, t.at_r i _ (List.getElem?_eq_getElem h)⟩
theorem nd_at {rs : List Addr} (nd : rs.Nodup) {i j : Nat} {r : Addr} (h1 : rs[i]? = some r) (h2 : rs[j]? = some r) : i = j := nd_ix nd h1 h2
/-- one place set -/
def put (f : Nat → Nat → Bool) (i j : Nat) (a b : Nat) : Bool := if a = i ∧ b = j then true else f a b
theorem bRow_set {n : Nat} {f : Nat → Nat → Bool} {i j : Nat} (hj : j < n) : (bRow n (f i)).set j (.bl true) = bRow n (put f i j i) := by
  unfold bRow
  apply List.ext_getElem (by simp)
  intro k h1 h2
  rw [List.getElem_set]
  simp only [List.getElem_map, List.getElem_range]
  unfold put
  by_cases hk : j = k
  · rw [if_pos hk, if_pos ⟨rfl, hk.symm⟩]
  · rw [if_neg hk, if_neg fun q => hk q.2.symm]
theorem TabH.set {H H' : Hp} {p : Addr} {rs : List Addr} {n : Nat} {f : Nat → Nat → Bool} (t : TabH H p rs n f H') {i j : Nat} {r : Addr} (hr : rs[i]? = some r) (hj : j < n) : TabH H p rs n (put f i j) (upd H' r (.lst ((bRow n (f i)).set j (.bl true)))) := by
  have hm : r ∈ rs := List.mem_of_getElem? hr
  have hpr : p ≠ r := fun q => t.np (q ▸ hm)
  refine { t with ex := Ex.mut t.ex (t.fr r hm), at_p := by rw [upd_ne hpr]; exact t.at_p, at_r := fun k q hq => ?_ }
  by_cases hk : q = r
  · subst hk
    have := nd_at t.nd hq hr
    subst this
    rw [upd_same, bRow_set hj]
  · rw [upd_ne hk, t.at_r k q hq]
    have hki : k ≠ i := fun z => by
      subst z
      rw [hr] at hq
      exact hk (Option.some.inj hq).symm
    have hc : ∀ b ∈ List.range n, V.bl (f k b) = V.bl (put f i j k b) := fun b _ => by
      unfold put
      rw [if_neg fun q => hki q.1]
    unfold bRow
    rw [List.map_congr_left hc]
/-- what is read is a datum -/
theorem bRow_dt {B : Hp} {n : Nat} {f : Nat → Bool} : ∀ (l : List Nat), DtAll B (l.map fun j => V.bl (f j)) (l.map fun j => PyData.bool (f j))
  | [] => .nil
  | _ :: l => .cons (.bl _) (bRow_dt (n := n) l)
theorem TabH.done {B H H' : Hp} {p : Addr} {rs : List Addr} {n : Nat} {f : Nat → Nat → Bool} (t : TabH H p rs n f H') (e : Ex B H) : ∃ B2, Grow B H B2 H' ∧ Dt B2 (.ref p) (dTab n f) := by
  refine ⟨fun b => if b = p ∨ b ∈ rs then H' b else B b, ⟨t.ex, fun b o h => ?_, fun b o h => ?_, fun b h q => ?_⟩, ?_⟩
  · have hb : ¬ (b = p ∨ b ∈ rs) := fun q => by
      rcases q with q | q
      · rw [q, fresh_back e t.fp] at h; cases h
      · rw [fresh_back e (t.fr b q)] at h; cases h
    show (if b = p ∨ b ∈ rs then H' b else B b) = some o
    rw [if_neg hb]
    exact h
  · have h : (if b = p ∨ b ∈ rs then H' b else B b) = some o := h
    split at h
    · exact h
    · exact t.ex b o (e b o h)
  · have hb : ¬ (b = p ∨ b ∈ rs) := fun z => by
      rcases z with z | z
      · exact q (z ▸ t.fp)
      · exact q (t.fr b z)
    show (if b = p ∨ b ∈ rs then H' b else B b) = none
    rw [if_neg hb]
    exact h
  · refine .lst (xs := rs.map V.ref) (by show (if p = p ∨ p ∈ rs then H' p else B p) = _; rw [if_pos (Or.inl rfl)]; exact t.at_p) ?_
    have key : ∀ (l : List Addr) (k : Nat), (∀ i r, l[i]? = some r → r ∈ rs ∧ H' r = some (.lst (bRow n (f (k + i))))) → DtAll (fun b => if b = p ∨ b ∈ rs then H' b else B b) (l.map V.ref) ((List.range' k l.length).map fun i => dRow n (f i)) := by
      intro l
      induction l with
      | nil => intro k _; exact .nil
      | cons a l ih =>
        intro k h
        obtain ⟨h1, h2⟩ := h 0 a rfl
        rw [List.length_cons, List.range'_succ, List.map_cons, List.map_cons]
        refine .cons (.lst (xs := bRow n (f k)) ?_ (bRow_dt (n := n) _)) (ih (k + 1) fun i r hr => ?_)
        · show (if a = p ∨ a ∈ rs then H' a else B a) = _
          rw [if_pos (Or.inr h1)]
          exact h2
        · have := h (i + 1) r hr
          rw [show k + (i + 1) = k + 1 + i by omega] at this
          exact this
    have h := key rs 0 fun i r hr => ⟨List.mem_of_getElem? hr, by rw [Nat.zero_add]; exact t.at_r i r hr⟩
    rw [t.len, ← List.range_eq_range'] at h
    exact h
section
variable {K : PySem.W.Frag} {σ : L2.St} {H H' : Hp} {p : Addr} {rs : List Addr} {n : Nat} {f : Nat → Nat → Bool} {D : Ends} {ti tj : TE}
/-- a place read -/
theorem tab_read (t : TabH H p rs n f H') {s i j : Nat} (hs : σ[s]? = some (some (.ref p))) {a b : Nat} (ha : σ[a]? = some (some (.int (i : Int)))) (hb : σ[b]? = some (some (.int (j : Int)))) (hi : i < n) (hj : j < n) {Q : VK} (q : Q (.bl (f i j)) H') :
    tOp (rIxL K) (tOp (rIxL K) (tVar s) (tVar a)) (tVar b) σ H' Q := by
  obtain ⟨r, hr, hm, hr'⟩ := t.row hi
  refine ⟨_, hs, _, ha, p, _, (i : Int), .ref r, rfl, rfl, sq_of t.at_p, ?_, _, hb, r, _, (j : Int), _, rfl, rfl, sq_of hr', ?_, q⟩
  · unfold atI
    rw [ixN_nat (by rw [List.length_map, t.len]; exact hi)]
    show (rs.map V.ref)[i]? = _
    rw [List.getElem?_map, hr]
    rfl
  · unfold atI
    rw [ixN_nat (by unfold bRow; rw [List.length_map, List.length_range]; exact hj)]
    exact getElem?_rangeMap _ hj
/-- a place set -/
theorem tab_put (t : TabH H p rs n f H') {s i j : Nat} (hs : σ[s]? = some (some (.ref p))) {a b : Nat} (ha : σ[a]? = some (some (.int (i : Int)))) (hb : σ[b]? = some (some (.int (j : Int)))) (hi : i < n) (hj : j < n)
    (k : ∀ H2, TabH H p rs n (put f i j) H2 → (∀ A, Ex A H' → (∀ r ∈ rs, A r = none) → Ex A H2) → D.nx σ H2) : tAsg (tC (.bl true)) (gSub (tOp (rIxL K) (tVar s) (tVar a)) (tVar b) rSetL) D σ H' := by
  obtain ⟨r, hr, hm, hr'⟩ := t.row hi
  refine ⟨_, hs, _, ha, p, _, (i : Int), .ref r, rfl, rfl, sq_of t.at_p, ?_, _, hb, r, _, (j : Int), j, rfl, rfl, hr', ixN_nat (by unfold bRow; rw [List.length_map, List.length_range]; exact hj), k _ (t.set hr hj) fun A eA hA => Ex.mut eA (hA r hm)⟩
  unfold atI
  rw [ixN_nat (by rw [List.length_map, t.len]; exact hi)]
  show (rs.map V.ref)[i]? = _
  rw [List.getElem?_map, hr]
  rfl
end
/-- a round, done as far as to the place i, j -/
def part (F : Nat → Nat → Bool) (m i j a b : Nat) : Bool := if a < i ∨ (a = i ∧ b < j) then F a b || (F a m && F m b) else F a b
theorem part_col {F : Nat → Nat → Bool} {m i j a : Nat} : part F m i j a m = F a m := by
  unfold part
  split
  · cases F a m <;> simp
  · rfl
theorem part_row {F : Nat → Nat → Bool} {m i j b : Nat} : part F m i j m b = F m b := by
  unfold part
  split
  · cases F m b <;> simp
  · rfl
theorem part_yes {F : Nat → Nat → Bool} {m i j : Nat} (h : (F i m && F m j) = true) (a b : Nat) : put (part F m i j) i j a b = part F m i (j + 1) a b := by
  unfold put part
  by_cases h1 : a = i ∧ b = j
  · obtain ⟨rfl, rfl⟩ := h1
    rw [if_pos ⟨rfl, rfl⟩, if_pos (Or.inr ⟨rfl, by omega⟩), h, Bool.or_true]
  · rw [if_neg h1]
    by_cases h2 : a < i ∨ (a = i ∧ b < j)
    · rw [if_pos h2, if_pos (by omega)]
    · rw [if_neg h2, if_neg (by omega)]
theorem part_no {F : Nat → Nat → Bool} {m i j : Nat} (h : (F i m && F m j) = false) (a b : Nat) : part F m i j a b = part F m i (j + 1) a b := by
  unfold part
  by_cases h1 : a = i ∧ b = j
  · obtain ⟨rfl, rfl⟩ := h1
    rw [if_neg (by omega), if_pos (Or.inr ⟨rfl, by omega⟩), h, Bool.or_false]
  · by_cases h2 : a < i ∨ (a = i ∧ b < j)
    · rw [if_pos h2, if_pos (by omega)]
    · rw [if_neg h2, if_neg (by omega)]
section
variable {K : PySem.W.Frag} {C : Addr}
/-- heard_table -/
def prTable (ds : List PyData) (d : PyData) : Prop := ∃ (w : Kv416.Now), ds = [dNat w.n, dPairs w.told] ∧ w.n ≤ 6 ∧ w.told.length ≤ 1000 ∧ Inside w ∧ d = dTab w.n (Kv416.at_ w.table)
theorem new_rows {H : Hp} {σ : L2.St} {n j : Nat} {vs : List Nat} {Q : VK} (hn : n ≤ 6) (h0 : σ[0]? = some (some (.int (n : Int)))) (hw : ∀ x, wipe ((wipe σ vs).set j (some x)) vs = wipe σ vs) (hs0 : ∀ x, ((wipe σ vs).set j (some x))[0]? = some (some (.int (n : Int))))
    (k : ∀ p rs H2, TabH H p rs n (fun _ _ => false) H2 → Q (.ref p) H2) :
    tLc (iRng1 (tCons (tVar 0) tNil)) (gName j) tYes (tOp rRep (tLst (tCons (tC (.bl false)) tNil)) (tVar 0)) vs σ H Q := by
  refine ⟨_, h0, (n : Int), rfl, by omega, by omega, fun Dl hD => lc_range (lo := 0) (n := (n : Int).toNat) (fun i H' => ∃ rs : List Addr, rs.length = i ∧ rs.Nodup ∧ Dl ∉ rs ∧ (∀ r ∈ rs, H r = none) ∧ Ex H H' ∧ H' Dl = some (.lst (rs.map V.ref)) ∧ ∀ r ∈ rs, H' r = some (.lst (bRow n fun _ => false)))
    ⟨[], rfl, List.nodup_nil, by simp, by simp, Ex.new hD, upd_same, by simp⟩ (fun i H' hi p => ?_) (fun H' p => ?_)⟩
  · obtain ⟨rs, hl, nd, np, fr, ex, hp, hr⟩ := p
    refine ⟨hw _, ?_⟩
    show tOp rRep (tLst (tCons (tC (.bl false)) tNil)) (tVar 0) _ H' _
    refine ⟨by show 1 ≤ sizeLine; decide, fun q hq => ⟨_, hs0 _, q, (n : Int), _, rfl, rfl, upd_same, by omega, by omega, ?_, fun r hr' => ?_⟩⟩
    · show 1 * (n : Int).toNat ≤ sizeLine
      exact sz_of (by omega)
    · have hqr : q ≠ r := fun z => by rw [z, upd_same] at hr'; cases hr'
      have hrH : H' r = none := by rw [upd_ne (fun z => hqr z.symm)] at hr'; exact hr'
      have hDq : Dl ≠ q := ne_of_none hp hq
      have hDr : Dl ≠ r := ne_of_none hp hrH
      have hrow : (List.replicate (n : Int).toNat [V.bl false]).flatten = bRow n fun _ => false := by
        unfold bRow
        rw [Int.toNat_natCast, List.map_const', List.length_range, List.flatten_replicate_singleton]
      rw [hrow]
      refine ⟨rs.map V.ref, by rw [upd_ne hDr, upd_ne hDq]; exact hp, by rw [List.length_map]; exact sz_lt (by omega), rs ++ [r], by rw [List.length_append, hl]; rfl, ?_, ?_, ?_, ?_, ?_, ?_⟩
      · rw [List.nodup_append]
        refine ⟨nd, by simp, fun x hx y hy z => ?_⟩
        cases List.mem_singleton.mp hy
        subst z
        rw [hr x hx] at hrH
        cases hrH
      · rw [List.mem_append, List.mem_singleton]
        exact fun z => z.elim np hDr
      · intro x hx
        rcases List.mem_append.mp hx with hx | hx
        · exact fr x hx
        · rw [List.mem_singleton.mp hx]
          exact fresh_back ex hrH
      · exact Ex.mut (Ex.mut (Ex.mut ex (fresh_back ex hq)) (fresh_back ex hrH)) hD
      · rw [upd_same, List.map_append]
        rfl
      · intro x hx
        rcases List.mem_append.mp hx with hx | hx
        · have h1 : x ≠ Dl := fun z => np (z ▸ hx)
          have h2 : x ≠ r := ne_of_none (hr x hx) hrH
          have h3 : x ≠ q := ne_of_none (hr x hx) hq
          rw [upd_ne h1, upd_ne h2, upd_ne h3]
          exact hr x hx
        · rw [List.mem_singleton.mp hx, upd_ne (fun z => hDr z.symm), upd_same]
  · rw [Int.toNat_natCast] at p
    obtain ⟨rs, hl, nd, np, fr, ex, hp, hr⟩ := p
    exact k Dl rs H' ⟨ex, hl, nd, np, hD, fr, hp, fun i r h => hr r (List.mem_of_getElem? h)⟩
theorem qd_rows {H : Hp} {σ : L2.St} {n j i0 : Nat} {vs : List Nat} {D : Ends} {tz : TS} (hn : n ≤ 6) (h0 : σ[0]? = some (some (.int (n : Int)))) (hw : ∀ x, wipe ((wipe σ vs).set j (some x)) vs = wipe σ vs) (hs0 : ∀ x, ((wipe σ vs).set j (some x))[0]? = some (some (.int (n : Int))))
    (k : ∀ p rs H2, TabH H p rs n (fun _ _ => false) H2 → tz D (σ.set i0 (some (.ref p))) H2) :
    tSeq (tAsg (tLc (iRng1 (tCons (tVar 0) tNil)) (gName j) tYes (tOp rRep (tLst (tCons (tC (.bl false)) tNil)) (tVar 0)) vs) (gName i0)) tz D σ H :=
  new_rows (Q := fun x H1 => gName i0 x σ H1 (tz D)) hn h0 hw hs0 k
theorem pu_table (vs : List V) (H : Hp) (Q : VK) (E : XK) (h : prm prTable vs H Q E) : t_heard_table K C { nx := fun _ H' => Q .non H', rt := Q } (start n_heard_table vs) H := by
  obtain ⟨B, ds, d, e, hv, ⟨w, rfl, hn, hl, ins, rfl⟩, k⟩ := h
  obtain _ | ⟨h1, _ | ⟨h2, _ | _⟩⟩ := hv
  cases h1
  rename_i v2
  refine qd_rows hn rfl (fun x => wipe1 x) (fun x => rfl) fun p rs H1 t1 => ?_
  show tSeq _ _ _ [some (.int (w.n : Int)), some v2, some (.ref p), none, none, none, none] H1
  refine qd_forL (B := B) (ed_var rfl h2) (e.trans t1.ex) fun B2 H2 g2 => ⟨fun i σ' H' => ∃ x y, σ' = [some (.int (w.n : Int)), some v2, some (.ref p), x, y, none, none] ∧ Ex B2 H' ∧ TabH H p rs w.n (fun a b => (w.told.take i).contains (a, b)) H',
    ⟨none, none, rfl, g2.sub, (t1.wide g2.ex).congr fun _ _ _ _ => rfl⟩, fun i σ' H' ⟨_, _, _, q, _⟩ => q, ?_, ?_⟩
  · rintro i d v σ' H' hi hv ⟨x, y, rfl, ex1, t2⟩
    obtain ⟨q, hq, hqi, rfl⟩ := at_some hi
    have hin := ins q hq
    refine gd_pair hv ex1 fun w1 w2 hw1 hw2 => ?_
    cases hw1
    cases hw2
    refine tab_put (σ := [some (.int (w.n : Int)), some v2, some (.ref p), some (.int (q.1 : Int)), some (.int (q.2 : Int)), none, none]) t2 rfl rfl rfl hin.1 hin.2 fun H3 t3 e3 => ?_
    refine ⟨_, _, rfl, e3 B2 ex1 fun r hr => ?_, t3.congr fun a b _ _ => ?_⟩
    · obtain ⟨i', hi'⟩ := List.getElem?_of_mem hr
      exact g2.out r (fresh_back e (t1.fr r hr)) (by rw [t1.at_r i' r hi']; simp)
    · show put _ q.1 q.2 a b = (w.told.take (i + 1)).contains (a, b)
      rw [take_snoc hqi]
      unfold put
      rw [Bool.eq_iff_iff]
      simp only [List.contains_iff_mem, List.mem_append, List.mem_singleton]
      split
      · rename_i h
        obtain ⟨rfl, rfl⟩ := h
        simp
      · rename_i h
        constructor
        · intro h1
          exact Or.inl (List.contains_iff_mem.mp h1)
        · intro h1
          rcases h1 with h1 | h1
          · exact List.contains_iff_mem.mpr h1
          · rw [← h1] at h
            exact absurd ⟨rfl, rfl⟩ h
  · rintro σ' H' ⟨x, y, rfl, ex1, t2⟩
    rw [List.length_map, List.take_length] at t2
    have t2 : TabH H p rs w.n (Kv416.at_ (rounds w 0)) H' := t2.congr fun a b ha hb => by
      show w.told.contains (a, b) = Kv416.at_ (tab w.n w.direct) a b
      rw [tab_at ha hb]
      rfl
    refine qd_forR1 (B := B) (ea_cons (ed_var rfl (.int (w.n : Int))) ea_nil) (by omega) (g2.base.trans ex1)
      (fun m σ' H' => ∃ x y z, σ' = [some (.int (w.n : Int)), some v2, some (.ref p), x, y, z, none] ∧ TabH H p rs w.n (Kv416.at_ (rounds w m)) H')
      (fun B3 H3 g3 => ⟨x, y, none, rfl, t2.wide g3.ex⟩) ?_ ?_
    · rintro m σ' H' hm ⟨x, y, z, rfl, t3⟩
      refine sd_forR1 (B := B) (ea_cons (ed_var rfl (.int (w.n : Int))) ea_nil) (by omega) (e.trans t3.ex)
        (fun i σ' H' => ∃ x y, σ' = [some (.int (w.n : Int)), some v2, some (.ref p), x, y, some (.int (m : Int)), none] ∧ TabH H p rs w.n (part (Kv416.at_ (rounds w m)) m i 0) H')
        (fun B3 H3 g3 => ⟨x, y, rfl, (t3.wide g3.ex).congr fun a b _ _ => by unfold part; rw [if_neg (by omega)]⟩) ?_ ?_
      · rintro i σ' H' hi ⟨x, y, rfl, t4⟩
        refine sd_forR1 (B := B) (ea_cons (ed_var rfl (.int (w.n : Int))) ea_nil) (by omega) (e.trans t4.ex)
          (fun j σ' H' => ∃ y, σ' = [some (.int (w.n : Int)), some v2, some (.ref p), some (.int (i : Int)), y, some (.int (m : Int)), none] ∧ TabH H p rs w.n (part (Kv416.at_ (rounds w m)) m i j) H')
          (fun B3 H3 g3 => ⟨y, rfl, t4.wide g3.ex⟩) ?_ ?_
        · rintro j σ' H' hj ⟨y, rfl, t5⟩
          show tIfS _ _ _ _ [some (.int (w.n : Int)), some v2, some (.ref p), some (.int (i : Int)), some (.int (j : Int)), some (.int (m : Int)), none] H'
          refine tab_read t5 rfl rfl rfl hi hm ⟨_, rfl, ?_⟩
          rw [part_col]
          cases c1 : Kv416.at_ (rounds w m) i m with
          | false =>
            refine ⟨some (.int (j : Int)), rfl, t5.congr fun a b _ _ => part_no (by rw [c1]; rfl) a b⟩
          | true =>
            refine tab_read t5 rfl rfl rfl hm hj ⟨_, rfl, ?_⟩
            rw [part_row]
            cases c2 : Kv416.at_ (rounds w m) m j with
            | false => exact ⟨some (.int (j : Int)), rfl, t5.congr fun a b _ _ => part_no (by rw [c1, c2]; rfl) a b⟩
            | true =>
              refine tab_put t5 rfl rfl rfl hi hj fun H6 t6 _ => ⟨some (.int (j : Int)), rfl, t6.congr fun a b _ _ => part_yes (by rw [c1, c2]; rfl) a b⟩
        · rintro σ' H' ⟨y, rfl, t5⟩
          refine ⟨some (.int (i : Int)), y, rfl, t5.congr fun a b _ hb => ?_⟩
          unfold part
          by_cases h : a < i ∨ (a = i ∧ b < w.n)
          · rw [if_pos h, if_pos (by omega)]
          · rw [if_neg h, if_neg (by omega)]
      · rintro σ' H' ⟨x, y, rfl, t4⟩
        refine ⟨x, y, some (.int (m : Int)), rfl, t4.congr fun a b ha _ => ?_⟩
        rw [rounds_succ, via_at (rounds_sq w m)]
        unfold part
        rw [if_pos (Or.inl ha)]
    · rintro σ' H' ⟨x, y, z, rfl, t3⟩
      obtain ⟨B3, g3, hd⟩ := t3.done e
      exact ⟨_, rfl, k _ B3 H' g3 hd⟩
end
end Oa

set_option Elab.async false
set_option linter.all false
set_option maxRecDepth 100000
set_option maxHeartbeats 2000000
/-! The object: what it holds, how it is read, how it is changed. -/
namespace Oa
open PySem PySem.Spec PyProof.Rows L2 Evl

def dNow (w : Kv416.Now) : PyData := .tuple [dNat w.n, dPairs w.told]
/-- what can be taken back, the oldest first -/
def dHist (l : List Kv416.Now) : PyData := .list (l.reverse.map dNow)
def dAns (a : Kv416.Ans) : PyData := dInts (Kv416Neutral.row a)
def recF (n tv ev : V) : List (Str × V) := [("size", n), ("told_pairs", tv), ("earlier", ev)]
theorem fl_here {k : Str} {v : V} {r : List (Str × V)} : List.lookup k ((k, v) :: r) = some v := by
  have e : (k == k) = true := beq_self_eq_true k
  simp only [List.lookup, e]
theorem fl_past {k g : Str} {v : V} {r : List (Str × V)} (h : (k == g) = false) : List.lookup k ((g, v) :: r) = List.lookup k r := by
  simp only [List.lookup, h]
theorem recF_size (n tv ev : V) : (recF n tv ev).lookup ("size" : Str) = some n := fl_here
theorem recF_told (n tv ev : V) : (recF n tv ev).lookup ("told_pairs" : Str) = some tv := (fl_past (by decide +kernel)).trans fl_here
theorem recF_earlier (n tv ev : V) : (recF n tv ev).lookup ("earlier" : Str) = some ev := (fl_past (by decide +kernel)).trans ((fl_past (by decide +kernel)).trans fl_here)
theorem recF_no {n tv ev : V} {m : Str} (h1 : (m == ("size" : Str)) = false) (h2 : (m == ("told_pairs" : Str)) = false) (h3 : (m == ("earlier" : Str)) = false) : (recF n tv ev).lookup m = none :=
  (fl_past h1).trans ((fl_past h2).trans ((fl_past h3).trans rfl))
theorem put_size (n tv ev x : V) : putF "size" x (recF n tv ev) = recF x tv ev := if_pos rfl
theorem put_told (n tv ev x : V) : putF "told_pairs" x (recF n tv ev) = recF n x ev := (if_neg (by decide +kernel)).trans (congrArg _ (if_pos rfl))
theorem put_earlier (n tv ev x : V) : putF "earlier" x (recF n tv ev) = recF n tv x := (if_neg (by decide +kernel)).trans (congrArg _ ((if_neg (by decide +kernel)).trans (congrArg _ (if_pos rfl))))
theorem put_new (a b c : V) : putF "earlier" c (putF "told_pairs" b (putF "size" a [])) = recF a b c := by
  have h1 : putF "told_pairs" b (putF "size" a []) = [(("size" : Str), a), ("told_pairs", b)] := if_neg (by decide +kernel)
  rw [h1]
  exact (if_neg (by decide +kernel)).trans (congrArg _ (if_neg (by decide +kernel)))

/-- the object at r holds m -/
structure RecAt (C : Addr) (B : Hp) (r : Addr) (m : Kv416.Abs) : Prop where
  ex : ∃ dx tv ev, B r = some (.ins C dx (recF (.int (m.now.n : Int)) tv ev)) ∧ Dt B tv (dPairs m.now.told) ∧ Dt B ev (dHist m.past)
theorem RecAt.mono {C : Addr} {B A : Hp} {r : Addr} {m : Kv416.Abs} (R : RecAt C B r m) (e : Ex B A) : RecAt C A r m := by
  obtain ⟨dx, tv, ev, h, h1, h2⟩ := R.ex
  exact ⟨dx, tv, ev, e _ _ h, h1.ex e, h2.ex e⟩
/-- the object at r was changed, all else stands -/
structure Mut (r : Addr) (B H B' H' : Hp) : Prop where
  ex : ∀ b o, b ≠ r → H b = some o → H' b = some o
  base : ∀ b o, b ≠ r → B b = some o → B' b = some o
  sub : Ex B' H'
  out : ∀ b, B b = none → H b ≠ none → B' b = none
theorem Grow.mut {r : Addr} {B H B' H' : Hp} (g : Grow B H B' H') : Mut r B H B' H' := ⟨fun b o _ h => g.ex b o h, fun b o _ h => g.base b o h, g.sub, g.out⟩
theorem Mut.refl {r : Addr} {B H : Hp} (e : Ex B H) : Mut r B H B H := (Grow.refl e).mut
theorem mut_ne {r : Addr} {H H' : Hp} (ex : ∀ b o, b ≠ r → H b = some o → H' b = some o) {b : Addr} (hb : b ≠ r) (h : H b ≠ none) : H' b ≠ none := by
  cases q : H b with
  | none => exact absurd q h
  | some o => rw [ex b o hb q]; simp
theorem Mut.after {r : Addr} {B H B1 H1 B2 H2 : Hp} (a : Mut r B H B1 H1) (g : Grow B1 H1 B2 H2) (hr : B r ≠ none) : Mut r B H B2 H2 :=
  ⟨fun b o hb h => g.ex b o (a.ex b o hb h), fun b o hb h => g.base b o (a.base b o hb h), g.sub, fun b h q => by
    have hb : b ≠ r := fun z => hr (z ▸ h)
    exact g.out b (a.out b h q) (mut_ne a.ex hb q)⟩
theorem Mut.ahead {r : Addr} {B H B1 H1 B2 H2 : Hp} (g : Grow B H B1 H1) (a : Mut r B1 H1 B2 H2) : Mut r B H B2 H2 :=
  ⟨fun b o hb h => a.ex b o hb (g.ex b o h), fun b o hb h => a.base b o hb (g.base b o h), a.sub, fun b h q => a.out b (g.out b h q) (ne_none g.ex q)⟩
mutual
theorem Dt.mut {r C dx : Addr} {fs : List (Str × V)} {B B' : Hp} (hr : B r = some (.ins C dx fs)) (e : ∀ b o, b ≠ r → B b = some o → B' b = some o) : ∀ {v : V} {d : PyData}, Dt B v d → Dt B' v d
  | _, _, .non => .non
  | _, _, .bl b => .bl b
  | _, _, .int i => .int i
  | _, _, .lst h q => .lst (e _ _ (ne_of h hr (by intro z; cases z)) h) (DtAll.mut hr e q)
  | _, _, .tup h q => .tup (e _ _ (ne_of h hr (by intro z; cases z)) h) (DtAll.mut hr e q)
theorem DtAll.mut {r C dx : Addr} {fs : List (Str × V)} {B B' : Hp} (hr : B r = some (.ins C dx fs)) (e : ∀ b o, b ≠ r → B b = some o → B' b = some o) : ∀ {vs : List V} {ds : List PyData}, DtAll B vs ds → DtAll B' vs ds
  | _, _, .nil => .nil
  | _, _, .cons h q => .cons (Dt.mut hr e h) (DtAll.mut hr e q)
end
/-- the fields stored anew -/
theorem mut_store {r C dx : Addr} {fs fs' : List (Str × V)} {B H : Hp} (hr : B r = some (.ins C dx fs)) (e : Ex B H) : Mut r B H (upd B r (.ins C dx fs')) (upd H r (.ins C dx fs')) := by
  refine ⟨fun b o hb h => by rw [upd_ne hb]; exact h, fun b o hb h => by rw [upd_ne hb]; exact h, fun b o h => ?_, fun b h q => ?_⟩
  · by_cases hb : b = r
    · subst hb
      rw [upd_same] at h ⊢
      exact h
    · rw [upd_ne hb] at h ⊢
      exact e b o h
  · have hb : b ≠ r := fun z => by rw [z, hr] at h; cases h
    rw [upd_ne hb]
    exact h

section
variable {K : PySem.W.Frag} {σ : L2.St} {B H : Hp} {C r : Addr} {m : Kv416.Abs} {te : TE} {D : Ends} {tz : TS}
theorem ed_size (cl : Cls K C) (nf : NoAttr K C "size") {i : Nat} (h : σ[i]? = some (some (.ref r))) (R : RecAt C B r m) : EvD (tFld K (tVar i) "size") σ B (dNat m.now.n) := fun H1 e Q q => by
  obtain ⟨dx, tv, ev, hr, h1, h2⟩ := R.ex
  exact ⟨_, h, r, C, dx, _, _, rfl, e _ _ hr, cl, nf, recF_size _ _ _, q _ B H1 (.refl e) (.int _)⟩
theorem ed_told (cl : Cls K C) (nf : NoAttr K C "told_pairs") {i : Nat} (h : σ[i]? = some (some (.ref r))) (R : RecAt C B r m) : EvD (tFld K (tVar i) "told_pairs") σ B (dPairs m.now.told) := fun H1 e Q q => by
  obtain ⟨dx, tv, ev, hr, h1, h2⟩ := R.ex
  exact ⟨_, h, r, C, dx, _, _, rfl, e _ _ hr, cl, nf, recF_told _ _ _, q _ B H1 (.refl e) h1⟩
theorem ed_earlier (cl : Cls K C) (nf : NoAttr K C "earlier") {i : Nat} (h : σ[i]? = some (some (.ref r))) (R : RecAt C B r m) : EvD (tFld K (tVar i) "earlier") σ B (dHist m.past) := fun H1 e Q q => by
  obtain ⟨dx, tv, ev, hr, h1, h2⟩ := R.ex
  exact ⟨_, h, r, C, dx, _, _, rfl, e _ _ hr, cl, nf, recF_earlier _ _ _, q _ B H1 (.refl e) h2⟩
/-- a promise of a def or method that reads the object -/
def prR (C : Addr) (pre : Kv416.Abs → List PyData → PyData → Prop) : Sp := fun vs H Q _ => ∃ B r m ws ds d, vs = .ref r :: ws ∧ Ex B H ∧ RecAt C B r m ∧ DtAll B ws ds ∧ pre m ds d ∧ ∀ v B2 H2, Grow B H B2 H2 → Dt B2 v d → Q v H2
theorem ed_meth {pre : Kv416.Abs → List PyData → PyData → Prop} {nm : Str} {E : XK} {ta : TA} {ds : List PyData} {d : PyData} {i : Nat} (h : σ[i]? = some (some (.ref r))) (R : RecAt C B r m) (hn : ∀ n tv ev, (recF n tv ev).lookup nm = none) (ha : EvDA ta σ B ds) (hp : pre m ds d) :
    EvD (tMeth C nm (prR C pre) [] E (tVar i) ta) σ B d := fun H1 e Q q => by
  obtain ⟨dx, tv, ev, hr, h1, h2⟩ := R.ex
  refine ⟨_, h, r, dx, _, rfl, e _ _ hr, hn _ _ _, ha H1 e _ fun vs B2 H2 g hv => ⟨B2, r, m, vs ++ [], ds, d, rfl, g.sub, R.mono g.base, by rw [List.append_nil]; exact hv, hp, fun v B3 H3 g3 hd => q v B3 H3 (g.trans g3) hd⟩⟩
theorem ed_callR {pre : Kv416.Abs → List PyData → PyData → Prop} {E : XK} {ta : TA} {ds : List PyData} {d : PyData} {i : Nat} (h : σ[i]? = some (some (.ref r))) (R : RecAt C B r m) (ha : EvDA ta σ B ds) (hp : pre m ds d) :
    EvD (tCall (prR C pre) [] E (tCons (tVar i) ta)) σ B d := fun H1 e Q q =>
  ⟨_, h, ha H1 e _ fun vs B2 H2 g hv => ⟨B2, r, m, vs ++ [], ds, d, rfl, g.sub, R.mono g.base, by rw [List.append_nil]; exact hv, hp, fun v B3 H3 g3 hd => q v B3 H3 (g.trans g3) hd⟩⟩
end
end Oa

set_option Elab.async false
set_option linter.all false
set_option maxRecDepth 100000
set_option maxHeartbeats 2000000
/-! The calls that look. -/
namespace Oa
open PySem PySem.Spec PyProof.Rows L2 Evl

theorem nodup_le {α : Type} [BEq α] [LawfulBEq α] : ∀ {l m : List α}, l.Nodup → (∀ x ∈ l, x ∈ m) → l.length ≤ m.length
  | [], _, _, _ => Nat.zero_le _
  | a :: l, m, n, h => by
    rw [List.nodup_cons] at n
    have ha := h a List.mem_cons_self
    have := nodup_le (l := l) (m := m.erase a) n.2 fun x hx => (List.mem_erase_of_ne (show x ≠ a from fun z => n.1 (by rw [← z]; exact hx))).mpr (h x (List.mem_cons_of_mem _ hx))
    rw [List.length_erase_of_mem ha] at this
    have hp : 0 < m.length := List.length_pos_of_mem ha
    show l.length + 1 ≤ m.length
    omega
theorem Good.few {a : Kv416.Now} (g : Good a) : a.told.length ≤ 36 := by
  have h := nodup_le (m := (List.range a.n).flatMap fun i => (List.range a.n).map fun j => (i, j)) g.nd fun p hp => by
    obtain ⟨h1, h2⟩ := g.ins p hp
    rw [List.mem_flatMap]
    exact ⟨p.1, List.mem_range.mpr h1, List.mem_map.mpr ⟨p.2, List.mem_range.mpr h2, rfl⟩⟩
  have hl : ((List.range a.n).flatMap fun i => (List.range a.n).map fun j => (i, j)).length = a.n * a.n := by
    rw [List.length_flatMap]
    simp only [List.length_map, List.length_range]
    rw [List.map_const', List.sum_replicate_nat, List.length_range]
  rw [hl] at h
  have := Nat.mul_le_mul g.hi g.hi
  omega
theorem pairsOf_eq (a : Kv416.Now) : a.pairsOf = pairsTo a.n (Kv416.at_ a.table) a.n := rfl
theorem dAns_nats (k : Nat) (l : List Nat) : dAns ⟨(k : Int), l⟩ = dNats (k :: l) := by
  unfold dAns dInts dNats Kv416Neutral.row Kv416Neutral.ints
  rw [List.map_cons, List.map_cons, List.map_map]
  rfl
theorem dAns_say (v : Int) : dAns (Kv416.say v) = .list [.int v] := rfl
theorem dAns_num (k : Nat) : dAns (Kv416.num k) = .list [dNat k] := rfl
theorem dAns_list (l : List Nat) : dAns (Kv416.list l) = .list (dNat l.length :: l.map dNat) := dAns_nats _ _
theorem dAns_flat (l : List (Nat × Nat)) : dAns (Kv416.flat l) = dNats (l.length :: l.flatMap fun q => [q.1, q.2]) := dAns_nats _ _

/-- what a look promises -/
def prLook (mk : List Nat → Kv416.Call) (k : Nat) (m : Kv416.Abs) (ds : List PyData) (d : PyData) : Prop := Fine m ∧ ∃ l : List Nat, l.length = k ∧ ds = l.map dNat ∧ d = dAns (m.does (mk l)).2
def prHas (m : Kv416.Abs) (ds : List PyData) (d : PyData) : Prop := ∃ i : Nat, ds = [dNat i] ∧ d = .bool (decide (i < m.now.n))
def prBegun (m : Kv416.Abs) (ds : List PyData) (d : PyData) : Prop := ds = [] ∧ d = .bool (decide (0 < m.now.n))
def prTab (m : Kv416.Abs) (ds : List PyData) (d : PyData) : Prop := ds = [] ∧ Good m.now ∧ d = dTab m.now.n (Kv416.at_ m.now.table)
theorem no_table (n tv ev : V) : (recF n tv ev).lookup ("table" : Str) = none := recF_no (by decide +kernel) (by decide +kernel) (by decide +kernel)
theorem no_has (n tv ev : V) : (recF n tv ev).lookup ("has_event" : Str) = none := recF_no (by decide +kernel) (by decide +kernel) (by decide +kernel)
theorem no_begun (n tv ev : V) : (recF n tv ev).lookup ("begun" : Str) = none := recF_no (by decide +kernel) (by decide +kernel) (by decide +kernel)
theorem no_start (n tv ev : V) : (recF n tv ev).lookup ("start" : Str) = none := recF_no (by decide +kernel) (by decide +kernel) (by decide +kernel)
theorem no_change (n tv ev : V) : (recF n tv ev).lookup ("change" : Str) = none := recF_no (by decide +kernel) (by decide +kernel) (by decide +kernel)
theorem no_bool {a : Kv416.Now} {i : Nat} : (!decide (i < a.n)) = a.no i := by
  unfold Kv416.Now.no
  by_cases h : i < a.n
  · rw [decide_eq_true h, decide_eq_false (by omega)]
    rfl
  · rw [decide_eq_false h, decide_eq_true (by omega)]
    rfl
theorem no_lt {a : Kv416.Now} {i : Nat} (h : a.no i = false) : i < a.n := Nat.lt_of_not_le fun z => by rw [no_iff.mpr z] at h; cases h
theorem eq_bool {i j : Nat} : decide ((i : Int) = (j : Int)) = (i == j) := by
  rw [Bool.eq_iff_iff, decide_eq_true_iff, beq_iff_eq]
  omega
theorem ed_one {σ : L2.St} {B : Hp} {v : Int} : EvD (tLst (tCons (tC (.int v)) tNil)) σ B (.list [.int v]) := ed_lst (ea_cons ed_int ea_nil) (by show 1 ≤ 100000; decide)
theorem len1 {l : List Nat} (h : l.length = 1) : ∃ i, l = [i] := match l, h with | [i], _ => ⟨i, rfl⟩
theorem len2 {l : List Nat} (h : l.length = 2) : ∃ i j, l = [i, j] := match l, h with | [i, j], _ => ⟨i, j, rfl⟩
theorem len0 {l : List Nat} (h : l.length = 0) : l = [] := List.eq_nil_of_length_eq_zero h
section
variable {K : PySem.W.Frag} {C : Addr} {mg : Str → Option Value} {a_WIDTHS : Addr}
theorem pu_begun (T : Txt K mg C a_WIDTHS) (vs : List V) (H : Hp) (Q : VK) (E : XK) (h : prR C prBegun vs H Q E) : t_Record_begun K C { nx := fun _ H' => Q .non H', rt := Q } (start n_Record_begun vs) H := by
  obtain ⟨B, r, m, ws, ds, d, rfl, e, R, hv, ⟨rfl, rfl⟩, k⟩ := h
  cases hv
  refine sd_ret (ed_is (ed_op (ed_size T.cl T.f_size rfl R) ed_int (rd_I0 (d := .bool (decide ((0 : Int) < (m.now.n : Int)))) fun B => .bl _)) ?_) e k
  congr 1
  exact decide_eq_decide.mpr (by omega)
theorem pu_has (T : Txt K mg C a_WIDTHS) (vs : List V) (H : Hp) (Q : VK) (E : XK) (h : prR C prHas vs H Q E) : t_Record_has_event K C { nx := fun _ H' => Q .non H', rt := Q } (start n_Record_has_event vs) H := by
  obtain ⟨B, r, m, ws, ds, d, rfl, e, R, hv, ⟨i, rfl, rfl⟩, k⟩ := h
  obtain _ | ⟨h1, _ | _⟩ := hv
  refine sd_ret (ed_is (ed_op (ed_var rfl h1) (ed_size T.cl T.f_size rfl R) (rd_I0 (d := .bool (decide ((i : Int) < (m.now.n : Int)))) fun B => .bl _)) ?_) e k
  congr 1
  exact decide_eq_decide.mpr (by omega)
theorem pu_tabM (T : Txt K mg C a_WIDTHS) (vs : List V) (H : Hp) (Q : VK) (E : XK) (h : prR C prTab vs H Q E) : t_Record_table K C (prm prTable) { nx := fun _ H' => Q .non H', rt := Q } (start n_Record_table vs) H := by
  obtain ⟨B, r, m, ws, ds, d, rfl, e, R, hv, ⟨rfl, g, rfl⟩, k⟩ := h
  cases hv
  have hf := g.few
  exact sd_ret (ed_call (ea_cons (ed_size T.cl T.f_size rfl R) (ea_cons (ed_told T.cl T.f_told_pairs rfl R) ea_nil)) ⟨m.now, rfl, g.hi, by omega, g.ins, rfl⟩) e k
theorem pu_told (T : Txt K mg C a_WIDTHS) (vs : List V) (H : Hp) (Q : VK) (E : XK) (h : prR C (prLook (fun _ => .told) 0) vs H Q E) : t_told K C (prm prCountedP) { nx := fun _ H' => Q .non H', rt := Q } (start n_told vs) H := by
  obtain ⟨B, r, m, ws, ds, d, rfl, e, R, hv, ⟨fi, l, hl, rfl, rfl⟩, k⟩ := h
  cases len0 hl
  cases hv
  have hf := fi.now.few
  exact sd_ret (ed_is (ed_call (ea_cons (ed_told T.cl T.f_told_pairs rfl R) ea_nil) ⟨m.now.told, rfl, by omega, rfl⟩) (dAns_flat _).symm) e k
theorem ed_table {σ : L2.St} {B : Hp} {r : Addr} {m : Kv416.Abs} {i : Nat} {E : XK} (h : σ[i]? = some (some (.ref r))) (R : RecAt C B r m) (fi : Fine m) : EvD (tMeth C "table" (prR C prTab) [] E (tVar i) tNil) σ B (dTab m.now.n (Kv416.at_ m.now.table)) :=
  ed_meth h R no_table ea_nil ⟨rfl, fi.now, rfl⟩
theorem eb_no {σ : L2.St} {B : Hp} {r : Addr} {m : Kv416.Abs} {i j : Nat} {x : Nat} {E : XK} (h : σ[i]? = some (some (.ref r))) (R : RecAt C B r m) (hx : σ[j]? = some (some (.int (x : Int)))) : EvB (tNot (tB (tMeth C "has_event" (prR C prHas) [] E (tVar i) (tCons (tVar j) tNil)))) σ B (m.now.no x) :=
  eb_is (eb_not (eb_B (ed_meth h R no_has (ea_cons (ed_var hx (.int _)) ea_nil) ⟨x, rfl, rfl⟩))) no_bool
theorem pu_pairsC (T : Txt K mg C a_WIDTHS) (vs : List V) (H : Hp) (Q : VK) (E : XK) (h : prR C (prLook (fun _ => .pairs) 0) vs H Q E) : t_pairs K C (prm prCountedP) (prm prPairs) (prR C prTab) { nx := fun _ H' => Q .non H', rt := Q } (start n_pairs vs) H := by
  obtain ⟨B, r, m, ws, ds, d, rfl, e, R, hv, ⟨fi, l, hl, rfl, rfl⟩, k⟩ := h
  cases len0 hl
  cases hv
  have hn := fi.now.hi
  have hp := pairsTo_len m.now.n (Kv416.at_ m.now.table) m.now.n
  have h36 := Nat.mul_le_mul hn hn
  exact sd_ret (ed_is (ed_call (ea_cons (ed_call (ea_cons (ed_table rfl R fi) ea_nil) ⟨_, _, rfl, hn, rfl⟩) ea_nil) ⟨_, rfl, by omega, rfl⟩) (dAns_flat _).symm) e k
theorem pu_linksC (T : Txt K mg C a_WIDTHS) (vs : List V) (H : Hp) (Q : VK) (E : XK) (h : prR C (prLook (fun _ => .links) 0) vs H Q E) : t_links K C (prm prCountedP) (prm prLinks) (prR C prTab) { nx := fun _ H' => Q .non H', rt := Q } (start n_links vs) H := by
  obtain ⟨B, r, m, ws, ds, d, rfl, e, R, hv, ⟨fi, l, hl, rfl, rfl⟩, k⟩ := h
  cases len0 hl
  cases hv
  have hn := fi.now.hi
  have hp := pairsTo_len m.now.n (Kv416.at_ m.now.table) m.now.n
  have h36 := Nat.mul_le_mul hn hn
  refine sd_ret (ed_is (ed_call (ea_cons (ed_call (ea_cons (ed_table rfl R fi) ea_nil) ⟨_, _, rfl, hn, rfl⟩) ea_nil) ⟨_, rfl, ?_, rfl⟩) (dAns_flat _).symm) e k
  refine Nat.le_trans (List.length_filter_le _ _) ?_
  omega
theorem pu_pastC (T : Txt K mg C a_WIDTHS) (vs : List V) (H : Hp) (Q : VK) (E : XK) (h : prR C (prLook (fun l => .past (l.headD 0)) 1) vs H Q E) : t_past K C (prm prCounted) (prm prPast) (prR C prHas) (prR C prTab) { nx := fun _ H' => Q .non H', rt := Q } (start n_past vs) H := by
  obtain ⟨B, r, m, ws, ds, d, rfl, e, R, hv, ⟨fi, l, hl, rfl, rfl⟩, k⟩ := h
  obtain ⟨i, rfl⟩ := len1 hl
  obtain _ | ⟨⟨_⟩, _ | _⟩ := hv
  have hn := fi.now.hi
  have hd : (m.does (.past i)).2 = if m.now.no i then Kv416.say (-2) else Kv416.list (m.now.all.filter fun j => m.now.heard j i) := by
    show (if m.now.no i then (m, Kv416.say (-2)) else (m, Kv416.list _)).2 = _
    split <;> rfl
  have k : ∀ v B2 H2, Grow B H B2 H2 → Dt B2 v (dAns (m.does (.past i)).2) → Q v H2 := k
  rw [hd] at k
  refine qd_when (eb_no rfl R rfl) e (fun hb B2 H2 g2 => ?_) (fun hb B2 H2 g2 => ?_)
  · rw [hb, if_pos rfl, dAns_say] at k
    exact sd_ret ed_one g2.sub fun v B3 H3 g3 hv => k v B3 H3 (g2.trans g3) hv
  · rw [hb, if_neg (by decide), dAns_list] at k
    have hi : i < m.now.n := Nat.lt_of_not_le fun z => by rw [no_iff.mpr z] at hb; cases hb
    refine sd_ret (ed_call (ea_cons (ed_call (ea_cons (ed_table rfl (R.mono g2.base) fi) (ea_cons (ed_var rfl (.int _)) ea_nil)) ⟨_, _, i, rfl, hn, hi, rfl⟩) ea_nil) ⟨_, rfl, ?_, rfl⟩) g2.sub fun v B3 H3 g3 hv => k v B3 H3 (g2.trans g3) ?_
    · rw [List.length_map]
      refine Nat.le_trans (List.length_filter_le _ _) ?_
      rw [List.length_range]
      omega
    · rw [List.length_map] at hv
      exact hv
theorem pu_heardC (T : Txt K mg C a_WIDTHS) (vs : List V) (H : Hp) (Q : VK) (E : XK) (h : prR C (prLook (fun l => .heard (l.getD 0 0) (l.getD 1 0)) 2) vs H Q E) : t_heard K C (prR C prHas) (prR C prTab) { nx := fun _ H' => Q .non H', rt := Q } (start n_heard vs) H := by
  obtain ⟨B, r, m, ws, ds, d, rfl, e, R, hv, ⟨fi, l, hl, rfl, rfl⟩, k⟩ := h
  obtain ⟨i, j, rfl⟩ := len2 hl
  obtain _ | ⟨⟨_⟩, _ | ⟨⟨_⟩, _ | _⟩⟩ := hv
  have hd : (m.does (.heard i j)).2 = if (m.now.no i || m.now.no j) = true then Kv416.say (-2) else Kv416.num (Kv416.bit (i == j || m.now.heard i j)) := by
    show (if m.now.no i ∨ m.now.no j then (m, Kv416.say (-2)) else (m, Kv416.num (Kv416.bit (i == j || m.now.heard i j)))).2 = _
    cases m.now.no i <;> cases m.now.no j <;> rfl
  have k : ∀ v B2 H2, Grow B H B2 H2 → Dt B2 v (dAns (m.does (.heard i j)).2) → Q v H2 := k
  rw [hd] at k
  refine qd_when (eb_or (eb_no rfl R rfl) fun _ => eb_no rfl R rfl) e (fun hb B2 H2 g2 => ?_) (fun hb B2 H2 g2 => ?_)
  · rw [hb, if_pos rfl, dAns_say] at k
    exact sd_ret ed_one g2.sub fun v B3 H3 g3 hv => k v B3 H3 (g2.trans g3) hv
  · rw [hb, if_neg (by decide), dAns_num] at k
    rw [Bool.or_eq_false_iff] at hb
    have hi : i < m.now.n := no_lt hb.1
    have hj : j < m.now.n := no_lt hb.2
    refine sd_ret (ed_lst (ea_cons (ed_is (ed_if (eb_or (eb_test (ed_op (ed_var rfl (.int _)) (ed_var rfl (.int _)) rd_eqI)) fun _ => eb_B (ed_cell (ed_table rfl (R.mono g2.base) fi) (ed_var rfl (.int _)) (ed_var rfl (.int _)) hi hj)) (d := dNat (Kv416.bit (i == j || m.now.heard i j))) (fun hc => ?_) (fun hc => ?_)) rfl) ea_nil) (by show 1 ≤ 100000; decide)) g2.sub fun v B3 H3 g3 hv => k v B3 H3 (g2.trans g3) hv
    · refine ed_is (ed_int (i := 1)) ?_
      rw [eq_bool] at hc
      unfold Kv416.Now.heard
      rw [hc]
      rfl
    · refine ed_is (ed_int (i := 0)) ?_
      rw [eq_bool] at hc
      unfold Kv416.Now.heard
      rw [hc]
      rfl
theorem ed_orders {σ : L2.St} {B : Hp} {te : TE} {m : Kv416.Abs} {E : XK} (fi : Fine m) (h : EvD te σ B (dTab m.now.n (Kv416.at_ m.now.table))) : EvD (tCall (prm prOrders) [] E (tCons te tNil)) σ B (dRows m.now.orders) :=
  ed_is (ed_call (ea_cons h ea_nil) ⟨_, _, rfl, fi.now.hi, rfl⟩) (by rw [grownF_grown, orders_grown fi.now])
theorem pu_ordersC (T : Txt K mg C a_WIDTHS) (vs : List V) (H : Hp) (Q : VK) (E : XK) (h : prR C (prLook (fun _ => .orders) 0) vs H Q E) : t_orders K C (prm prOrders) (prR C prTab) { nx := fun _ H' => Q .non H', rt := Q } (start n_orders vs) H := by
  obtain ⟨B, r, m, ws, ds, d, rfl, e, R, hv, ⟨fi, l, hl, rfl, rfl⟩, k⟩ := h
  cases len0 hl
  cases hv
  refine sd_ret (ed_is (ed_lst (ea_cons (ed_len (ed_orders fi (ed_table rfl R fi))) ea_nil) (by show 1 ≤ 100000; decide)) ?_) e k
  rw [List.length_map]
  rfl
theorem pu_orderC (T : Txt K mg C a_WIDTHS) (vs : List V) (H : Hp) (Q : VK) (E : XK) (h : prR C (prLook (fun l => .order (l.headD 0)) 1) vs H Q E) : t_order K C (prm prOrders) (prm prCounted) (prR C prTab) { nx := fun _ H' => Q .non H', rt := Q } (start n_order vs) H := by
  obtain ⟨B, r, m, ws, ds, d, rfl, e, R, hv, ⟨fi, l, hl, rfl, rfl⟩, k⟩ := h
  obtain ⟨i, rfl⟩ := len1 hl
  obtain _ | ⟨⟨_⟩, _ | _⟩ := hv
  have k : ∀ v B2 H2, Grow B H B2 H2 → Dt B2 v (dAns (m.does (.order i)).2) → Q v H2 := k
  have hd : (m.does (.order i)).2 = match m.now.orders[i]? with
    | none => Kv416.say (-2)
    | some o => Kv416.list o := by
    show (match m.now.orders[i]? with | none => (m, Kv416.say (-2)) | some o => (m, Kv416.list o)).2 = _
    split <;> rfl
  rw [hd] at k
  refine qd_asg (ed_orders fi (ed_table rfl R fi)) e fun v2 B2 H2 g2 h2 => ?_
  have hg : ∀ σ : L2.St, σ[1]? = some (some (.int (i : Int))) → σ[2]? = some (some v2) → EvB (tTest (tOp rGe (tVar 1) (tCB (rLenS K) (tCons (tVar 2) tNil)))) σ B2 (decide (m.now.orders.length ≤ i)) := fun σ h1 h3 =>
    eb_is (eb_test (ed_op (ed_var h1 (.int _)) (ed_len (ed_var h3 h2)) (rd_I0 (d := .bool (decide (((m.now.orders.map dNats).length : Int) ≤ (i : Int)))) fun B => .bl _))) (decide_eq_decide.mpr (by rw [List.length_map]; omega))
  refine qd_when (hg _ rfl rfl) g2.sub (fun hb B3 H3 g3 => ?_) (fun hb B3 H3 g3 => ?_)
  · have hb := of_decide_eq_true hb
    rw [List.getElem?_eq_none hb] at k
    exact sd_ret ed_one g3.sub fun v B4 H4 g4 hv => k v B4 H4 ((g2.trans g3).trans g4) hv
  · have hb : i < m.now.orders.length := Nat.lt_of_not_le (of_decide_eq_false hb)
    have ho : m.now.orders[i]? = some m.now.orders[i] := List.getElem?_eq_getElem hb
    rw [ho] at k
    have hp := (orders_perm (List.getElem_mem hb)).length_eq
    rw [List.length_range] at hp
    have hn := fi.now.hi
    refine sd_ret (ed_is (ed_call (ea_cons (ed_op (ed_var rfl (h2.ex g3.base)) (ed_var rfl (.int (i : Int))) (rd_ixL (d := dNats m.now.orders[i]) (by rw [List.getElem?_map, ho]; rfl))) ea_nil) ⟨_, rfl, ?_, rfl⟩) ?_) g3.sub fun v B4 H4 g4 hv => k v B4 H4 ((g2.trans g3).trans g4) hv
    · rw [List.length_map, hp]
      omega
    · rw [List.length_map]
      exact (dAns_list _).symm
end
end Oa

set_option Elab.async false
set_option linter.all false
set_option maxRecDepth 100000
set_option maxHeartbeats 2000000
/-! The object made, begun and changed. -/
namespace Oa
open PySem PySem.Spec PyProof.Rows L2 Evl

theorem Mut.trans {r : Addr} {B H B1 H1 B2 H2 : Hp} (a : Mut r B H B1 H1) (b : Mut r B1 H1 B2 H2) (hr : B r ≠ none) : Mut r B H B2 H2 :=
  ⟨fun x o hx h => b.ex x o hx (a.ex x o hx h), fun x o hx h => b.base x o hx (a.base x o hx h), b.sub, fun x h q => by
    have hx : x ≠ r := fun z => hr (z ▸ h)
    exact b.out x (a.out x h q) (mut_ne a.ex hx q)⟩
/-! ### pairs compared -/
theorem eqv_pair (p q : Nat × Nat) : PyData.eqv (dPair p) (dPair q) = (p == q) := by
  show (((p.1 : Int) == (q.1 : Int)) && (((p.2 : Int) == (q.2 : Int)) && true)) = (p == q)
  rw [Bool.eq_iff_iff, Bool.and_true, Bool.and_eq_true, beq_iff_eq, beq_iff_eq, beq_iff_eq]
  constructor
  · rintro ⟨h1, h2⟩
    exact Prod.ext (by omega) (by omega)
  · rintro rfl
    exact ⟨rfl, rfl⟩
theorem shaped_pair (p : Nat × Nat) : SeqAt.shaped (dPair p) = true := rfl
theorem canLay_pairs : ∀ (l : List (Nat × Nat)), PyData.canLayAll0 (l.map dPair) = true
  | [] => rfl
  | p :: l => by
    show (PyData.canLay0 (dPair p) && PyData.canLayAll0 (l.map dPair)) = true
    rw [canLay_pairs l]
    rfl
theorem depth_pairs : ∀ (l : List (Nat × Nat)), PyData.depthAll (l.map dPair) ≤ 2
  | [] => by decide
  | p :: l => by
    show max (PyData.depth (dPair p)) (PyData.depthAll (l.map dPair)) ≤ 2
    exact Nat.max_le.mpr ⟨(show 1 ≤ 2 by decide), depth_pairs l⟩
theorem shaped_pairs (l : List (Nat × Nat)) : SeqAt.shaped (dPairs l) = true := by
  unfold SeqAt.shaped
  rw [Bool.and_eq_true]
  refine ⟨canLay_pairs l, decide_eq_true ?_⟩
  have := depth_pairs l
  show PyData.depthAll (l.map dPair) + 1 ≤ 64
  omega

section
variable {K : PySem.W.Frag}
theorem contains_any (l : List (Nat × Nat)) (q : Nat × Nat) : ((l.map dPair).any fun z => PyData.eqv z (dPair q)) = l.contains q := by
  rw [List.any_map]
  induction l with
  | nil => rfl
  | cons a l ih =>
    rw [List.any_cons, ih, List.contains_cons]
    congr 1
    show PyData.eqv (dPair a) (dPair q) = _
    rw [eqv_pair, Bool.beq_comm]
theorem rd_inP {q : Nat × Nat} {l : List (Nat × Nat)} : RD (rInD K) (dPair q) (dPairs l) (.bool (l.contains q)) := fun B H1 e x y hx hy Q k => by
  refine ⟨dPair q, l.map dPair, (hx.ex e).dp, (hy.ex e).dp, shaped_pair q, shaped_pairs l, ?_⟩
  rw [contains_any]
  exact k _ B H1 (.refl e) (.bl _)
theorem rd_notInP {q : Nat × Nat} {l : List (Nat × Nat)} : RD (rNotInD K) (dPair q) (dPairs l) (.bool (!l.contains q)) := fun B H1 e x y hx hy Q k => by
  refine ⟨dPair q, l.map dPair, (hx.ex e).dp, (hy.ex e).dp, shaped_pair q, shaped_pairs l, ?_⟩
  rw [contains_any]
  exact k _ B H1 (.refl e) (.bl _)
theorem rd_neP {p q : Nat × Nat} : RD (rNeD K) (dPair p) (dPair q) (.bool (p != q)) := fun B H1 e x y hx hy Q k => by
  refine ⟨dPair p, dPair q, (hx.ex e).dp, (hy.ex e).dp, shaped_pair p, shaped_pair q, ?_⟩
  rw [eqv_pair]
  exact k _ B H1 (.refl e) (.bl _)
end
/-! ### slices -/
section
variable {K : PySem.W.Frag} {σ : L2.St} {B H A : Hp} {te ta : TE} {d : PyData} {D : Ends} {tz : TS}
def EvP (to : TO) (σ : L2.St) (B : Hp) (o : Option Int) : Prop := ∀ H1, Ex B H1 → ∀ Q : Option Int → Hp → Prop, (∀ B2 H2, Grow B H1 B2 H2 → Q o H2) → to σ H1 Q
theorem EvP.mono {to : TO} {o : Option Int} (e : Ex B A) (h : EvP to σ B o) : EvP to σ A o := fun H1 ea Q q => h H1 (e.trans ea) Q fun B2 H2 g => q _ H2 (g.wide e ea)
theorem ep_none : EvP tNoPart σ B none := fun H1 e Q q => q B H1 (.refl e)
theorem ep_some {i : Int} (h : EvD te σ B (.int i)) : EvP (tPart te) σ B (some i) := fun H1 e Q q => h H1 e _ fun v B2 H2 g hv => by
  cases hv
  exact ⟨i, rfl, q B2 H2 g⟩
theorem ed_neg {i : Int} (h : EvD ta σ B (.int i)) : EvD (tUn uNeg ta) σ B (.int (-i)) := fun H1 e Q q => h H1 e _ fun v B2 H2 g hv => by
  cases hv
  exact ⟨i, rfl, q _ B2 H2 g (.int _)⟩
def cutD {α : Type} (ds : List α) (lo hi : Option Int) : List α := (ds.drop (HT.sIx ds.length 0 lo)).take (HT.sIx ds.length ds.length hi - HT.sIx ds.length 0 lo)
theorem ed_sl {tl th : TO} {lo hi : Option Int} {ds : List PyData} (h : EvD te σ B (.list ds)) (h1 : EvP tl σ B lo) (h2 : EvP th σ B hi) : EvD (tSl (rSlL K) te tl th) σ B (.list (cutD ds lo hi)) := fun H1 e Q q =>
  h H1 e _ fun v B2 H2 g2 hv => (h1.mono g2.base) H2 g2.sub _ fun B3 H3 g3 => (h2.mono (g2.base.trans g3.base)) H3 g3.sub _ fun B4 H4 g4 => by
    obtain ⟨a, xs, rfl, ha, hall⟩ := dt_list hv
    refine ⟨a, xs, rfl, sq_of (g4.sub _ _ (g4.base _ _ (g3.base _ _ ha))), fun p hp => ?_⟩
    have g5 := Grow.new (o := .lst (cutV xs lo hi)) g4.sub hp
    refine q _ _ _ (((g2.trans g3).trans g4).trans g5) (.lst upd_same ?_)
    have h5 : DtAll B2 (cutV xs lo hi) (cutD ds lo hi) := by
      unfold cutV cutD
      rw [hall.length]
      exact (hall.drop _).take _
    exact h5.ex ((g3.base.trans g4.base).trans g5.base)
/-! ### a field stored -/
theorem sd_store {r C dx : Addr} {fs : List (Str × V)} {f : Str} {i : Nat} (h : EvD te σ B d) (e : Ex B H) (hr : B r = some (.ins C dx fs)) (hs : σ[i]? = some (some (.ref r))) (cl : Cls K C) (nf : NoAttr K C f) (hl : fs.length < 1000)
    (k : ∀ v B2 H2, Mut r B H B2 H2 → B2 r = some (.ins C dx (putF f v fs)) → Dt B2 v d → D.nx σ H2) : sFld K (tVar i) te f D σ H :=
  h H e _ fun v B1 H1 g hv => ⟨_, hs, r, C, dx, fs, rfl, g.ex _ _ (e _ _ hr), cl, nf, hl, k v _ _ (Mut.ahead g (mut_store (g.base _ _ hr) g.sub)) upd_same (hv.mut (g.base _ _ hr) fun b o hb q => by rw [upd_ne hb]; exact q)⟩
theorem qd_store {r C dx : Addr} {fs : List (Str × V)} {f : Str} {i : Nat} (h : EvD te σ B d) (e : Ex B H) (hr : B r = some (.ins C dx fs)) (hs : σ[i]? = some (some (.ref r))) (cl : Cls K C) (nf : NoAttr K C f) (hl : fs.length < 1000)
    (k : ∀ v B2 H2, Mut r B H B2 H2 → B2 r = some (.ins C dx (putF f v fs)) → Dt B2 v d → tz D σ H2) : tSeq (sFld K (tVar i) te f) tz D σ H :=
  sd_store (D := { D with nx := tz D }) h e hr hs cl nf hl k
end
/-! ### promises that change the object -/
def m0 : Kv416.Abs := ⟨⟨0, []⟩, []⟩
def spInit (C : Addr) : Sp := fun vs H Q _ => ∃ r dx, vs = [.ref r] ∧ H r = some (.ins C dx []) ∧ ∀ B H', RecAt C B r m0 → (∀ b o, b ≠ r → H b = some o → H' b = some o) → Ex B H' → (∀ b, b ≠ r → H b ≠ none → B b = none) → Q .non H'
def spStart (C : Addr) : Sp := fun vs H Q _ => ∃ B r m, ∃ n : Nat, vs = [.ref r, .int (n : Int)] ∧ Ex B H ∧ RecAt C B r m ∧ ∀ B2 H2, Mut r B H B2 H2 → RecAt C B2 r ⟨⟨n, []⟩, []⟩ → Q .non H2
def spChange (C : Addr) : Sp := fun vs H Q _ => ∃ B r m, ∃ n : Nat, ∃ tv l, vs = [.ref r, .int (n : Int), tv] ∧ Ex B H ∧ RecAt C B r m ∧ m.past.length ≤ 10 ∧ Dt B tv (dPairs l) ∧
  ∀ B2 H2, Mut r B H B2 H2 → RecAt C B2 r ⟨⟨n, l⟩, (m.now :: m.past).take 10⟩ → Q .non H2
theorem hist_cut (w : Kv416.Now) (l : List Kv416.Now) : cutD ((l.reverse.map dNow) ++ [dNow w]) (some (-10)) none = ((w :: l).take 10).reverse.map dNow := by
  have e1 : (l.reverse.map dNow) ++ [dNow w] = (w :: l).reverse.map dNow := by
    rw [List.reverse_cons, List.map_append]
    rfl
  rw [e1]
  unfold cutD
  have hl : ((w :: l).reverse.map dNow).length = l.length + 1 := by simp
  rw [hl]
  have hk : HT.sIx (l.length + 1) 0 (some (-10)) = l.length + 1 - 10 := by
    show (if (-10 : Int) < 0 then ((-10 : Int) + ((l.length + 1 : Nat) : Int)).toNat else min (-10 : Int).toNat (l.length + 1)) = _
    rw [if_pos (by decide)]
    omega
  have hh : HT.sIx (l.length + 1) (l.length + 1) none = l.length + 1 := rfl
  rw [hk, hh, List.take_of_length_le (by rw [List.length_drop, hl]; exact Nat.le_refl _), ← List.map_drop, List.drop_reverse]
  congr 2
  have hle : (w :: l).length = l.length + 1 := rfl
  rw [hle]
  by_cases h : l.length + 1 ≤ 10
  · rw [List.take_of_length_le (by rw [hle]; omega), List.take_of_length_le (by rw [hle]; omega)]
  · rw [show l.length + 1 - (l.length + 1 - 10) = 10 by omega]
section
variable {K : PySem.W.Frag} {C : Addr} {mg : Str → Option Value} {a_WIDTHS : Addr}
theorem pu_init (T : Txt K mg C a_WIDTHS) (vs : List V) (H : Hp) (Q : VK) (E : XK) (h : spInit C vs H Q E) : t_Record_init K C { nx := fun _ H' => Q .non H', rt := Q } (start n_Record_init vs) H := by
  obtain ⟨r, dx, rfl, hr, k⟩ := h
  -- the part that stands: the object alone
  let B : Hp := fun b => if b = r then some (.ins C dx []) else none
  have hB : B r = some (.ins C dx []) := if_pos rfl
  have e : Ex B H := fun b o h => by
    have h : (if b = r then some (HO.ins C dx []) else none) = some o := h
    split at h
    · rename_i hb
      rw [hb, hr]
      exact h
    · cases h
  refine qd_store ed_int e hB rfl T.cl T.f_size (by show 0 < 1000; decide) fun v1 B1 H1 m1 r1 h1 => ?_
  refine qd_store (ed_lst ea_nil (Nat.zero_le _)) m1.sub r1 rfl T.cl T.f_told_pairs (by show 1 < 1000; decide) fun v2 B2 H2 m2 r2 h2 => ?_
  refine sd_store (ed_lst ea_nil (Nat.zero_le _)) m2.sub r2 rfl T.cl T.f_earlier (by show (putF "told_pairs" v2 (putF "size" v1 [])).length < 1000; rw [show putF "told_pairs" v2 (putF "size" v1 []) = [(("size" : Str), v1), ("told_pairs", v2)] from if_neg (by decide +kernel)]; show 2 < 1000; decide) fun v3 B3 H3 m3 r3 h3 => ?_
  have hne : B r ≠ none := by rw [hB]; simp
  have mm := (m1.trans m2 hne).trans m3 hne
  cases h1
  rw [put_new] at r3
  refine k B3 H3 ⟨dx, v2, v3, r3, h2.mut r2 m3.base, h3⟩ (fun b o hb q => mm.ex b o hb q) mm.sub fun b hb q => ?_
  exact mm.out b (if_neg hb) q
theorem pu_start (T : Txt K mg C a_WIDTHS) (vs : List V) (H : Hp) (Q : VK) (E : XK) (h : spStart C vs H Q E) : t_Record_start K C { nx := fun _ H' => Q .non H', rt := Q } (start n_Record_start vs) H := by
  obtain ⟨B, r, m, n, rfl, e, R, k⟩ := h
  obtain ⟨dx, tv, ev, hr, ht, hh⟩ := R.ex
  have hne : B r ≠ none := by rw [hr]; simp
  refine qd_store (ed_var rfl (.int (n : Int))) e hr rfl T.cl T.f_size (by show 3 < 1000; decide) fun v1 B1 H1 m1 r1 h1 => ?_
  rw [put_size] at r1
  refine qd_store (ed_lst ea_nil (Nat.zero_le _)) m1.sub r1 rfl T.cl T.f_told_pairs (by show 3 < 1000; decide) fun v2 B2 H2 m2 r2 h2 => ?_
  rw [put_told] at r2
  refine sd_store (ed_lst ea_nil (Nat.zero_le _)) m2.sub r2 rfl T.cl T.f_earlier (by show 3 < 1000; decide) fun v3 B3 H3 m3 r3 h3 => ?_
  rw [put_earlier] at r3
  cases h1
  exact k B3 H3 ((m1.trans m2 hne).trans m3 hne) ⟨dx, v2, v3, r3, h2.mut r2 m3.base, h3⟩
theorem pu_change (T : Txt K mg C a_WIDTHS) (vs : List V) (H : Hp) (Q : VK) (E : XK) (h : spChange C vs H Q E) : t_Record_change K C { nx := fun _ H' => Q .non H', rt := Q } (start n_Record_change vs) H := by
  obtain ⟨B, r, m, n, lv, l, rfl, e, R, hpast, hl, k⟩ := h
  have R' := R
  obtain ⟨dx, tv, ev, hr, ht, hh⟩ := R.ex
  have hne : B r ≠ none := by rw [hr]; simp
  refine qd_store (d := dHist ((m.now :: m.past).take 10)) (ed_is (ed_sl (ed_op (ed_earlier T.cl T.f_earlier rfl R') (ed_lst (ea_cons (ed_tup (ea_cons (ed_size T.cl T.f_size rfl R') (ea_cons (ed_told T.cl T.f_told_pairs rfl R') ea_nil)) (by show 2 ≤ 100000; decide)) ea_nil) (by show 1 ≤ 100000; decide)) (rd_cat ?_)) (ep_some (ed_neg (ed_int (i := 10)))) ep_none) ?_) e hr rfl T.cl T.f_earlier (by show 3 < 1000; decide) fun v1 B1 H1 m1 r1 h1 => ?_
  · rw [List.length_map, List.length_reverse]
    show _ + 1 ≤ _
    omega
  · exact congrArg _ (hist_cut _ _)
  rw [put_earlier] at r1
  refine qd_store (ed_var rfl (.int (n : Int))) m1.sub r1 rfl T.cl T.f_size (by show 3 < 1000; decide) fun v2 B2 H2 m2 r2 h2 => ?_
  rw [put_size] at r2
  refine sd_store (ed_var rfl ((hl.mut hr m1.base).mut r1 m2.base)) m2.sub r2 rfl T.cl T.f_told_pairs (by show 3 < 1000; decide) fun v3 B3 H3 m3 r3 h3 => ?_
  rw [put_told] at r3
  cases h2
  exact k B3 H3 ((m1.trans m2 hne).trans m3 hne) ⟨dx, v3, v1, r3, h3, (h1.mut r1 m2.base).mut r2 m3.base⟩
end
end Oa

set_option Elab.async false
set_option linter.all false
set_option maxRecDepth 100000
set_option maxHeartbeats 2000000
/-! The calls that change. -/
namespace Oa
open PySem PySem.Spec PyProof.Rows L2 Evl

/-- what a call promises: just what the specification does -/
def prCall (C : Addr) (mk : List Nat → Kv416.Call) (k : Nat) : Sp := fun vs H Q _ => ∃ B r m, ∃ l : List Nat, vs = .ref r :: l.map (fun x : Nat => V.int (x : Int)) ∧ Ex B H ∧ RecAt C B r m ∧ Fine m ∧ l.length = k ∧
  ∀ v B2 H2, Mut r B H B2 H2 → RecAt C B2 r (m.does (mk l)).1 → Dt B2 v (dAns (m.does (mk l)).2) → Q v H2
theorem RecAt.ne {C r : Addr} {B : Hp} {m : Kv416.Abs} (R : RecAt C B r m) : B r ≠ none := by
  obtain ⟨dx, tv, ev, hr, _⟩ := R.ex
  rw [hr]
  simp
section
variable {K : PySem.W.Frag} {C : Addr} {mg : Str → Option Value} {a_WIDTHS : Addr} {σ : L2.St} {B H : Hp} {r : Addr} {m : Kv416.Abs} {D : Ends} {tz : TS} {ta tb : TE}
theorem qd_change {E : XK} {i n : Nat} {l : List (Nat × Nat)} (hs : σ[i]? = some (some (.ref r))) (R : RecAt C B r m) (hp : m.past.length ≤ 10) (e : Ex B H) (ha : EvD ta σ B (dNat n)) (hb : EvD tb σ B (dPairs l))
    (k : ∀ B2 H2, Mut r B H B2 H2 → RecAt C B2 r ⟨⟨n, l⟩, (m.now :: m.past).take 10⟩ → tz D σ H2) : tSeq (tDrop (tMeth C "change" (spChange C) [] E (tVar i) (tCons ta (tCons tb tNil)))) tz D σ H := by
  obtain ⟨dx, tv, ev, hr, h1, h2⟩ := R.ex
  refine ⟨_, hs, r, dx, _, rfl, e _ _ hr, no_change _ _ _, (ea_cons ha (ea_cons hb ea_nil)) H e _ fun vs B2 H2 g hv => ?_⟩
  obtain _ | ⟨⟨_⟩, _ | ⟨hl, _ | _⟩⟩ := hv
  exact ⟨B2, r, m, n, _, l, rfl, g.sub, R.mono g.base, hp, hl, fun B3 H3 mu R3 => k B3 H3 (Mut.ahead g mu) R3⟩
theorem qd_start {E : XK} {i n : Nat} (hs : σ[i]? = some (some (.ref r))) (R : RecAt C B r m) (e : Ex B H) (ha : EvD ta σ B (dNat n))
    (k : ∀ B2 H2, Mut r B H B2 H2 → RecAt C B2 r ⟨⟨n, []⟩, []⟩ → tz D σ H2) : tSeq (tDrop (tMeth C "start" (spStart C) [] E (tVar i) (tCons ta tNil))) tz D σ H := by
  obtain ⟨dx, tv, ev, hr, h1, h2⟩ := R.ex
  refine ⟨_, hs, r, dx, _, rfl, e _ _ hr, no_start _ _ _, (ea_cons ha ea_nil) H e _ fun vs B2 H2 g hv => ?_⟩
  obtain _ | ⟨⟨_⟩, _ | _⟩ := hv
  exact ⟨B2, r, m, n, rfl, g.sub, R.mono g.base, fun B3 H3 mu R3 => k B3 H3 (Mut.ahead g mu) R3⟩

def spBegin (C : Addr) : Sp := fun vs H Q _ => ∃ B r m, ∃ n : Nat, vs = [.ref r, .int (n : Int)] ∧ Ex B H ∧ RecAt C B r m ∧
    ∀ v B2 H2, Mut r B H B2 H2 → RecAt C B2 r (m.does (.begin_ n)).1 → Dt B2 v (dAns (m.does (.begin_ n)).2) → Q v H2
theorem pu_begin (T : Txt K mg C a_WIDTHS) (vs : List V) (H : Hp) (Q : VK) (E : XK) (h : spBegin C vs H Q E) : t_begin K C (spStart C) { nx := fun _ H' => Q .non H', rt := Q } (start n_begin vs) H := by
  obtain ⟨B, r, m, n, rfl, e, R, k⟩ := h
  have hd : m.does (.begin_ n) = if (decide ((n : Int) < 1) || decide ((6 : Int) < (n : Int))) = true then (m, Kv416.say (-22)) else (⟨⟨n, []⟩, []⟩, Kv416.say 0) := by
    show (if n = 0 ∨ 6 < n then (m, Kv416.say (-22)) else (⟨⟨n, []⟩, []⟩, Kv416.say 0)) = _
    by_cases h : n = 0 ∨ 6 < n
    · rw [if_pos h, if_pos (by rw [Bool.or_eq_true, decide_eq_true_iff, decide_eq_true_iff]; omega)]
    · rw [if_neg h, if_neg (by rw [Bool.or_eq_true, decide_eq_true_iff, decide_eq_true_iff]; omega)]
  rw [hd] at k
  refine qd_when (eb_or (eb_test (ed_op (ed_var rfl (.int _)) ed_int (rd_I0 (d := .bool (decide ((n : Int) < 1))) fun B => .bl _))) fun _ => eb_test (ed_op (ed_var rfl (.int _)) ed_int (rd_I0 (d := .bool (decide ((6 : Int) < (n : Int)))) fun B => .bl _))) e (fun hb B2 H2 g2 => ?_) (fun hb B2 H2 g2 => ?_)
  · rw [hb, if_pos rfl] at k
    exact sd_ret ed_one g2.sub fun v B3 H3 g3 hv => k v B3 H3 (g2.trans g3).mut (R.mono (g2.base.trans g3.base)) hv
  · rw [hb, if_neg (by decide)] at k
    refine qd_start rfl (R.mono g2.base) g2.sub (ed_var rfl (.int (n : Int))) fun B3 H3 m3 R3 => ?_
    exact sd_ret ed_one m3.sub fun v B4 H4 g4 hv => k v B4 H4 ((Mut.ahead g2 m3).after g4 R.ne) (R3.mono g4.base) hv
theorem pu_tell (T : Txt K mg C a_WIDTHS) (vs : List V) (H : Hp) (Q : VK) (E : XK) (h : prCall C (fun l => .tell (l.getD 0 0) (l.getD 1 0)) 2 vs H Q E) : t_tell K C (prR C prHas) (prR C prTab) (spChange C) { nx := fun _ H' => Q .non H', rt := Q } (start n_tell vs) H := by
  obtain ⟨B, r, m, l, rfl, e, R, fi, hl, k⟩ := h
  obtain ⟨i, j, rfl⟩ := len2 hl
  have hd : m.does (.tell i j) = if (m.now.no i || m.now.no j) = true then (m, Kv416.say (-2)) else if (i == j || m.now.heard j i) = true then (m, Kv416.say (-35)) else if m.now.direct i j = true then (m, Kv416.say (-17)) else m.to_ { m.now with told := m.now.told ++ [(i, j)] } (Kv416.num (m.now.told.length + 1)) := by
    show (if m.now.no i ∨ m.now.no j then (m, Kv416.say (-2)) else if i = j ∨ m.now.heard j i then (m, Kv416.say (-35)) else if m.now.direct i j then (m, Kv416.say (-17)) else m.to_ { m.now with told := m.now.told ++ [(i, j)] } (Kv416.num (m.now.told.length + 1))) = _
    have e1 : (i = j ∨ m.now.heard j i = true) ↔ (i == j || m.now.heard j i) = true := by rw [Bool.or_eq_true, beq_iff_eq]
    have e2 : (m.now.no i = true ∨ m.now.no j = true) ↔ (m.now.no i || m.now.no j) = true := by rw [Bool.or_eq_true]
    simp only [e1, e2]
  have k : ∀ v B2 H2, Mut r B H B2 H2 → RecAt C B2 r (m.does (.tell i j)).1 → Dt B2 v (dAns (m.does (.tell i j)).2) → Q v H2 := k
  rw [hd] at k
  refine qd_when (eb_or (eb_no rfl R rfl) fun _ => eb_no rfl R rfl) e (fun hb B2 H2 g2 => ?_) (fun hb B2 H2 g2 => ?_)
  · rw [hb, if_pos rfl] at k
    exact sd_ret ed_one g2.sub fun v B3 H3 g3 hv => k v B3 H3 (g2.trans g3).mut (R.mono (g2.base.trans g3.base)) hv
  rw [hb, if_neg (by decide)] at k
  rw [Bool.or_eq_false_iff] at hb
  have hi : i < m.now.n := no_lt hb.1
  have hj : j < m.now.n := no_lt hb.2
  refine qd_when (b := (i == j || m.now.heard j i)) (eb_is (eb_or (eb_test (ed_op (ed_var rfl (.int _)) (ed_var rfl (.int _)) rd_eqI)) fun _ => eb_B (ed_cell (ed_table rfl (R.mono g2.base) fi) (ed_var rfl (.int _)) (ed_var rfl (.int _)) hj hi)) (by rw [eq_bool]; rfl)) g2.sub (fun hc B3 H3 g3 => ?_) (fun hc B3 H3 g3 => ?_)
  · rw [hc, if_pos rfl] at k
    exact sd_ret ed_one g3.sub fun v B4 H4 g4 hv => k v B4 H4 ((g2.trans g3).trans g4).mut (R.mono ((g2.base.trans g3.base).trans g4.base)) hv
  rw [hc, if_neg (by decide)] at k
  have R3 := R.mono (g2.base.trans g3.base)
  refine qd_when (b := m.now.direct i j) (eb_test (ed_op (d1 := dPair (i, j)) (ed_tup (ea_cons (ed_var rfl (.int _)) (ea_cons (ed_var rfl (.int _)) ea_nil)) (by show 2 ≤ 100000; decide)) (ed_told T.cl T.f_told_pairs rfl R3) rd_inP)) g3.sub (fun hf B4 H4 g4 => ?_) (fun hf B4 H4 g4 => ?_)
  · rw [hf, if_pos rfl] at k
    exact sd_ret ed_one g4.sub fun v B5 H5 g5 hv => k v B5 H5 (((g2.trans g3).trans g4).trans g5).mut (R3.mono (g4.base.trans g5.base)) hv
  rw [hf, if_neg (by decide)] at k
  have R4 := R3.mono g4.base
  have few := fi.now.few
  refine qd_change (l := m.now.told ++ [(i, j)]) rfl R4 fi.few g4.sub (ed_size T.cl T.f_size rfl R4) (ed_is (ed_op (ed_told T.cl T.f_told_pairs rfl R4) (ed_lst (ea_cons (ed_tup (ea_cons (ed_var rfl (.int (i : Int))) (ea_cons (ed_var rfl (.int (j : Int))) ea_nil)) (by show 2 ≤ 100000; decide)) ea_nil) (by show 1 ≤ 100000; decide)) (rd_cat ?_)) ?_) fun B5 H5 m5 R5 => ?_
  · rw [List.length_map]
    show _ + 1 ≤ _
    omega
  · unfold dPairs
    rw [List.map_append]
    rfl
  · refine sd_ret (ed_lst (ea_cons (ed_len (ed_told T.cl T.f_told_pairs rfl R5)) ea_nil) (by show 1 ≤ 100000; decide)) m5.sub fun v B6 H6 g6 hv => k v B6 H6 ((Mut.ahead ((g2.trans g3).trans g4) m5).after g6 R.ne) (R5.mono g6.base) ?_
    rw [List.length_map, List.length_append] at hv
    exact hv
theorem untell_len {a : Kv416.Now} (g : Good a) {q : Nat × Nat} (h : a.told.contains q = true) : (a.told.filter fun p => p != q).length = a.told.length - 1 := by
  have he : (a.told.filter fun p => p != q) = a.told.erase q := (List.Nodup.erase_eq_filter g.nd q).symm
  rw [he, List.length_erase_of_mem (List.contains_iff_mem.mp h)]
theorem pu_untell (T : Txt K mg C a_WIDTHS) (vs : List V) (H : Hp) (Q : VK) (E : XK) (h : prCall C (fun l => .untell (l.getD 0 0) (l.getD 1 0)) 2 vs H Q E) : t_untell K C (prR C prHas) (spChange C) { nx := fun _ H' => Q .non H', rt := Q } (start n_untell vs) H := by
  obtain ⟨B, r, m, l, rfl, e, R, fi, hl, k⟩ := h
  obtain ⟨i, j, rfl⟩ := len2 hl
  have hd : m.does (.untell i j) = if (m.now.no i || m.now.no j) = true then (m, Kv416.say (-2)) else if (!m.now.told.contains (i, j)) = true then (m, Kv416.say (-33)) else m.to_ { m.now with told := m.now.told.filter fun q => q != (i, j) } (Kv416.num (m.now.told.length - 1)) := by
    show (if m.now.no i ∨ m.now.no j then (m, Kv416.say (-2)) else if m.now.direct i j = false then (m, Kv416.say (-33)) else m.to_ { m.now with told := m.now.told.filter fun q => q != (i, j) } (Kv416.num (m.now.told.length - 1))) = _
    have e1 : (m.now.direct i j = false) ↔ (!m.now.told.contains (i, j)) = true := by rw [Bool.not_eq_true']; rfl
    have e2 : (m.now.no i = true ∨ m.now.no j = true) ↔ (m.now.no i || m.now.no j) = true := by rw [Bool.or_eq_true]
    simp only [e1, e2]
  have k : ∀ v B2 H2, Mut r B H B2 H2 → RecAt C B2 r (m.does (.untell i j)).1 → Dt B2 v (dAns (m.does (.untell i j)).2) → Q v H2 := k
  rw [hd] at k
  refine qd_when (eb_or (eb_no rfl R rfl) fun _ => eb_no rfl R rfl) e (fun hb B2 H2 g2 => ?_) (fun hb B2 H2 g2 => ?_)
  · rw [hb, if_pos rfl] at k
    exact sd_ret ed_one g2.sub fun v B3 H3 g3 hv => k v B3 H3 (g2.trans g3).mut (R.mono (g2.base.trans g3.base)) hv
  rw [hb, if_neg (by decide)] at k
  have R2 := R.mono g2.base
  refine qd_when (b := !m.now.told.contains (i, j)) (eb_test (ed_op (d1 := dPair (i, j)) (ed_tup (ea_cons (ed_var rfl (.int _)) (ea_cons (ed_var rfl (.int _)) ea_nil)) (by show 2 ≤ 100000; decide)) (ed_told T.cl T.f_told_pairs rfl R2) rd_notInP)) g2.sub (fun hf B3 H3 g3 => ?_) (fun hf B3 H3 g3 => ?_)
  · rw [hf, if_pos rfl] at k
    exact sd_ret ed_one g3.sub fun v B5 H5 g5 hv => k v B5 H5 ((g2.trans g3).trans g5).mut (R2.mono (g3.base.trans g5.base)) hv
  rw [hf, if_neg (by decide)] at k
  have R3 := R2.mono g3.base
  have few := fi.now.few
  refine qd_change (l := m.now.told.filter fun q => q != (i, j)) rfl R3 fi.few g3.sub (ed_size T.cl T.f_size rfl R3) (ed_lcM (l := m.now.told) (D := dPair) (fun q => q != (i, j)) dPair (ed_told T.cl T.f_told_pairs rfl R3) (by omega) (fun x => wipe1 x)
    (fun q hq v B' hv' eb => eb_test (ed_op (d2 := dPair (i, j)) (ed_var rfl hv') (ed_tup (ea_cons (ed_var rfl (.int (i : Int))) (ea_cons (ed_var rfl (.int (j : Int))) ea_nil)) (by show 2 ≤ 100000; decide)) rd_neP)) (fun q hq v B' hv' eb _ => ed_var rfl hv')) fun B5 H5 m5 R5 => ?_
  refine sd_ret (ed_lst (ea_cons (ed_len (ed_told T.cl T.f_told_pairs rfl R5)) ea_nil) (by show 1 ≤ 100000; decide)) m5.sub fun v B6 H6 g6 hv => k v B6 H6 ((Mut.ahead (g2.trans g3) m5).after g6 R.ne) (R5.mono g6.base) ?_
  rw [List.length_map, untell_len fi.now (by rw [Bool.not_eq_false'] at hf; exact hf)] at hv
  exact hv
theorem pu_turn (T : Txt K mg C a_WIDTHS) (vs : List V) (H : Hp) (Q : VK) (E : XK) (h : prCall C (fun _ => .turn) 0 vs H Q E) : t_turn K C (spChange C) { nx := fun _ H' => Q .non H', rt := Q } (start n_turn vs) H := by
  obtain ⟨B, r, m, l, rfl, e, R, fi, hl, k⟩ := h
  cases len0 hl
  have few := fi.now.few
  refine qd_change (l := m.now.told.map fun q => (q.2, q.1)) rfl R fi.few e (ed_size T.cl T.f_size rfl R) (ed_is (ed_lcMp (l := m.now.told) (D1 := fun q => dNat q.1) (D2 := fun q => dNat q.2) (fun _ => true) (fun q => dPair (q.2, q.1)) (ed_told T.cl T.f_told_pairs rfl R) (by omega) (fun x y => wipe2 x y)
    (fun _ _ _ _ _ _ _ _ => eb_yes) (fun q hq v w B' hv hw eb _ => ed_tup (ea_cons (ed_var rfl hw) (ea_cons (ed_var rfl hv) ea_nil)) (by show 2 ≤ 100000; decide))) ?_) fun B5 H5 m5 R5 => ?_
  · rw [List.filter_eq_self.mpr fun _ _ => rfl]
    unfold dPairs
    rw [List.map_map]
    rfl
  · refine sd_ret (ed_lst (ea_cons (ed_len (ed_told T.cl T.f_told_pairs rfl R5)) ea_nil) (by show 1 ≤ 100000; decide)) m5.sub fun v B6 H6 g6 hv => k v B6 H6 (m5.after g6 R.ne) (R5.mono g6.base) ?_
    rw [List.length_map, List.length_map] at hv
    exact hv
theorem pu_without (T : Txt K mg C a_WIDTHS) (vs : List V) (H : Hp) (Q : VK) (E : XK) (h : prCall C (fun l => .without (l.headD 0)) 1 vs H Q E) : t_without K C (prm prPairs) (prm prNumber) (prR C prHas) (prR C prTab) (spChange C) { nx := fun _ H' => Q .non H', rt := Q } (start n_without vs) H := by
  obtain ⟨B, r, m, l, rfl, e, R, fi, hl, k⟩ := h
  obtain ⟨i, rfl⟩ := len1 hl
  have hd : m.does (.without i) = if m.now.no i = true then (m, Kv416.say (-2)) else if decide ((m.now.n : Int) = 1) = true then (m, Kv416.say (-6)) else m.to_ ⟨m.now.n - 1, (m.now.pairsOf.filter fun q => q.1 != i && q.2 != i).map fun q => (down i q.1, down i q.2)⟩ (Kv416.num (m.now.n - 1)) := by
    show (if m.now.no i then (m, Kv416.say (-2)) else if m.now.n = 1 then (m, Kv416.say (-6)) else m.to_ ⟨m.now.n - 1, (m.now.pairsOf.filter fun q => q.1 != i && q.2 != i).map fun q => (down i q.1, down i q.2)⟩ (Kv416.num (m.now.n - 1))) = _
    have e1 : (m.now.n = 1) ↔ decide ((m.now.n : Int) = 1) = true := by rw [decide_eq_true_iff]; omega
    simp only [e1]
  have k : ∀ v B2 H2, Mut r B H B2 H2 → RecAt C B2 r (m.does (.without i)).1 → Dt B2 v (dAns (m.does (.without i)).2) → Q v H2 := k
  rw [hd] at k
  refine qd_when (eb_no rfl R rfl) e (fun hb B2 H2 g2 => ?_) (fun hb B2 H2 g2 => ?_)
  · rw [hb, if_pos rfl] at k
    exact sd_ret ed_one g2.sub fun v B3 H3 g3 hv => k v B3 H3 (g2.trans g3).mut (R.mono (g2.base.trans g3.base)) hv
  rw [hb, if_neg (by decide)] at k
  have R2 := R.mono g2.base
  refine qd_when (eb_test (ed_op (ed_size T.cl T.f_size rfl R2) ed_int rd_eqI)) g2.sub (fun hf B3 H3 g3 => ?_) (fun hf B3 H3 g3 => ?_)
  · rw [hf, if_pos rfl] at k
    exact sd_ret ed_one g3.sub fun v B5 H5 g5 hv => k v B5 H5 ((g2.trans g3).trans g5).mut (R2.mono (g3.base.trans g5.base)) hv
  rw [hf, if_neg (by decide)] at k
  have hn1 : m.now.n ≠ 1 := fun z => by rw [z] at hf; simp at hf
  have R3 := R2.mono g3.base
  have hn := fi.now.hi
  have hlo := fi.now.lo
  have hp := pairsTo_len m.now.n (Kv416.at_ m.now.table) m.now.n
  have h36 := Nat.mul_le_mul hn hn
  refine qd_asg (d := dPairs (m.now.pairsOf.filter fun q => q.1 != i && q.2 != i)) (ed_is (ed_lcM (l := m.now.pairsOf) (D := dPair) (fun q => q.1 != i && q.2 != i) dPair (ed_call (ea_cons (ed_table rfl R3 fi) ea_nil) ⟨_, _, rfl, hn, rfl⟩) (by rw [pairsOf_eq]; omega) (fun x => wipe1 x)
    (fun q hq v B' hv' eb => eb_test (ed_is (ed_op (ed_var rfl (.int (i : Int))) (ed_var rfl hv') (rd_inT (l := [(q.1 : Int), (q.2 : Int)]))) ?_)) (fun q hq v B' hv' eb _ => ed_var rfl hv')) rfl) g3.sub fun v4 B4 H4 g4 h4 => ?_
  · congr 1
    show (!(((i : Int) == (q.1 : Int)) || (((i : Int) == (q.2 : Int)) || false))) = (!(q.1 == i) && !(q.2 == i))
    have e1 : ((i : Int) == (q.1 : Int)) = (q.1 == i) := by rw [Bool.eq_iff_iff, beq_iff_eq, beq_iff_eq]; omega
    have e2 : ((i : Int) == (q.2 : Int)) = (q.2 == i) := by rw [Bool.eq_iff_iff, beq_iff_eq, beq_iff_eq]; omega
    rw [e1, e2]
    cases (q.1 == i) <;> cases (q.2 == i) <;> rfl
  have R4 := R3.mono g4.base
  have hlen : (m.now.pairsOf.filter fun q => q.1 != i && q.2 != i).length ≤ 36 := by
    refine Nat.le_trans (List.length_filter_le _ _) ?_
    rw [pairsOf_eq]
    omega
  refine qd_change (n := m.now.n - 1) (l := (m.now.pairsOf.filter fun q => q.1 != i && q.2 != i).map fun q => (down i q.1, down i q.2)) rfl R4 fi.few g4.sub (ed_is (ed_op (ed_size T.cl T.f_size rfl R4) ed_int (rd_I0 (d := .int ((m.now.n : Int) - 1)) fun B => .int _)) ?_)
    (ed_is (ed_lcMp (l := m.now.pairsOf.filter fun (q : Nat × Nat) => q.1 != i && q.2 != i) (D1 := fun q => dNat q.1) (D2 := fun q => dNat q.2) (fun _ => true) (fun q => dPair (down i q.1, down i q.2)) (ed_var rfl h4) (by omega) (fun x y => wipe2 x y)
      (fun _ _ _ _ _ _ _ _ => eb_yes) (fun q hq v w B' hv hw eb _ => ed_tup (ea_cons (ed_call (ea_cons (ed_var rfl hv) (ea_cons (ed_var rfl (.int (i : Int))) ea_nil)) ⟨q.1, i, rfl, rfl⟩) (ea_cons (ed_call (ea_cons (ed_var rfl hw) (ea_cons (ed_var rfl (.int (i : Int))) ea_nil)) ⟨q.2, i, rfl, rfl⟩) ea_nil)) (by show 2 ≤ 100000; decide))) ?_) fun B5 H5 m5 R5 => ?_
  · unfold dNat
    congr 1
    omega
  · rw [List.filter_eq_self.mpr fun _ _ => rfl]
    unfold dPairs
    rw [List.map_map]
    rfl
  · exact sd_ret (ed_lst (ea_cons (ed_size T.cl T.f_size rfl R5) ea_nil) (by show 1 ≤ 100000; decide)) m5.sub fun v B6 H6 g6 hv => k v B6 H6 ((Mut.ahead ((g2.trans g3).trans g4) m5).after g6 R.ne) (R5.mono g6.base) hv
end
end Oa

set_option Elab.async false
set_option linter.all false
set_option maxRecDepth 100000
set_option maxHeartbeats 2000000
/-! The calls, one behind another. -/
namespace Oa
open PySem PySem.Spec PyProof.Rows L2 Evl

/-- a state and what the object holds -/
def Rep (s : Kv416.State) (m : Kv416.Abs) : Prop := (s = none ∧ m = m0) ∨ (s = some m ∧ Fine m)
/-- a call's place and what was handed with it -/
def CallOf (p : Nat) (given : List Int) (c : List (List Int)) : Prop :=
  (p < 23 ∧ p ≠ 12 ∧ given.length = wid p ∧ c = [(p : Int) :: given]) ∨ (p = 12 ∧ ∃ row : List Int, given = (row.length : Int) :: row ∧ c = [[12], row])
/-- answer_call: just what the specification's step does -/
def spAnswer (C : Addr) : Sp := fun vs H Q _ => ∃ B r m s p gv given c, vs = [.ref r, .int ((p : Nat) : Int), gv] ∧ Ex B H ∧ RecAt C B r m ∧ Rep s m ∧ Dt B gv (dInts given) ∧ CallOf p given c ∧ (∀ x ∈ given, 0 ≤ x) ∧ given.length ≤ 60 ∧
  ∀ v B2 H2 m2, Mut r B H B2 H2 → RecAt C B2 r m2 → Rep (Kv416Neutral.step s c).1 m2 → Dt B2 v (dInts (Kv416Neutral.step s c).2) → Q v H2
/-- where a call ends -/
def EndOf (ns : List Int) (at_ e : Nat) : Prop := (∃ k : Nat, ns[at_]? = some (k : Int) ∧ k < 23 ∧ k ≠ 12 ∧ e = at_ + 1 + wid k) ∨ (ns[at_]? = some 12 ∧ ∃ m : Nat, ns[at_ + 1]? = some (m : Int) ∧ e = at_ + 2 + m)
def spEnd (K : PySem.W.Frag) : Sp := fun vs H Q _ => ∃ B a ns at_ e, vs = [.ref a, .int ((at_ : Nat) : Int)] ∧ Ex B H ∧ SqL K B a (ns.map V.int) ∧ EndOf ns at_ e ∧ ∀ B2 H2, Grow B H B2 H2 → Q (.int (e : Int)) H2
/-- answers -/
def spAns (K : PySem.W.Frag) : Sp := fun vs H Q _ => ∃ (a : Addr) (ns : List Int), vs = [.ref a] ∧ SqL K H a (ns.map V.int) ∧ ns.length ≤ 5200 ∧ (∀ x ∈ ns, 0 ≤ x) ∧ PyKv416.answers_asked ns = true ∧
  ∀ (H' : Hp) (p : Addr), H' p = some (.lst ((PyKv416.answers ns).map V.int)) → Q (.ref p) H'
section
variable {K : PySem.W.Frag} {σ : L2.St} {B H A : Hp} {te ta tb : TE} {t : TT} {tu tz : TS} {D : Ends}
theorem ed_ixQ {a : Addr} {ns : List Int} {i j : Nat} {x : Int} (h : σ[i]? = some (some (.ref a))) (hq : SqL K B a (ns.map V.int)) (hj : EvD tb σ B (dNat j)) (hx : ns[j]? = some x) : EvD (tOp (rIxL K) (tVar i) tb) σ B (.int x) := fun H1 e Q q =>
  ⟨_, h, hj H1 e _ fun v B2 H2 g hv => by
    cases hv
    refine ⟨a, _, (j : Int), .int x, rfl, rfl, ex_l (e.trans g.ex) hq, ?_, q _ B2 H2 g (.int x)⟩
    have hl := (List.getElem?_eq_some_iff.mp hx).1
    unfold atI
    rw [ixN_nat (by rw [List.length_map]; exact hl)]
    show (ns.map V.int)[j]? = _
    rw [List.getElem?_map, hx]
    rfl⟩
theorem ed_lenQ {a : Addr} {xs : List V} {i : Nat} (h : σ[i]? = some (some (.ref a))) (hq : SqL K B a xs) : EvD (tCB (rLenS K) (tCons (tVar i) tNil)) σ B (dNat xs.length) := fun H1 e Q q =>
  ⟨_, h, a, xs, rfl, Or.inl (ex_l e hq), q _ B H1 (.refl e) (.int _)⟩
theorem ed_slQ {a : Addr} {ns : List Int} {i : Nat} {tl th : TO} {lo hi : Option Int} (h : σ[i]? = some (some (.ref a))) (hq : SqL K B a (ns.map V.int)) (h1 : EvP tl σ B lo) (h2 : EvP th σ B hi) : EvD (tSl (rSlL K) (tVar i) tl th) σ B (dInts (cutD ns lo hi)) := fun H1 e Q q =>
  ⟨_, h, h1 H1 e _ fun B3 H3 g3 => (h2.mono g3.base) H3 g3.sub _ fun B4 H4 g4 => by
    refine ⟨a, _, rfl, ex_l ((e.trans g3.ex).trans g4.ex) hq, fun p hp => ?_⟩
    have g5 := Grow.new (o := .lst (cutV (ns.map V.int) lo hi)) g4.sub hp
    refine q _ _ _ ((g3.trans g4).trans g5) (.lst upd_same ?_)
    have : cutV (ns.map V.int) lo hi = (cutD ns lo hi).map V.int := by
      unfold cutV cutD
      rw [List.length_map, List.map_take, List.map_drop]
    rw [this]
    exact DtAll.ofInts _⟩
theorem sqL_mut {r C a dx : Addr} {fs : List (Str × V)} {B' : Hp} {xs : List V} (hr : B r = some (.ins C dx fs)) (e : ∀ b o, b ≠ r → B b = some o → B' b = some o) (h : SqL K B a xs) : SqL K B' a xs := by
  rcases h with h | h
  · rcases h with h | ⟨o, h⟩
    · exact Or.inl (Or.inl (e _ _ (ne_of h hr (by intro z; cases z)) h))
    · exact Or.inl (Or.inr ⟨o, e _ _ (ne_of h hr (by intro z; cases z)) h⟩)
  · exact Or.inr h
theorem qd_while (W : Nat → L2.St → Hp → Prop) (m0 : Nat) (h0 : W m0 σ H)
    (hs : ∀ m σ' H', W m σ' H' → ∃ A b, Ex A H' ∧ EvB t σ' A b ∧ (b = true → ∀ A2 H2, Grow A H' A2 H2 → ∃ N : L2.St → Hp → Prop, (∀ σ2 H3, N σ2 H3 → ∃ m', m' < m ∧ W m' σ2 H3) ∧ tu { D with nx := N, ct := N, bk := tz D } σ' H2) ∧ (b = false → ∀ A2 H2, Grow A H' A2 H2 → tz D σ' H2)) :
    tSeq (tWhile t tu) tz D σ H :=
  ⟨W, ⟨m0, h0⟩, fun m σ' H' hw => by
    obtain ⟨A, b, e, hb, h1, h2⟩ := hs m σ' H' hw
    refine hb H' e _ fun A2 H2 g => ?_
    cases b with
    | true => exact h1 rfl A2 H2 g
    | false => exact h2 rfl A2 H2 g⟩
end
theorem wid_table : ∀ k : Nat, k < 23 → widths[k]? = some (wid k : Int) := by decide
section
variable {K : PySem.W.Frag} {C : Addr} {mg : Str → Option Value} {a_WIDTHS : Addr}
theorem ed_widths (T : Txt K mg C a_WIDTHS) {σ : L2.St} {B : Hp} {tb : TE} {k : Nat} (hk : k < 23) (hb : EvD tb σ B (dNat k)) : EvD (tOp (rIxT K) (tC (.ref a_WIDTHS)) tb) σ B (dNat (wid k)) := fun H1 e Q q => hb H1 e _ fun v B2 H2 g hv => by
  cases hv
  refine ⟨a_WIDTHS, _, (k : Int), .int (wid k : Int), rfl, rfl, T.w_WIDTHS H2, ?_, q _ B2 H2 g (.int _)⟩
  have hw := wid_table k hk
  unfold atI
  rw [ixN_nat (by rw [List.length_map]; exact hk)]
  show (widths.map V.int)[k]? = _
  rw [List.getElem?_map, hw]
  rfl
theorem pu_end (T : Txt K mg C a_WIDTHS) (vs : List V) (H : Hp) (Q : VK) (E : XK) (h : spEnd K vs H Q E) : t_call_end K C a_WIDTHS { nx := fun _ H' => Q .non H', rt := Q } (start n_call_end vs) H := by
  obtain ⟨B, a, ns, at_, e', rfl, e, hq, he, k⟩ := h
  have hadd : ∀ {σ : L2.St} {B : Hp} {ta tb : TE} {i j : Nat}, EvD ta σ B (dNat i) → EvD tb σ B (dNat j) → EvD (tOp rAdd ta tb) σ B (dNat (i + j)) := fun h1 h2 =>
    ed_op h1 h2 (rd_I0 fun B => by
      show Dt B (.int (_ + _)) (.int _)
      rw [← Int.natCast_add]
      exact .int _)
  rcases he with ⟨c, hc, h23, h12, rfl⟩ | ⟨hc, m, hm, rfl⟩
  · refine qd_asg (hadd (hadd (ed_var rfl (.int (at_ : Int))) (ed_int (i := 1))) (ed_widths T h23 (ed_ixQ rfl hq (ed_var rfl (.int (at_ : Int))) hc))) e fun v B2 H2 g2 hv => ?_
    refine qd_when (b := false) (eb_test (ed_is (ed_op (ed_ixQ rfl (ex_l g2.base hq) (ed_var rfl (.int (at_ : Int))) hc) ed_int rd_eqI) (by rw [decide_eq_false (by omega)]))) g2.sub (fun hb => by cases hb) (fun _ B3 H3 g3 => ?_)
    refine sd_ret (ed_var rfl (hv.ex g3.base)) g3.sub fun w B4 H4 g4 hw => ?_
    cases hw
    exact k B4 H4 ((g2.trans g3).trans g4)
  · refine qd_asg (hadd (hadd (ed_var rfl (.int (at_ : Int))) (ed_int (i := 1))) (ed_widths T (k := 12) (by decide) (ed_ixQ rfl hq (ed_var rfl (.int (at_ : Int))) hc))) e fun v B2 H2 g2 hv => ?_
    refine qd_when (b := true) (eb_test (ed_is (ed_op (ed_ixQ rfl (ex_l g2.base hq) (ed_var rfl (.int (at_ : Int))) hc) ed_int rd_eqI) (by rw [decide_eq_true rfl]))) g2.sub (fun _ B3 H3 g3 => ?_) (fun hb => by cases hb)
    refine sd_ret (hadd (ed_var rfl (hv.ex g3.base)) (ed_ixQ rfl (ex_l (g2.base.trans g3.base) hq) (hadd (ed_var rfl (.int (at_ : Int))) (ed_int (i := 1))) hm)) g3.sub fun w B4 H4 g4 hw => ?_
    cases hw
    have := k B4 H4 ((g2.trans g3).trans g4)
    rw [show at_ + 2 + m = at_ + 1 + wid 12 + m from rfl] at this
    exact this

theorem cut_nat {α : Type} {l : List α} {i j : Nat} (hi : i ≤ l.length) (hj : j ≤ l.length) : cutD l (some (i : Int)) (some (j : Int)) = (l.drop i).take (j - i) := by
  unfold cutD
  rw [HT.sIx_nat, HT.sIx_nat, Nat.min_eq_left hi, Nat.min_eq_left hj]
/-- the call at a place: where it ends, what is handed with it -/
theorem call_at {ns : List Int} (pos : ∀ x ∈ ns, 0 ≤ x) {at_ f : Nat} {cs : List (List (List Int))} (hat : at_ < ns.length) (h : PyFlat.calls PyKv416.shape f (ns.drop at_) = some cs) :
    ∃ (p e f' : Nat) (given : List Int) (c : List (List Int)) (cs' : List (List (List Int))), ns[at_]? = some (p : Int) ∧ EndOf ns at_ e ∧ at_ < e ∧ e ≤ ns.length ∧ given = (ns.drop (at_ + 1)).take (e - (at_ + 1)) ∧ CallOf p given c ∧ (∀ x ∈ given, 0 ≤ x) ∧
      PyFlat.calls PyKv416.shape f' (ns.drop e) = some cs' ∧ cs = c :: cs' := by
  have hd : ns.drop at_ = ns[at_] :: ns.drop (at_ + 1) := List.drop_eq_getElem_cons hat
  rw [hd] at h
  obtain ⟨f', c, t, cs', hc, hcs, rfl⟩ := calls_cons h
  have pg : ∀ n, ∀ x ∈ (ns.drop (at_ + 1)).take n, 0 ≤ x := fun n x hx => pos x (List.mem_of_mem_drop (List.mem_of_mem_take hx))
  have hn : ns[at_]? = some ns[at_] := List.getElem?_eq_getElem hat
  rcases call_in hc with ⟨hp, m, r', hr, hm, rfl, rfl⟩ | ⟨k, hp, h23, h12, hw, rfl, rfl⟩
  · have hl : (ns.drop (at_ + 1)).length = r'.length + 1 := by rw [hr]; rfl
    rw [List.length_drop] at hl
    have h1 : ns[at_ + 1]? = some (m : Int) := by
      have : (ns.drop (at_ + 1))[0]? = some (m : Int) := by rw [hr]; rfl
      rw [List.getElem?_drop] at this
      exact this
    have hg : (ns.drop (at_ + 1)).take (at_ + 2 + m - (at_ + 1)) = (m : Int) :: r'.take m := by
      rw [hr, show at_ + 2 + m - (at_ + 1) = m + 1 by omega]
      rfl
    have ht : ns.drop (at_ + 2 + m) = r'.drop m := by
      have : ns.drop (at_ + 2) = r' := by
        rw [show at_ + 2 = at_ + 1 + 1 from rfl, ← List.drop_drop, hr]
        rfl
      rw [← this, List.drop_drop]
    refine ⟨12, at_ + 2 + m, f', _, _, cs', by rw [hn, hp]; rfl, .inr ⟨by rw [hn, hp], m, h1, rfl⟩, by omega, by omega, hg.symm, .inr ⟨rfl, r'.take m, ?_, rfl⟩, ?_, by rw [ht]; exact hcs, rfl⟩
    · rw [List.length_take, Nat.min_eq_left hm]
    · rw [← hg]
      exact pg _
  · rw [List.length_drop] at hw
    refine ⟨k, at_ + 1 + wid k, f', _, _, cs', by rw [hn, hp], .inl ⟨k, by rw [hn, hp], h23, h12, rfl⟩, by omega, by omega, by rw [show at_ + 1 + wid k - (at_ + 1) = wid k by omega], .inl ⟨h23, h12, ?_, rfl⟩, pg _, by rw [← List.drop_drop]; exact hcs, rfl⟩
    rw [List.length_take, List.length_drop]
    omega
theorem wid_few : ∀ p : Nat, p < 23 → wid p ≤ 2 := by decide
theorem call_short {p : Nat} {given : List Int} {c : List (List Int)} (h : CallOf p given c) (hb : PyInside.call PyKv416.bound c = true) : given.length ≤ 60 := by
  rcases h with ⟨h23, _, hw, _⟩ | ⟨rfl, row, rfl, rfl⟩
  · have := wid_few p h23
    omega
  · have e : PyInside.call PyKv416.bound [[12], row] = (true && (decide (0 ≤ row.length) && decide (row.length ≤ 16) && row.all (PyInside.within 0 65535) && true)) := rfl
    rw [e, Bool.true_and, Bool.and_true, Bool.and_eq_true, Bool.and_eq_true, decide_eq_true_iff, decide_eq_true_iff] at hb
    have := hb.1.2
    rw [List.length_cons]
    omega
theorem pu_answers (T : Txt K mg C a_WIDTHS) (vs : List V) (H : Hp) (Q : VK) (E : XK) (h : spAns K vs H Q E) : t_answers K C (spEnd K) (spAnswer C) (spInit C) { nx := fun _ H' => Q .non H', rt := Q } (start n_answers vs) H := by
  obtain ⟨a, ns, rfl, hq, hlen, pos, asked, k⟩ := h
  obtain ⟨cs0, hc0, ha0, hfew⟩ := asked_calls asked
  have hin0 : cs0.all (PyInside.call PyKv416.bound) = true := by
    obtain ⟨cs1, h1, h2, _⟩ := asked_fits asked
    rw [hc0] at h1
    cases h1
    exact h2
  intro r dx hr hdx hne
  refine ⟨r, dx, rfl, upd_same, fun B0 H1 R0 ex0 eB0 out0 => ⟨rfl, ?_⟩⟩
  have eH : Ex H H1 := fun b o h => by
    have h1 : b ≠ r := ne_of_none h hr
    have h2 : b ≠ dx := ne_of_none h hdx
    exact ex0 b o h1 (by rw [upd_ne h1, upd_ne h2]; exact h)
  have eJ : Ex (join H B0) H1 := ex_join eH eB0
  show tSeq _ _ _ [some (.ref a), some (.ref r), none, none, none, none] H1
  refine ⟨Nat.zero_le _, fun p hp => ?_⟩
  show tSeq (tWhile _ _) (tRet _) _ [some (.ref a), some (.ref r), some (.ref p), some (.int 0), none, none] (upd H1 p (.lst []))
  refine qd_while (fun k σ' H' => ∃ (at_ f : Nat) (B : Hp) (s : Kv416.State) (m : Kv416.Abs) (cs : List (List (List Int))) (done : List Int) (x y : Option V), σ' = [some (.ref a), some (.ref r), some (.ref p), some (.int (at_ : Int)), x, y] ∧ k = ns.length - at_ ∧ at_ ≤ ns.length ∧
      SqL K B a (ns.map V.int) ∧ RecAt C B r m ∧ Rep s m ∧ Ex B H' ∧ B p = none ∧ H' p = some (.lst (done.map V.int)) ∧ PyFlat.calls PyKv416.shape f (ns.drop at_) = some cs ∧ PyKv416.answers ns = done ++ tail s cs ∧ cs.all (PyInside.call PyKv416.bound) = true) ns.length
    ⟨0, _, join H B0, none, m0, cs0, [], none, none, rfl, rfl, Nat.zero_le _, ex_l (ex_joinL H B0) hq, R0.mono (ex_joinR eH eB0), Or.inl ⟨rfl, rfl⟩, eJ.trans (Ex.new hp), fresh_back eJ hp, upd_same, hc0, ha0, hin0⟩ ?_
  rintro k' σ' H' ⟨at_, f, B, s, m, cs, done, x, y, rfl, rfl, hat, hqB, R, rep, eB, hpB, hpH, hcs, hans, hin⟩
  refine ⟨B, decide (at_ < ns.length), eB, eb_test (ed_is (ed_op (ed_var rfl (.int (at_ : Int))) (ed_lenQ rfl hqB) (rd_I0 (d := .bool (decide ((at_ : Int) < ((ns.map V.int).length : Int)))) fun B => .bl _)) ?_), fun hb B2 H2 g2 => ?_, fun hb B2 H2 g2 => ?_⟩
  · congr 1
    rw [List.length_map]
    exact decide_eq_decide.mpr (by omega)
  · have hlt := of_decide_eq_true hb
    obtain ⟨pc, e', f', given, c, cs', hpc, hend, h1, h2, hg, hcall, hpos, hcs', rfl⟩ := call_at pos hlt hcs
    refine ⟨fun σ2 H3 => ∃ m', m' < ns.length - at_ ∧ ∃ (at_ f : Nat) (B : Hp) (s : Kv416.State) (m : Kv416.Abs) (cs : List (List (List Int))) (done : List Int) (x y : Option V), σ2 = [some (.ref a), some (.ref r), some (.ref p), some (.int (at_ : Int)), x, y] ∧ m' = ns.length - at_ ∧ at_ ≤ ns.length ∧
      SqL K B a (ns.map V.int) ∧ RecAt C B r m ∧ Rep s m ∧ Ex B H3 ∧ B p = none ∧ H3 p = some (.lst (done.map V.int)) ∧ PyFlat.calls PyKv416.shape f (ns.drop at_) = some cs ∧ PyKv416.answers ns = done ++ tail s cs ∧ cs.all (PyInside.call PyKv416.bound) = true, fun σ2 H3 h => h, ?_⟩
    have hpB2 : B2 p = none := g2.out p hpB (by rw [hpH]; simp)
    -- end = call_end(calls, at)
    refine ⟨_, rfl, _, rfl, B2, a, ns, at_, e', rfl, g2.sub, ex_l g2.base hqB, hend, fun B3 H3 g3 => ?_⟩
    have g23 := g2.trans g3
    show tSeq _ _ _ [some (.ref a), some (.ref r), some (.ref p), some (.int (at_ : Int)), some (.int (e' : Int)), y] H3
    -- numbers = answer_call(record, calls[at], calls[at + 1:end])
    refine ⟨_, rfl, ed_ixQ rfl (ex_l g23.base hqB) (ed_var rfl (.int (at_ : Int))) hpc H3 g3.sub _ fun v4 B4 H4 g4 hv4 => ?_⟩
    cases hv4
    refine ed_slQ (σ := [some (.ref a), some (.ref r), some (.ref p), some (.int (at_ : Int)), some (.int (e' : Int)), y]) rfl (ex_l (g23.base.trans g4.base) hqB) (ep_some (i := ((at_ + 1 : Nat) : Int)) (ed_op (ed_var rfl (.int (at_ : Int))) (ed_int (i := 1)) (rd_I0 fun B => by
      show Dt B (.int ((at_ : Int) + 1)) (.int ((at_ + 1 : Nat) : Int))
      rw [Int.natCast_add]
      exact .int _))) (ep_some (i := (e' : Int)) (ed_var rfl (.int (e' : Int)))) H4 g4.sub _ fun v5 B5 H5 g5 hv5 => ?_
    rw [cut_nat (by omega) h2, ← hg] at hv5
    have g25 := (g23.trans g4).trans g5
    have R5 := R.mono g25.base
    rw [List.all_cons, Bool.and_eq_true] at hin
    have hgl : given.length ≤ 60 := call_short hcall hin.1
    refine ⟨B5, r, m, s, pc, v5, given, c, rfl, g25.sub, R5, rep, hv5, hcall, hpos, hgl, fun v6 B6 H6 m6 mu R6 rep6 hv6 => ?_⟩
    show tSeq _ _ _ [some (.ref a), some (.ref r), some (.ref p), some (.int (at_ : Int)), some (.int (e' : Int)), some v6] H6
    obtain ⟨dx5, tv5, ev5, hr5, _, _⟩ := R5.ex
    have hpB5 : B5 p = none := g25.out p hpB (by rw [hpH]; simp)
    have hpH5 : H5 p = some (.lst (done.map V.int)) := g25.ex _ _ hpH
    have hpr : p ≠ r := fun z => by rw [z, hr5] at hpB5; cases hpB5
    have hpB6 : B6 p = none := mu.out p hpB5 (by rw [hpH5]; simp)
    have hpH6 : H6 p = some (.lst (done.map V.int)) := mu.ex _ _ hpr hpH5
    obtain ⟨b6, zs, rfl, hb6, hall6⟩ := dt_list hv6
    have hzs := hall6.ints
    subst hzs
    have hdl : done.length + ((Kv416Neutral.step s c).2.length + 1) ≤ 10000000 := by
      have := congrArg List.length hans
      rw [tail_cons, List.length_append, List.length_append, List.length_cons] at this
      omega
    have hsz := sizeLine_eq
    have hbp : b6 ≠ p := fun z => by rw [z, hpB6] at hb6; cases hb6
    -- answered.append(len(numbers))
    refine ⟨_, rfl, Or.inl ⟨rfl, _, sq_of hpH6⟩, _, rfl, b6, _, rfl, Or.inl (sq_of (mu.sub _ _ hb6)), p, _, _, rfl, rfl, hpH6, by rw [List.length_map]; omega, ?_⟩
    -- answered.extend(numbers)
    refine ⟨_, rfl, Or.inl ⟨rfl, _, sq_of upd_same⟩, _, rfl, p, b6, _, _, rfl, rfl, upd_same, by rw [upd_ne hbp]; exact mu.sub _ _ hb6, ?_, ?_⟩
    · rw [List.length_append, List.length_map, List.length_map]
      show _ + 1 + _ ≤ _
      omega
    -- at = end
    refine ⟨_, rfl, ns.length - e', by omega, e', f', B6, _, m6, cs', done ++ ((Kv416Neutral.step s c).2.length : Int) :: (Kv416Neutral.step s c).2, some (.int (e' : Int)), some (.ref b6), rfl, rfl, h2, ?_, R6, rep6, ?_, hpB6, ?_, hcs', ?_⟩
    · exact sqL_mut hr5 mu.base (ex_l g25.base hqB)
    · exact Ex.mut (Ex.mut mu.sub hpB6) hpB6
    · rw [upd_same, List.map_append, List.map_cons, List.length_map, List.append_assoc]
      rfl
    · exact ⟨by rw [hans, tail_cons, List.append_assoc], hin.2⟩
  · have hge : ns.length ≤ at_ := Nat.le_of_not_lt (of_decide_eq_false hb)
    have e0 : at_ = ns.length := by omega
    subst e0
    rw [List.drop_length] at hcs
    cases calls_nil hcs
    rw [tail_nil, List.append_nil] at hans
    refine ⟨_, rfl, k H2 p ?_⟩
    rw [g2.ex _ _ hpH, hans]
end
/-- the request -/
theorem sp_of (K : PySem.W.Frag) (H : Hp) (xs : List V) (a : PySem.W.Codec.denoteAll PySem.Challenge.rw_ordersalone_s01_answers.args) (hO : OnlyF H) (hwi : PySem.W.Codec.withinAll PySem.Challenge.rw_ordersalone_s01_answers.args a = true)
    (hask : PySem.W.Codec.app PySem.Challenge.rw_ordersalone_s01_answers.args PySem.Challenge.rw_ordersalone_s01_answers.asked a = true) (hx : DwAll K H xs (PySem.W.Codec.encAll PySem.Challenge.rw_ordersalone_s01_answers.args a)) :
    spAns K xs H (fun v H' => Dw K H' v (PySem.Challenge.rw_ordersalone_s01_answers.ret.enc (PySem.W.Codec.app PySem.Challenge.rw_ordersalone_s01_answers.args PySem.Challenge.rw_ordersalone_s01_answers.f a))) fun _ _ _ => False := by
  cases hx with
  | cons h1 h2 =>
    cases h2
    cases h1 with
    | lst hs ha =>
      have e := L2.ints_dw a.1 _ ha
      subst e
      have q : ((PySem.W.Codec.inLen 0 5200 a.1 && a.1.all (PySem.W.Codec.inInt 0 4294967295)) && true) = true := hwi
      rw [Bool.and_true, Bool.and_eq_true] at q
      refine ⟨_, a.1, rfl, hs, (PySem.W.Codec.inNat_iff.mp q.1).2, fun x hx => ?_, hask, fun H' p hp => .lst (L2.SqL.of hp) (L2.dw_ints _)⟩
      have := List.all_eq_true.mp q.2 x hx
      have := PySem.W.Codec.inInt_iff.mp this
      exact this.1
/-! lengths of what is handed to a def -/
theorem lnP {pre : List PyData → PyData → Prop} {n : Nat} (h : ∀ ds d, pre ds d → ds.length = n) (vs : List V) (H : Hp) (Q : VK) (E : XK) (q : prm pre vs H Q E) : vs.length = n := by
  obtain ⟨B, ds, d, e, hv, hp, k⟩ := q
  rw [hv.length]
  exact h ds d hp
theorem lnR {C : Addr} {pre : Kv416.Abs → List PyData → PyData → Prop} {n : Nat} (h : ∀ m ds d, pre m ds d → ds.length = n) (vs : List V) (H : Hp) (Q : VK) (E : XK) (q : prR C pre vs H Q E) : vs.length = n + 1 := by
  obtain ⟨B, r, m, ws, ds, d, rfl, e, R, hv, hp, k⟩ := q
  rw [List.length_cons, hv.length, h m ds d hp]
theorem lnL {C : Addr} {mk : List Nat → Kv416.Call} {n : Nat} (vs : List V) (H : Hp) (Q : VK) (E : XK) (q : prR C (prLook mk n) vs H Q E) : vs.length = n + 1 :=
  lnR (fun m ds d ⟨_, l, hl, hd, _⟩ => by rw [hd, List.length_map]; exact hl) vs H Q E q
theorem lnC {C : Addr} {mk : List Nat → Kv416.Call} {n : Nat} (vs : List V) (H : Hp) (Q : VK) (E : XK) (q : prCall C mk n vs H Q E) : vs.length = n + 1 := by
  obtain ⟨B, r, m, l, rfl, e, R, fi, hl, k⟩ := q
  rw [List.length_cons, List.length_map, hl]
end Oa

set_option Elab.async false
set_option linter.all false
set_option maxRecDepth 100000
set_option maxHeartbeats 2000000
/-! Which def answers which call. -/
namespace Oa
open PySem PySem.Spec PyProof.Rows L2 Evl

/-- the specification's call by its place and its numbers (of fits: the row's length, then the row) -/
def callAt (p : Nat) (l : List Nat) : Kv416.Call := match p with
  | 0 => .begin_ (l.getD 0 0)
  | 1 => .tell (l.getD 0 0) (l.getD 1 0)
  | 2 => .untell (l.getD 0 0) (l.getD 1 0)
  | 3 => .turn
  | 4 => .without (l.getD 0 0)
  | 5 => .told
  | 6 => .heard (l.getD 0 0) (l.getD 1 0)
  | 7 => .pairs
  | 8 => .past (l.getD 0 0)
  | 9 => .links
  | 10 => .orders
  | 11 => .order (l.getD 0 0)
  | 12 => .fits (l.drop 1)
  | 13 => .first
  | 14 => .sooner (l.getD 0 0) (l.getD 1 0)
  | 15 => .place (l.getD 0 0)
  | 16 => .line
  | 17 => .events
  | 18 => .fewest
  | 19 => .row
  | 20 => .apart
  | 21 => .back
  | _ => .state
/-- as many numbers as the call has -/
def Shape (p : Nat) (l : List Nat) : Prop := p < 23 ∧ (p ≠ 12 → l.length = wid p) ∧ (p = 12 → ∃ row, l = row.length :: row)
theorem nats_of {l : List Int} (h : ∀ x ∈ l, 0 ≤ x) : ∃ n : List Nat, l = n.map fun (x : Nat) => (x : Int) := by
  refine ⟨l.map Int.toNat, ?_⟩
  rw [List.map_map]
  have : ∀ x ∈ l, (((fun (x : Nat) => (x : Int)) ∘ Int.toNat) x) = x := fun x hx => Int.toNat_of_nonneg (h x hx)
  rw [List.map_congr_left this, List.map_id']
theorem dInts_nats (l : List Nat) : dInts (l.map fun (x : Nat) => (x : Int)) = dNats l := by
  unfold dInts dNats
  rw [List.map_map]
  rfl
theorem callOf_at {p : Nat} {given : List Int} {c : List (List Int)} (h : CallOf p given c) (pos : ∀ x ∈ given, 0 ≤ x) : ∃ l : List Nat, given = l.map (fun (x : Nat) => (x : Int)) ∧ Shape p l ∧ Kv416Neutral.callOf c = some (callAt p l) := by
  rcases h with ⟨h23, h12, hw, rfl⟩ | ⟨rfl, row, rfl, rfl⟩
  · obtain ⟨l, rfl⟩ := nats_of pos
    rw [List.length_map] at hw
    refine ⟨l, rfl, ⟨h23, fun _ => hw, fun z => absurd z h12⟩, ?_⟩
    have a0 : l.length = 0 → l = [] := len0
    have a1 : l.length = 1 → ∃ i, l = [i] := len1
    have a2 : l.length = 2 → ∃ i j, l = [i, j] := len2
    match p, h23, h12, hw with
    | 0, _, _, hw => obtain ⟨i, rfl⟩ := a1 hw; rfl
    | 1, _, _, hw => obtain ⟨i, j, rfl⟩ := a2 hw; rfl
    | 2, _, _, hw => obtain ⟨i, j, rfl⟩ := a2 hw; rfl
    | 3, _, _, hw => cases a0 hw; rfl
    | 4, _, _, hw => obtain ⟨i, rfl⟩ := a1 hw; rfl
    | 5, _, _, hw => cases a0 hw; rfl
    | 6, _, _, hw => obtain ⟨i, j, rfl⟩ := a2 hw; rfl
    | 7, _, _, hw => cases a0 hw; rfl
    | 8, _, _, hw => obtain ⟨i, rfl⟩ := a1 hw; rfl
    | 9, _, _, hw => cases a0 hw; rfl
    | 10, _, _, hw => cases a0 hw; rfl
    | 11, _, _, hw => obtain ⟨i, rfl⟩ := a1 hw; rfl
    | 12, _, h, _ => exact absurd rfl h
    | 13, _, _, hw => cases a0 hw; rfl
    | 14, _, _, hw => obtain ⟨i, j, rfl⟩ := a2 hw; rfl
    | 15, _, _, hw => obtain ⟨i, rfl⟩ := a1 hw; rfl
    | 16, _, _, hw => cases a0 hw; rfl
    | 17, _, _, hw => cases a0 hw; rfl
    | 18, _, _, hw => cases a0 hw; rfl
    | 19, _, _, hw => cases a0 hw; rfl
    | 20, _, _, hw => cases a0 hw; rfl
    | 21, _, _, hw => cases a0 hw; rfl
    | 22, _, _, hw => cases a0 hw; rfl
    | p + 23, h, _, _ => omega
  · obtain ⟨l, rfl⟩ := nats_of fun x hx => pos x (List.mem_cons_of_mem _ hx)
    refine ⟨l.length :: l, by rw [List.length_map]; rfl, ⟨by decide, fun z => absurd rfl z, fun _ => ⟨l, rfl⟩⟩, ?_⟩
    show some (Kv416.Call.fits (Kv416Neutral.nats (l.map fun (x : Nat) => (x : Int)))) = some (.fits l)
    unfold Kv416Neutral.nats
    rw [List.map_map]
    have : ∀ x ∈ l, ((Int.toNat ∘ fun (x : Nat) => (x : Int)) x) = x := fun x _ => Int.toNat_natCast x
    rw [List.map_congr_left this, List.map_id']
theorem step_some {m : Kv416.Abs} {c : List (List Int)} {x : Kv416.Call} (h : Kv416Neutral.callOf c = some x) : Kv416Neutral.step (some m) c = (some (m.does x).1, Kv416Neutral.row (m.does x).2) := by
  unfold Kv416Neutral.step
  rw [h]
  rfl
theorem step_none {c : List (List Int)} {p : Nat} {l : List Nat} (h : Kv416Neutral.callOf c = some (callAt p l)) (hp : p ≠ 0) (h23 : p < 23) : Kv416Neutral.step none c = (none, [-11]) := by
  unfold Kv416Neutral.step
  rw [h]
  match p, hp, h23 with
  | 0, hp, _ => exact absurd rfl hp
  | 1, _, _ => rfl
  | 2, _, _ => rfl
  | 3, _, _ => rfl
  | 4, _, _ => rfl
  | 5, _, _ => rfl
  | 6, _, _ => rfl
  | 7, _, _ => rfl
  | 8, _, _ => rfl
  | 9, _, _ => rfl
  | 10, _, _ => rfl
  | 11, _, _ => rfl
  | 12, _, _ => rfl
  | 13, _, _ => rfl
  | 14, _, _ => rfl
  | 15, _, _ => rfl
  | 16, _, _ => rfl
  | 17, _, _ => rfl
  | 18, _, _ => rfl
  | 19, _, _ => rfl
  | 20, _, _ => rfl
  | 21, _, _ => rfl
  | 22, _, _ => rfl
  | p + 23, _, h => omega
/-- begin, begun or not -/
theorem step_begin {s : Kv416.State} {m : Kv416.Abs} {c : List (List Int)} {n : Nat} (rep : Rep s m) (h : Kv416Neutral.callOf c = some (.begin_ n)) :
    (Kv416Neutral.step s c).2 = Kv416Neutral.row (m.does (.begin_ n)).2 ∧ Rep (Kv416Neutral.step s c).1 (m.does (.begin_ n)).1 := by
  rcases rep with ⟨rfl, rfl⟩ | ⟨rfl, fi⟩
  · unfold Kv416Neutral.step
    rw [h]
    by_cases hn : n = 0 ∨ 6 < n
    · have e1 : (Kv416.Abs.mk ⟨1, []⟩ []).does (.begin_ n) = (⟨⟨1, []⟩, []⟩, Kv416.say (-22)) := if_pos hn
      have e2 : m0.does (.begin_ n) = (m0, Kv416.say (-22)) := if_pos hn
      have e3 : Kv416.act none (.begin_ n) = (none, Kv416.say (-22)) := by
        show (if ((Kv416.Abs.mk ⟨1, []⟩ []).does (.begin_ n)).2.ret < 0 then (none, ((Kv416.Abs.mk ⟨1, []⟩ []).does (.begin_ n)).2) else (some ((Kv416.Abs.mk ⟨1, []⟩ []).does (.begin_ n)).1, ((Kv416.Abs.mk ⟨1, []⟩ []).does (.begin_ n)).2)) = _
        rw [e1]
        rfl
      rw [e2]
      show Kv416Neutral.row (Kv416.act none (.begin_ n)).2 = _ ∧ Rep (Kv416.act none (.begin_ n)).1 m0
      rw [e3]
      exact ⟨rfl, Or.inl ⟨rfl, rfl⟩⟩
    · have e1 : (Kv416.Abs.mk ⟨1, []⟩ []).does (.begin_ n) = (⟨⟨n, []⟩, []⟩, Kv416.say 0) := if_neg hn
      have e2 : m0.does (.begin_ n) = (⟨⟨n, []⟩, []⟩, Kv416.say 0) := if_neg hn
      have e3 : Kv416.act none (.begin_ n) = (some ⟨⟨n, []⟩, []⟩, Kv416.say 0) := by
        show (if ((Kv416.Abs.mk ⟨1, []⟩ []).does (.begin_ n)).2.ret < 0 then (none, ((Kv416.Abs.mk ⟨1, []⟩ []).does (.begin_ n)).2) else (some ((Kv416.Abs.mk ⟨1, []⟩ []).does (.begin_ n)).1, ((Kv416.Abs.mk ⟨1, []⟩ []).does (.begin_ n)).2)) = _
        rw [e1]
        rfl
      rw [e2]
      show Kv416Neutral.row (Kv416.act none (.begin_ n)).2 = _ ∧ Rep (Kv416.act none (.begin_ n)).1 _
      rw [e3]
      exact ⟨rfl, Or.inr ⟨rfl, good_begin hn, (fun w h => by cases h), Nat.zero_le _⟩⟩
  · rw [step_some h]
    exact ⟨rfl, Or.inr ⟨rfl, fine_does fi _⟩⟩
/-- a def that answers some of the calls, once begun -/
def spAct (C : Addr) (P : Nat → Prop) : Sp := fun vs H Q _ => ∃ B r m p gv l, vs = [.ref r, .int ((p : Nat) : Int), gv] ∧ Ex B H ∧ RecAt C B r m ∧ Fine m ∧ P p ∧ Shape p l ∧ l.length ≤ 60 ∧ Dt B gv (dNats l) ∧
  ∀ v B2 H2, Mut r B H B2 H2 → RecAt C B2 r (m.does (callAt p l)).1 → Dt B2 v (dAns (m.does (callAt p l)).2) → Q v H2
section
variable {K : PySem.W.Frag} {C : Addr} {σ : L2.St} {B H : Hp} {r : Addr} {m : Kv416.Abs} {D : Ends} {ta : TA} {E : XK}
theorem ed_given {gv : V} {l : List Nat} {i j : Nat} {x : Nat} (h : σ[i]? = some (some gv)) (hg : Dt B gv (dNats l)) (hx : l[j]? = some x) : EvD (tOp (rIxL K) (tVar i) (tC (.int (j : Int)))) σ B (dNat x) :=
  ed_op (ed_var h hg) (ed_int (i := (j : Int))) (rd_ixL (by rw [List.getElem?_map, hx]; rfl))
theorem eb_is_ {p : Nat} {i : Nat} {c : Nat} (h : σ[i]? = some (some (.int (p : Int)))) : EvB (tTest (tOp rEq (tVar i) (tC (.int (c : Int))))) σ B (decide (p = c)) :=
  eb_is (eb_test (ed_op (ed_var h (.int _)) (ed_int (i := (c : Int))) rd_eqI)) (decide_eq_decide.mpr (by omega))
/-- return f(record, ..) of a call that changes -/
theorem sd_callC {mk : List Nat → Kv416.Call} {k i : Nat} {l : List Nat} (hs : σ[i]? = some (some (.ref r))) (R : RecAt C B r m) (fi : Fine m) (e : Ex B H) (ha : EvDA ta σ B (l.map dNat)) (hl : l.length = k)
    (q : ∀ v B2 H2, Mut r B H B2 H2 → RecAt C B2 r (m.does (mk l)).1 → Dt B2 v (dAns (m.does (mk l)).2) → D.rt v H2) : tRet (tCall (prCall C mk k) [] E (tCons (tVar i) ta)) D σ H := by
  refine ⟨_, hs, ha H e _ fun vs B2 H2 g hv => ?_⟩
  have hv : vs = l.map fun (x : Nat) => V.int (x : Int) := by
    have e1 : l.map dNat = (l.map fun (x : Nat) => (x : Int)).map PyData.int := by rw [List.map_map]; rfl
    rw [e1] at hv
    have := hv.ints
    rw [List.map_map] at this
    exact this
  subst hv
  exact ⟨B2, r, m, l, by rw [List.append_nil], g.sub, R.mono g.base, fi, hl, fun v B3 H3 mu R3 hd => q v B3 H3 (Mut.ahead g mu) R3 hd⟩
/-- return f(record, ..) of a call that looks -/
theorem sd_callL {mk : List Nat → Kv416.Call} {k i : Nat} {l : List Nat} (hs : σ[i]? = some (some (.ref r))) (R : RecAt C B r m) (fi : Fine m) (e : Ex B H) (ha : EvDA ta σ B (l.map dNat)) (hl : l.length = k) (hm : (m.does (mk l)).1 = m)
    (q : ∀ v B2 H2, Mut r B H B2 H2 → RecAt C B2 r (m.does (mk l)).1 → Dt B2 v (dAns (m.does (mk l)).2) → D.rt v H2) : tRet (tCall (prR C (prLook mk k)) [] E (tCons (tVar i) ta)) D σ H :=
  sd_ret (ed_callR hs R ha ⟨fi, l, hl, rfl, rfl⟩) e fun v B2 H2 g hv => q v B2 H2 g.mut (by rw [hm]; exact R.mono g.base) hv
end
end Oa

set_option Elab.async false
set_option linter.all false
set_option maxRecDepth 100000
set_option maxHeartbeats 2000000
/-! What the defs of stage 2 promise, by data: sets, orders counted, the other order, lines. -/
namespace Oa
open PySem PySem.Spec PyProof.Rows L2 Evl

section
variable {K : PySem.W.Frag} {σ : L2.St} {B H : Hp} {ta tb te : TE} {D : Ends} {tu tz : TS}
theorem Grow.ext {B H B' H' H2 : Hp} (g : Grow B H B' H') (e : Ex H' H2) : Grow B H B' H2 := ⟨g.ex.trans e, g.base, g.sub.trans e, g.out⟩
theorem ed_non : EvD (tC .non) σ B .none := ed_c .non
theorem eb_tru {ds : List PyData} (h : EvD te σ B (.list ds)) : EvB (tTru K te) σ B (!ds.isEmpty) := fun H1 e Q q => h H1 e _ fun v B2 H2 g hv => by
  obtain ⟨a, xs, rfl, ha, hall⟩ := dt_list hv
  refine ⟨!ds.isEmpty, Or.inl ⟨xs, sq_of (g.sub _ _ ha), ?_⟩, q B2 H2 g⟩
  cases hall <;> rfl
theorem isEmpty_map_ {α β : Type} (f : α → β) (l : List α) : (l.map f).isEmpty = l.isEmpty := by cases l <;> rfl
theorem rd_eqB {a b : Bool} : RD rEq (.bool a) (.bool b) (.bool (a == b)) := fun B H1 e x y hx hy Q q => by
  cases hx
  cases hy
  refine ⟨rfl, ?_⟩
  have : decide (V.bl a = V.bl b) = (a == b) := by
    rw [Bool.eq_iff_iff, decide_eq_true_iff, beq_iff_eq]
    exact ⟨fun h => V.bl.inj h, fun h => congrArg _ h⟩
  rw [this]
  exact q _ B H1 (.refl e) (.bl _)
theorem last_at {α : Type} {l : List α} {x : α} (h : l.getLast? = some x) : l[l.length - 1]? = some x ∧ 0 < l.length := by
  rw [List.getLast?_eq_getElem?] at h
  have := (List.getElem?_eq_some_iff.mp h).1
  exact ⟨h, by omega⟩
/-- xs[-1] -/
theorem rd_last {ds : List PyData} {d : PyData} (h : ds.getLast? = some d) : RD (rIxL K) (.list ds) (.int (-1)) d := fun B H1 e x y hx hy Q q => by
  obtain ⟨a, xs, rfl, ha, hall⟩ := dt_list hx
  cases hy
  obtain ⟨h1, h2⟩ := last_at h
  obtain ⟨w, hw, hd⟩ := hall.at h1
  refine ⟨a, xs, -1, w, rfl, rfl, sq_of (e _ _ ha), ?_, q w B H1 (.refl e) hd⟩
  have hl := hall.length
  have hi : ixN xs.length (-1) = some (ds.length - 1) := by
    unfold ixN
    rw [if_neg (by decide), if_pos (by omega)]
    congr 1
    omega
  unfold atI
  rw [hi]
  exact hw
/-- is None, is not None -/
def isNo : PyData → Bool
  | .none => true
  | _ => false
theorem dt_no {v : V} {d : PyData} (h : Dt B v d) : decide (v = .non) = isNo d := by
  cases h <;> first | exact decide_eq_true rfl | exact decide_eq_false (by intro z; cases z)
theorem eb_isN {d : PyData} (h : EvD te σ B d) : EvB (tTest (tOp rIsN te (tC .non))) σ B (isNo d) := fun H1 e Q q => h H1 e _ fun v B2 H2 g hv => ⟨rfl, _, rfl, by
  rw [dt_no hv]
  exact q B2 H2 g⟩
theorem eb_notN {d : PyData} (h : EvD te σ B d) : EvB (tTest (tOp rNotN te (tC .non))) σ B (!isNo d) := fun H1 e Q q => h H1 e _ fun v B2 H2 g hv => ⟨rfl, _, rfl, by
  rw [dt_no hv]
  exact q B2 H2 g⟩
/-- for i in range(lo, n) -/
theorem sd_forR2 {ta : TA} {j lo n : Nat} (h : EvDA ta σ B [.int lo, .int n]) (hlo : lo ≤ n) (hn : n ≤ 100000) (e : Ex B H) (Pv : Nat → L2.St → Hp → Prop) (h0 : ∀ B2 H2, Grow B H B2 H2 → Pv lo σ H2)
    (hs : ∀ (i : Nat) σ' H', lo ≤ i → i < n → Pv i σ' H' → tu { D with nx := Pv (i + 1), ct := Pv (i + 1), bk := D.nx } (σ'.set j (some (.int (i : Int)))) H') (hd : ∀ σ' H', Pv n σ' H' → D.nx σ' H') : tFor (iRng2 ta) (gName j) tu D σ H :=
  h H e _ fun vs B2 H2 g2 hv => by
    cases hv with
    | cons hv1 hv2 =>
      cases hv1
      cases hv2 with
      | cons hv3 hv4 =>
        cases hv3
        cases hv4
        refine ⟨(lo : Int), (n : Int), rfl, by omega, for_range (lo := (lo : Int)) (n := ((n : Int) - (lo : Int)).toNat) (fun i => Pv (lo + i)) (h0 B2 H2 g2) (fun i σ' H' hi p => ?_) (fun σ' H' p => hd σ' H' ?_)⟩
        · have e0 : (lo : Int) + (i : Int) = ((lo + i : Nat) : Int) := by omega
          show tu { D with nx := Pv (lo + i + 1), ct := Pv (lo + i + 1), bk := D.nx } (σ'.set j (some (.int ((lo : Int) + (i : Int))))) H'
          rw [e0]
          exact hs (lo + i) σ' H' (by omega) (by omega) p
        · have e1 : lo + ((n : Int) - (lo : Int)).toNat = n := by omega
          have p : Pv (lo + ((n : Int) - (lo : Int)).toNat) σ' H' := p
          rw [e1] at p
          exact p
theorem cut_from {α : Type} {l : List α} {i : Nat} (hi : i ≤ l.length) : cutD l (some (i : Int)) none = l.drop i := by
  unfold cutD
  rw [HT.sIx_nat, HT.sIx_none, Nat.min_eq_left hi]
  exact List.take_of_length_le (by rw [List.length_drop]; exact Nat.le_refl _)
theorem cut_init {α : Type} {l : List α} : cutD l none (some (-1)) = l.take (l.length - 1) := by
  unfold cutD
  rw [HT.sIx_none]
  have : HT.sIx l.length l.length (some (-1)) = l.length - 1 := by
    show (if (-1 : Int) < 0 then ((-1 : Int) + (l.length : Int)).toNat else min (-1 : Int).toNat l.length) = _
    rw [if_pos (by decide)]
    omega
  rw [this]
  rfl
theorem ed_lenNats {l : List Nat} (h : EvD te σ B (dNats l)) : EvD (tCB (rLenS K) (tCons te tNil)) σ B (dNat l.length) := ed_is (ed_len h) (by rw [List.length_map])
theorem ed_lenRows {l : List (List Nat)} (h : EvD te σ B (dRows l)) : EvD (tCB (rLenS K) (tCons te tNil)) σ B (dNat l.length) := ed_is (ed_len h) (by rw [List.length_map])
/-- sorted(l) compared with list(range(n)) -/
def srt (l : List Nat) : List Nat := l.mergeSort
theorem srt_perm (l : List Nat) : (srt l).Perm l := List.mergeSort_perm l _
theorem srt_le (l : List Nat) : (srt l).Pairwise (· ≤ ·) := by
  have := List.pairwise_mergeSort (le := fun (a b : Nat) => decide (a ≤ b)) (fun a b c h1 h2 => by simp at *; omega) (fun a b => by simp; omega) l
  exact this.imp fun h => by simpa using h
theorem range_le (n : Nat) : (List.range n).Pairwise (· ≤ ·) := (range_lt n).imp fun h => Nat.le_of_lt h
theorem srt_range {l : List Nat} {n : Nat} : srt l = List.range n ↔ l.Perm (List.range n) := by
  constructor
  · intro h
    rw [← h]
    exact (srt_perm l).symm
  · intro h
    have h1 : ((srt l).map fun (x : Nat) => (x : Int)) = (List.range n).map fun (x : Nat) => (x : Int) := by
      refine sorted_one (((srt_perm l).trans h).map _) ?_ ?_
      · rw [List.pairwise_map]
        exact (srt_le l).imp fun h => by omega
      · rw [List.pairwise_map]
        exact (range_le n).imp fun h => by omega
    have h2 := congrArg (List.map Int.toNat) h1
    rw [List.map_map, List.map_map] at h2
    have e : ∀ m : List Nat, m.map (Int.toNat ∘ fun (x : Nat) => (x : Int)) = m := fun m => by
      have : (Int.toNat ∘ fun (x : Nat) => (x : Int)) = id := funext fun x => Int.toNat_natCast x
      rw [this, List.map_id]
    rw [e, e] at h2
    exact h2
theorem eb_unlike {l : List Nat} {n : Nat} (hl : EvD ta σ B (dNats l)) (hn : EvD tb σ B (dNat n)) (h64 : l.length < 64) (h : n ≤ 100000) :
    EvB (tTest (tOp (rNeD K) (tCB (rSorted K) (tCons ta tNil)) (tLstRg (tRg1 tb)))) σ B (!decide (srt l = List.range n)) :=
  eb_test (ed_op (ed_cb (ea_cons hl ea_nil) (rc_sorted (srt_perm l) (srt_le l) h64)) (ed_lrange hn h) rd_neL)
end
section
variable {K : PySem.W.Frag} {C : Addr}
/-- one_heard_of_the_other -/
def prOne (ds : List PyData) (d : PyData) : Prop := ∃ (n : Nat) (f : Nat → Nat → Bool) (i j : Nat), ds = [dTab n f, dNat i, dNat j] ∧ n ≤ 6 ∧ i < n ∧ j < n ∧ d = .bool (f i j || f j i)
theorem pu_one (vs : List V) (H : Hp) (Q : VK) (E : XK) (h : prm prOne vs H Q E) : t_one_heard_of_the_other K C { nx := fun _ H' => Q .non H', rt := Q } (start n_one_heard_of_the_other vs) H := by
  obtain ⟨B, ds, d, e, hv, ⟨n, f, i, j, rfl, hn, hi, hj, rfl⟩, k⟩ := h
  obtain _ | ⟨h1, _ | ⟨h2, _ | ⟨h3, _ | _⟩⟩⟩ := hv
  exact sd_ret (ed_orV (ed_cell (ed_var rfl h1) (ed_var rfl h2) (ed_var rfl h3) hi hj) (fun _ => ed_cell (ed_var rfl h1) (ed_var rfl h3) (ed_var rfl h2) hj hi)) e k
/-- first_events -/
def prFirst (ds : List PyData) (d : PyData) : Prop := ∃ (n : Nat) (f : Nat → Nat → Bool), ds = [dTab n f] ∧ n ≤ 6 ∧ d = dNats ((List.range n).filter fun i => (List.range n).all fun j => !f j i)
theorem pu_first (vs : List V) (H : Hp) (Q : VK) (E : XK) (h : prm prFirst vs H Q E) : t_first_events K C (prm prPast) { nx := fun _ H' => Q .non H', rt := Q } (start n_first_events vs) H := by
  obtain ⟨B, ds, d, e, hv, ⟨n, f, rfl, hn, rfl⟩, k⟩ := h
  obtain _ | ⟨h1, _ | _⟩ := hv
  refine sd_ret (ed_is (ed_lcR1 (fun i => !(!((List.range n).filter fun j => f j i).isEmpty)) dNat (ea_cons (ed_lenTab (ed_var rfl h1)) ea_nil) (by omega) (fun x => wipe1 x)
    (fun i hi => eb_is (eb_not (eb_tru (ed_call (ea_cons (ed_var rfl h1) (ea_cons (ed_var rfl (.int _)) ea_nil)) ⟨n, f, i, rfl, hn, hi, rfl⟩))) (by rw [isEmpty_map_])) (fun j hj _ => ed_var rfl (.int _))) ?_) e k
  rw [← first_eq]
  rfl
/-- one_more -/
def prMore (ds : List PyData) (d : PyData) : Prop := ∃ (n : Nat) (f : Nat → Nat → Bool) (gs : List (List Nat)) (b : Bool), ds = [dTab n f, dRows gs, .bool b] ∧ n ≤ 6 ∧ gs.length ≤ 1000 ∧ (∀ g ∈ gs, g.length ≤ 100 ∧ ∀ x ∈ g, x < n) ∧ d = dRows (moreF n (togeth f b) gs)
theorem lo_le {n : Nat} {g : List Nat} (h : ∀ x ∈ g, x < n) : lo g ≤ n := by
  unfold lo
  cases e : g.getLast? with
  | none => exact Nat.zero_le _
  | some x => exact h x (List.mem_of_getLast? e)
theorem below_lo {R : Nat → Nat → Bool} {g : List Nat} : (List.range (lo g)).filter (goes1 R g) = [] := by
  rw [List.filter_eq_nil_iff]
  intro x hx
  rw [List.mem_range] at hx
  unfold goes1
  rw [decide_eq_false (by omega), Bool.false_and]
  decide
theorem pu_more (vs : List V) (H : Hp) (Q : VK) (E : XK) (h : prm prMore vs H Q E) : t_one_more K C (prm prOne) { nx := fun _ H' => Q .non H', rt := Q } (start n_one_more vs) H := by
  obtain ⟨B, ds, d, e, hv, ⟨n, f, gs, b, rfl, hn, hlen, hg, rfl⟩, k⟩ := h
  obtain _ | ⟨h1, _ | ⟨h2, _ | ⟨⟨_⟩, _ | _⟩⟩⟩ := hv
  rename_i v1 v2
  refine qd_new (.refl e) fun p hp a0 => ?_
  refine qd_forL (ed_var rfl h2) a0.ex fun B1 H1 g1 => ⟨fun i σ' H' => ∃ x y z, σ' = [some v1, some v2, some (.bl b), some (.ref p), x, y, z] ∧ Ex B1 H' ∧ Acc B H p ((moreF n (togeth f b) (gs.take i)).map dNats) H',
    ⟨none, none, none, rfl, g1.sub, acc_ext a0 g1.ex⟩, fun i σ' H' ⟨_, _, _, _, q, _⟩ => q, ?_, ?_⟩
  · rintro i d v σ' H' hi hv ⟨x, y, z, rfl, ex1, a1⟩
    obtain ⟨g, hgm, hgi, rfl⟩ := at_some hi
    obtain ⟨hgl, hgn⟩ := hg g hgm
    have bl : (moreF n (togeth f b) (gs.take i)).length ≤ 6000 := by
      have h1 := moreF_len n (togeth f b) (gs.take i)
      have h2 : (gs.take i).length ≤ gs.length := (by rw [List.length_take]; exact Nat.min_le_right _ _)
      have h3 : (gs.take i).length * n ≤ 1000 * 6 := Nat.mul_le_mul (by omega) hn
      omega
    show tFor _ _ _ _ [some v1, some v2, some (.bl b), some (.ref p), some v, y, z] H'
    have s1 : Side B H p B1 := (side_refl a0).grow a0 g1
    have hlo : EvD (tIf (tTru K (tVar 4)) (tOp rAdd (tOp (rIxL K) (tVar 4) (tUn uNeg (tC (.int 1)))) (tC (.int 1))) (tC (.int 0))) [some v1, some v2, some (.bl b), some (.ref p), some v, y, z] B1 (dNat (lo g)) := by
      refine ed_if (eb_tru (ed_var rfl hv)) (fun hb => ?_) (fun hb => ?_)
      · rw [isEmpty_map_] at hb
        cases eg : g.getLast? with
        | none =>
          rw [List.getLast?_eq_none_iff.mp eg] at hb
          cases hb
        | some x =>
          refine ed_is (ed_op (d1 := dNat x) (ed_op (ed_var rfl hv) (ed_neg (ed_int (i := 1))) (rd_last (by rw [List.getLast?_map, eg]; rfl))) (ed_int (i := 1)) (rd_I0 (d := .int ((x : Int) + 1)) fun B => .int _)) ?_
          unfold lo dNat
          rw [eg]
          rfl
      · rw [isEmpty_map_] at hb
        have : g = [] := by simpa using hb
        subst this
        exact ed_int (i := 0)
    refine sd_forR2 (B := B1) (lo := lo g) (n := n) (ea_cons hlo (ea_cons (ed_lenTab (ed_var rfl (h1.ex g1.base))) ea_nil)) (lo_le hgn) (by omega) ex1
      (fun j σ' H' => ∃ y z, σ' = [some v1, some v2, some (.bl b), some (.ref p), some v, y, z] ∧ Ex B1 H' ∧ Acc B H p ((moreF n (togeth f b) (gs.take i)).map dNats ++ ((((List.range j).filter (goes1 (togeth f b) g)).map fun x => g ++ [x]).map dNats)) H')
      (fun B2 H2 g2 => ⟨y, z, rfl, ex1.trans g2.ex, by rw [below_lo]; simpa using acc_ext a1 g2.ex⟩) ?_ ?_
    · rintro j σ' H' hloj hjn ⟨y, z, rfl, ex2, a2⟩
      show tIfS _ _ _ _ [some v1, some v2, some (.bl b), some (.ref p), some v, some (.int (j : Int)), z] _
      have hgo : goes1 (togeth f b) g j = g.all fun o => togeth f b j o := by
        unfold goes1
        rw [decide_eq_true hloj, Bool.true_and]
      refine sd_when (B := B1) (b := goes1 (togeth f b) g j) (eb_is (eb_B (ed_is (ed_cb (ea_cons (ed_is (ed_lcM (l := g) (D := dNat) (fun _ => true) (fun o => .bool (togeth f b j o)) (ed_var rfl hv) (by omega) (fun x => wipe1 x)
        (fun _ _ _ _ _ _ => eb_yes) (fun o ho w B' hw eb _ => ed_op (ed_call (ea_cons (ed_var rfl ((h1.ex g1.base).ex eb)) (ea_cons (ed_var rfl (.int (j : Int))) (ea_cons (ed_var rfl hw) ea_nil))) ⟨n, f, j, o, rfl, hn, hjn, hgn o ho, rfl⟩) (ed_var rfl (.bl b)) rd_eqB))
        (show _ = PyData.list ((g.map fun o => togeth f b j o).map PyData.bool) by rw [List.filter_eq_self.mpr fun _ _ => rfl, List.map_map]; rfl)) ea_nil) rc_all) (by rw [List.all_map]; rfl))) hgo.symm) ex2 (fun hb B3 H3 g3 => ?_) (fun hb B3 H3 g3 => ?_)
      · have a3 := acc_ext a2 g3.ex
        refine sd_appS (d := dNats (g ++ [j])) hp a3 s1 (ex2.trans g3.ex) rfl (ed_is (ed_op (ed_var rfl hv) (ed_lst (ea_cons (ed_var rfl (.int (j : Int))) ea_nil) (by show 1 ≤ 100000; decide)) (rd_cat ?_)) ?_) ?_ fun H4 ex4 a4 => ?_
        · rw [List.length_map]
          show _ + 1 ≤ _
          omega
        · unfold dNats
          rw [List.map_append]
          rfl
        · rw [List.length_append, List.length_map, List.length_map, List.length_map]
          have h3 := List.length_filter_le (goes1 (togeth f b) g) (List.range j)
          rw [List.length_range] at h3
          omega
        · refine ⟨some (.int (j : Int)), z, rfl, ex4, ?_⟩
          rw [List.range_succ, List.filter_append, List.filter_cons, if_pos hb, List.filter_nil, List.map_append, List.map_append, ← List.append_assoc]
          exact a4
      · refine ⟨some (.int (j : Int)), z, rfl, ex2.trans g3.ex, ?_⟩
        rw [List.range_succ, List.filter_append, List.filter_cons, if_neg (by rw [hb]; decide), List.filter_nil, List.append_nil]
        exact acc_ext a2 g3.ex
    · rintro σ' H' ⟨y, z, rfl, ex2, a2⟩
      refine ⟨some v, y, z, rfl, ex2, ?_⟩
      rw [take_snoc hgi, show moreF n (togeth f b) (gs.take i ++ [g]) = moreF n (togeth f b) (gs.take i) ++ ((List.range n).filter (goes1 (togeth f b) g)).map fun x => g ++ [x] by unfold moreF; rw [List.flatMap_append]; simp, List.map_append]
      exact a2
  · rintro σ' H' ⟨x, y, z, rfl, ex1, a1⟩
    rw [List.length_map, List.take_length] at a1
    obtain ⟨B2, g2, hd⟩ := acc_done hp a1
    exact ⟨_, rfl, k _ B2 H' g2 hd⟩
end
end Oa

set_option Elab.async false
set_option linter.all false
set_option maxRecDepth 100000
set_option maxHeartbeats 2000000
/-! The same: the most together, orders counted, the other order, lines. -/
namespace Oa
open PySem PySem.Spec PyProof.Rows L2 Evl
section
variable {K : PySem.W.Frag} {C : Addr}
/-- most_together -/
def prMost (ds : List PyData) (d : PyData) : Prop := ∃ (n : Nat) (f : Nat → Nat → Bool) (b : Bool) (s : List Nat), ds = [dTab n f, .bool b] ∧ n ≤ 6 ∧ (∀ k q r, sets n (togeth f b) k = q :: r → sets n (togeth f b) (k + 1) = [] → q = s) ∧ d = dNats s
theorem pu_most (vs : List V) (H : Hp) (Q : VK) (E : XK) (h : prm prMost vs H Q E) : t_most_together K C (prm prMore) { nx := fun _ H' => Q .non H', rt := Q } (start n_most_together vs) H := by
  obtain ⟨B, ds, d, e, hv, ⟨n, f, b, s, rfl, hn, hs, rfl⟩, k⟩ := h
  obtain _ | ⟨h1, _ | ⟨⟨_⟩, _ | _⟩⟩ := hv
  rename_i v1
  refine qd_asg (B := B) (d := dRows [[]]) (ed_lst (ea_cons (ed_lst ea_nil (Nat.zero_le _)) ea_nil) (by show 1 ≤ 100000; decide)) e fun v3 B3 H3 g3 h3 => ?_
  refine qd_asg (B := B3) (d := dNats []) (ed_lst ea_nil (Nat.zero_le _)) g3.sub fun v4 B4 H4 g4 h4 => ?_
  refine qd_while (fun m σ' H' => ∃ (j : Nat) (x y : V) (fd : List Nat) (B' : Hp), σ' = [some v1, some (.bl b), some x, some y] ∧ m = n + 1 - j ∧ Grow B H B' H' ∧ Dt B' x (dRows (sets n (togeth f b) j)) ∧ Dt B' y (dNats fd) ∧ (j = 0 ∨ ∃ i r, j = i + 1 ∧ sets n (togeth f b) i = fd :: r))
    (n + 1) ⟨0, v3, v4, [], B4, rfl, rfl, g3.trans g4, h3.ex g4.base, h4, Or.inl rfl⟩ ?_
  rintro m σ' H' ⟨j, x, y, fd, B', rfl, rfl, g, hx, hy, hj⟩
  refine ⟨B', _, g.sub, eb_tru (ed_var rfl hx), fun hb B2 H2 g2 => ?_, fun hb B2 H2 g2 => ?_⟩
  · rw [isEmpty_map_] at hb
    cases hq : sets n (togeth f b) j with
    | nil => rw [hq] at hb; cases hb
    | cons q r =>
      have hjn : j ≤ n := Nat.le_of_not_lt fun z => by rw [sets_end n _ z] at hq; cases hq
      refine ⟨fun σ2 H3 => ∃ m', m' < n + 1 - j ∧ ∃ (j : Nat) (x y : V) (fd : List Nat) (B' : Hp), σ2 = [some v1, some (.bl b), some x, some y] ∧ m' = n + 1 - j ∧ Grow B H B' H3 ∧ Dt B' x (dRows (sets n (togeth f b) j)) ∧ Dt B' y (dNats fd) ∧ (j = 0 ∨ ∃ i r, j = i + 1 ∧ sets n (togeth f b) i = fd :: r), fun σ2 H3 h => h, ?_⟩
      have hx2 := hx.ex g2.base
      refine qd_asg (B := B2) (d := dNats q) (ed_op (ed_var rfl hx2) (ed_int (i := 0)) (rd_ixL (j := 0) (by rw [hq]; rfl))) g2.sub fun w B5 H5 g5 hw => ?_
      have few := sets_few (R := togeth f b) hn j
      refine sd_asg (B := B5) (d := dRows (sets n (togeth f b) (j + 1))) (ed_call (ea_cons (ed_var rfl (h1.ex ((g.base.trans g2.base).trans g5.base))) (ea_cons (ed_var rfl (hx2.ex g5.base)) (ea_cons (ed_var rfl (.bl b)) ea_nil))) ⟨n, f, _, b, rfl, hn, by omega, fun q hq => ?_, rfl⟩) g5.sub fun u B6 H6 g6 hu => ?_
      · obtain ⟨h1, h2⟩ := mem_sets.mp hq
        have := fit_len h2
        exact ⟨by omega, h2.2⟩
      · exact ⟨n + 1 - (j + 1), by omega, j + 1, u, w, q, B6, rfl, rfl, ((g.trans g2).trans g5).trans g6, hu, hw.ex g6.base, Or.inr ⟨j, r, rfl, hq⟩⟩
  · rw [isEmpty_map_] at hb
    have hq : sets n (togeth f b) j = [] := by simpa using hb
    rcases hj with rfl | ⟨i, r, rfl, hi⟩
    · cases hq
    · have := hs i fd r hi hq
      subst this
      exact ⟨_, rfl, k _ B2 H2 (g.trans g2) (hy.ex g2.base)⟩
/-- may_have_come -/
def fitsF (f : Nat → Nat → Bool) (o : List Nat) : Bool := o.zipIdx.all fun q => (o.drop (q.2 + 1)).all fun j => !f j q.1
theorem fitsF_iff {f : Nat → Nat → Bool} {o : List Nat} : fitsF f o = true ↔ ∀ (j e : Nat), o[j]? = some e → ((o.drop (j + 1)).any fun q => f q e) = false := by
  unfold fitsF
  rw [List.all_eq_true]
  have key : ∀ (l : List Nat) (e : Nat), (l.all fun j => !f j e) = !(l.any fun q => f q e) := fun l e => by
    induction l with
    | nil => rfl
    | cons a l ih => rw [List.all_cons, List.any_cons, ih, Bool.not_or]
  constructor
  · intro h j e hj
    have := h (e, j) (List.mem_zipIdx_iff_getElem?.mpr hj)
    rw [key] at this
    simpa using this
  · rintro h ⟨e, j⟩ hq
    have := h j e (List.mem_zipIdx_iff_getElem?.mp hq)
    rw [key, this]
    rfl
def prCome (ds : List PyData) (d : PyData) : Prop := ∃ (n : Nat) (f : Nat → Nat → Bool) (o : List Nat), ds = [dTab n f, dNats o] ∧ n ≤ 6 ∧ o.length ≤ 100 ∧ (∀ x ∈ o, x < n) ∧ d = .bool (fitsF f o)
theorem pu_come (vs : List V) (H : Hp) (Q : VK) (E : XK) (h : prm prCome vs H Q E) : t_may_have_come K C { nx := fun _ H' => Q .non H', rt := Q } (start n_may_have_come vs) H := by
  obtain ⟨B, ds, d, e, hv, ⟨n, f, o, rfl, hn, hl, ho, rfl⟩, k⟩ := h
  obtain _ | ⟨h1, _ | ⟨h2, _ | _⟩⟩ := hv
  rename_i v1 v2
  refine qd_forE (B := B) (ea_cons (ed_var rfl h2) ea_nil) e fun B2 H2 g2 => ⟨fun i σ' H' => ∃ x y z B', σ' = [some v1, some v2, x, y, z] ∧ Grow B2 H2 B' H' ∧ ∀ (j e : Nat), j < i → o[j]? = some e → ((o.drop (j + 1)).any fun q => f q e) = false,
    ⟨none, none, none, B2, rfl, .refl g2.sub, fun j e hj => by omega⟩, fun i σ' H' ⟨_, _, _, B', _, g, _⟩ => g.base.trans g.sub, ?_, ?_⟩
  · rintro i d v σ' H' T hi hv ⟨x, y, z, B', rfl, g, hf⟩ hT
    obtain ⟨ev, hem, hei, rfl⟩ := at_some hi
    cases hv
    show tIfS _ _ _ _ [some v1, some v2, some (.int (i : Int)), some (.int (ev : Int)), z] _
    have gT : Grow B2 H2 B' (upd H' T (.tup [.int (i : Int), .int (ev : Int)])) := g.ext (Ex.new hT)
    have hil : i < o.length := (List.getElem?_eq_some_iff.mp hei).1
    have b2 := (g2.base.trans g.base)
    refine sd_when (B := B') (b := (o.drop (i + 1)).any fun q => f q ev) (eb_B (ed_is (ed_cb (ea_cons (ed_is (ed_lcM (l := o.drop (i + 1)) (D := dNat) (fun _ => true) (fun q => .bool (f q ev)) (ed_is (ed_sl (ed_var rfl (h2.ex b2)) (ep_some (i := ((i + 1 : Nat) : Int)) (ed_op (ed_var rfl (.int (i : Int))) (ed_int (i := 1)) (rd_I0 fun B => by
        show Dt B (.int ((i : Int) + 1)) (.int ((i + 1 : Nat) : Int))
        rw [Int.natCast_add]
        exact .int _))) ep_none) (by rw [cut_from (by rw [List.length_map]; omega), List.map_drop])) (by rw [List.length_drop]; omega) (fun x => wipe1 x)
        (fun _ _ _ _ _ _ => eb_yes) (fun q hq w B5 hw eb _ => ed_cell (ed_var rfl ((h1.ex b2).ex eb)) (ed_var rfl hw) (ed_var rfl (.int (ev : Int))) (ho q (List.mem_of_mem_drop hq)) (ho ev hem)))
        (show _ = PyData.list (((o.drop (i + 1)).map fun q => f q ev).map PyData.bool) by rw [List.filter_eq_self.mpr fun _ _ => rfl, List.map_map]; rfl)) ea_nil) rc_any) (by rw [List.any_map]; rfl))) gT.sub (fun hb B3 H3 g3 => ?_) (fun hb B3 H3 g3 => ?_)
    · refine sd_ret ed_bl g3.sub fun w B6 H6 g6 hw => k w B6 H6 (((g2.trans gT).trans g3).trans g6) ?_
      have : fitsF f o = false := by
        cases ef : fitsF f o with
        | false => rfl
        | true =>
          have := fitsF_iff.mp ef i ev hei
          rw [hb] at this
          cases this
      rw [this]
      exact hw
    · refine ⟨some (.int (i : Int)), some (.int (ev : Int)), z, B3, rfl, gT.trans g3, fun j e hj he => ?_⟩
      rcases Nat.lt_or_ge j i with q | q
      · exact hf j e q he
      · have : j = i := by omega
        subst this
        rw [hei] at he
        cases he
        exact hb
  · rintro σ' H' ⟨x, y, z, B', rfl, g, hf⟩
    refine sd_ret ed_bl g.sub fun w B6 H6 g6 hw => k w B6 H6 ((g2.trans g).trans g6) ?_
    have : fitsF f o = true := fitsF_iff.mpr fun j e he => hf j e (by rw [List.length_map]; exact (List.getElem?_eq_some_iff.mp he).1) he
    rw [this]
    exact hw
/-- how_often_sooner -/
def prSooner (ds : List PyData) (d : PyData) : Prop := ∃ (rows : List (List Nat)) (i j : Nat), ds = [dRows rows, dNat i, dNat j] ∧ rows.length ≤ 10000 ∧ (∀ r ∈ rows, i ∈ r ∧ j ∈ r) ∧ d = dNat (rows.filter fun q => decide (q.idxOf i < q.idxOf j)).length
theorem pu_soonerF (vs : List V) (H : Hp) (Q : VK) (E : XK) (h : prm prSooner vs H Q E) : t_how_often_sooner K C { nx := fun _ H' => Q .non H', rt := Q } (start n_how_often_sooner vs) H := by
  obtain ⟨B, ds, d, e, hv, ⟨rows, i, j, rfl, hl, hr, rfl⟩, k⟩ := h
  obtain _ | ⟨h1, _ | ⟨h2, _ | ⟨h3, _ | _⟩⟩⟩ := hv
  refine sd_ret (ed_is (ed_len (ed_lcM (l := rows) (D := dNats) (fun q => decide (q.idxOf i < q.idxOf j)) dNats (ed_var rfl h1) (by omega) (fun x => wipe1 x)
    (fun q hq v B' hv' eb => eb_is (eb_test (ed_op (ed_index (ed_var rfl hv') (ed_var rfl (h2.ex eb)) (hr q hq).1) (ed_index (ed_var rfl hv') (ed_var rfl (h3.ex eb)) (hr q hq).2) (rd_I0 (d := .bool (decide ((q.idxOf i : Int) < (q.idxOf j : Int)))) fun B => .bl _))) (decide_eq_decide.mpr (by omega)))
    (fun q hq v B' hv' eb _ => ed_var rfl hv'))) (by rw [List.length_map])) e k
/-- how_often_at_each_place -/
def prPlace (ds : List PyData) (d : PyData) : Prop := ∃ (rows : List (List Nat)) (n i : Nat), ds = [dRows rows, dNat i] ∧ rows.length ≤ 10000 ∧ rows ≠ [] ∧ n ≤ 6 ∧ (∀ r ∈ rows, i ∈ r ∧ r.length = n) ∧ d = dNats ((List.range n).map fun k => (rows.filter fun q => q.idxOf i == k).length)
theorem pu_placeF (vs : List V) (H : Hp) (Q : VK) (E : XK) (h : prm prPlace vs H Q E) : t_how_often_at_each_place K C { nx := fun _ H' => Q .non H', rt := Q } (start n_how_often_at_each_place vs) H := by
  obtain ⟨B, ds, d, e, hv, ⟨rows, n, i, rfl, hl, hne, hn, hr, rfl⟩, k⟩ := h
  obtain _ | ⟨h1, _ | ⟨h2, _ | _⟩⟩ := hv
  refine qd_asg (d := dNats (rows.map fun q => q.idxOf i)) (ed_is (ed_lcM (l := rows) (D := dNats) (fun _ => true) (fun q => dNat (q.idxOf i)) (ed_var rfl h1) (by omega) (fun x => wipe1 x)
    (fun _ _ _ _ _ _ => eb_yes) (fun q hq v B' hv' eb _ => ed_index (ed_var rfl hv') (ed_var rfl (h2.ex eb)) (hr q hq).1)) (by rw [List.filter_eq_self.mpr fun _ _ => rfl]; unfold dNats; rw [List.map_map]; rfl)) e fun w B2 H2 g2 hw => ?_
  cases rows with
  | nil => exact absurd rfl hne
  | cons r0 rows =>
    have hr0 := (hr r0 List.mem_cons_self).2
    refine sd_ret (ed_is (ed_lcR1 (B := B2) (fun _ => true) (fun k => dNat (((r0 :: rows).map fun q => q.idxOf i).count k)) (ea_cons (ed_is (ed_lenNats (l := r0) (ed_op (ed_var rfl (h1.ex g2.base)) (ed_int (i := 0)) (rd_ixL (j := 0) rfl))) (show dNat r0.length = dNat n by rw [hr0])) ea_nil) (by omega) (fun x => wipe1 x)
      (fun k hk => eb_yes) (fun k hk _ => ed_count (ed_var rfl hw) (ed_var rfl (.int (k : Int))))) ?_) g2.sub fun v B3 H3 g3 hv => k v B3 H3 (g2.trans g3) hv
    rw [giv_all]
    unfold dNats
    rw [List.map_map]
    congr 1
    apply List.map_congr_left
    intro x _
    show dNat _ = dNat _
    rw [count_filter]
/-- comes_ahead -/
def aheadF (f : Nat → Nat → Bool) (o : List Nat) (i j : Nat) : Bool := if (f i j || f j i) = true then f i j else decide (o.idxOf j < o.idxOf i)
def prAhead (ds : List PyData) (d : PyData) : Prop := ∃ (n : Nat) (f : Nat → Nat → Bool) (o : List Nat) (i j : Nat), ds = [dTab n f, dNats o, dNat i, dNat j] ∧ n ≤ 6 ∧ i < n ∧ j < n ∧ i ∈ o ∧ j ∈ o ∧ d = .bool (aheadF f o i j)
theorem pu_ahead (vs : List V) (H : Hp) (Q : VK) (E : XK) (h : prm prAhead vs H Q E) : t_comes_ahead K C (prm prOne) { nx := fun _ H' => Q .non H', rt := Q } (start n_comes_ahead vs) H := by
  obtain ⟨B, ds, d, e, hv, ⟨n, f, o, i, j, rfl, hn, hi, hj, mi, mj, rfl⟩, k⟩ := h
  obtain _ | ⟨h1, _ | ⟨h2, _ | ⟨h3, _ | ⟨h4, _ | _⟩⟩⟩⟩ := hv
  refine qd_when (b := f i j || f j i) (eb_B (ed_call (ea_cons (ed_var rfl h1) (ea_cons (ed_var rfl h3) (ea_cons (ed_var rfl h4) ea_nil))) ⟨n, f, i, j, rfl, hn, hi, hj, rfl⟩)) e (fun hb B2 H2 g2 => ?_) (fun hb B2 H2 g2 => ?_)
  · refine sd_ret (ed_is (ed_cell (ed_var rfl (h1.ex g2.base)) (ed_var rfl (h3.ex g2.base)) (ed_var rfl (h4.ex g2.base)) hi hj) ?_) g2.sub fun v B3 H3 g3 hv => k v B3 H3 (g2.trans g3) hv
    unfold aheadF
    rw [if_pos hb]
  · refine sd_ret (ed_is (ed_op (ed_index (ed_var rfl (h2.ex g2.base)) (ed_var rfl (h3.ex g2.base)) mi) (ed_index (ed_var rfl (h2.ex g2.base)) (ed_var rfl (h4.ex g2.base)) mj) (rd_I0 (d := .bool (decide ((o.idxOf j : Int) < (o.idxOf i : Int)))) fun B => .bl _)) ?_) g2.sub fun v B3 H3 g3 hv => k v B3 H3 (g2.trans g3) hv
    unfold aheadF
    rw [if_neg (by rw [hb]; decide)]
    congr 1
    exact decide_eq_decide.mpr (by omega)
/-- how_many_ahead -/
def prMany (ds : List PyData) (d : PyData) : Prop := ∃ (n : Nat) (f : Nat → Nat → Bool) (o : List Nat) (i : Nat), ds = [dTab n f, dNats o, dNat i] ∧ n ≤ 6 ∧ i < n ∧ i ∈ o ∧ o.length ≤ 100 ∧ (∀ x ∈ o, x < n) ∧ d = dNat (o.filter fun j => j != i && aheadF f o j i).length
theorem pu_many (vs : List V) (H : Hp) (Q : VK) (E : XK) (h : prm prMany vs H Q E) : t_how_many_ahead K C (prm prAhead) { nx := fun _ H' => Q .non H', rt := Q } (start n_how_many_ahead vs) H := by
  obtain ⟨B, ds, d, e, hv, ⟨n, f, o, i, rfl, hn, hi, mi, hl, ho, rfl⟩, k⟩ := h
  obtain _ | ⟨h1, _ | ⟨h2, _ | ⟨h3, _ | _⟩⟩⟩ := hv
  refine sd_ret (ed_is (ed_len (ed_lcM (l := o) (D := dNat) (fun j => j != i && aheadF f o j i) dNat (ed_var rfl h2) (by omega) (fun x => wipe1 x)
    (fun j hj v B' hv' eb => eb_and (eb_is (eb_test (ed_op (ed_var rfl hv') (ed_var rfl (h3.ex eb)) rd_neI)) (show (!decide ((j : Int) = (i : Int))) = (j != i) by rw [eq_bool]; rfl))
      (fun _ => eb_B (ed_call (ea_cons (ed_var rfl (h1.ex eb)) (ea_cons (ed_var rfl (h2.ex eb)) (ea_cons (ed_var rfl hv') (ea_cons (ed_var rfl (h3.ex eb)) ea_nil)))) ⟨n, f, o, j, i, rfl, hn, ho j hj, hi, hj, mi, rfl⟩)))
    (fun j hj v B' hv' eb _ => ed_var rfl hv'))) (by rw [List.length_map])) e k
/-- other_order -/
def dOpt : Option (List Nat) → PyData
  | none => .none
  | some l => dNats l
def prOther (ds : List PyData) (d : PyData) : Prop := ∃ (a : Kv416.Now) (o : List Nat), Good a ∧ o.Perm (List.range a.n) ∧ ds = [dTab a.n (Kv416.at_ a.table), dNats o] ∧ d = dOpt (Kv416.other a.n a.table o)
theorem aheadF_eq (t : Kv416.Table) (o : List Nat) (i j : Nat) : aheadF (Kv416.at_ t) o i j = Kv416.ahead t o i j := (ahead_eq t o i j).symm
theorem pu_other (vs : List V) (H : Hp) (Q : VK) (E : XK) (h : prm prOther vs H Q E) : t_other_order K C (prm prMany) { nx := fun _ H' => Q .non H', rt := Q } (start n_other_order vs) H := by
  obtain ⟨B, ds, d, e, hv, ⟨a, o, g, hp, rfl, rfl⟩, k⟩ := h
  obtain _ | ⟨h1, _ | ⟨h2, _ | _⟩⟩ := hv
  have hn := g.hi
  have hl : o.length = a.n := by rw [hp.length_eq, List.length_range]
  have hm : ∀ x, x ∈ o ↔ x < a.n := fun x => by rw [hp.mem_iff, List.mem_range]
  have sc := other_score g hp
  refine qd_asg (d := dNats ((List.range a.n).map (aheads a.n a.table o))) (ed_is (ed_lcR1 (n := a.n) (fun _ => true) (fun i => dNat (aheads a.n a.table o i)) (ea_cons (ed_is (ed_lenNats (ed_var rfl h2)) (show dNat o.length = dNat a.n by rw [hl])) ea_nil) (by omega) (fun x => wipe1 x)
    (fun i hi => eb_yes) (fun i hi _ => ed_is (ed_call (ea_cons (ed_var rfl h1) (ea_cons (ed_var rfl h2) (ea_cons (ed_var rfl (.int (i : Int))) ea_nil))) ⟨a.n, Kv416.at_ a.table, o, i, rfl, hn, hi, (hm i).mpr hi, by omega, fun x hx => (hm x).mp hx, rfl⟩) (by
      rw [← aheads_row hp]
      simp only [aheadF_eq]))) (by rw [giv_all]; unfold dNats; rw [List.map_map]; rfl)) e fun v2 B2 H2 g2 hv2 => ?_
  refine qd_when (eb_unlike (ed_var rfl hv2) (ed_lenNats (ed_var rfl (h2.ex g2.base))) (by rw [List.length_map, List.length_range]; omega) (by omega)) g2.sub (fun hb B3 H3 g3 => ?_) (fun hb B3 H3 g3 => ?_)
  · rw [Bool.not_eq_true', decide_eq_false_iff_not, srt_range, hl] at hb
    rw [sc.2 hb] at k
    exact sd_ret ed_non g3.sub fun v B4 H4 g4 hv => k v B4 H4 ((g2.trans g3).trans g4) hv
  · rw [Bool.not_eq_false', decide_eq_true_iff, srt_range, hl] at hb
    rw [sc.1 hb] at k
    refine sd_ret (ed_is (ed_lcR1 (B := B3) (n := a.n) (fun _ => true) (fun k => dNat (((List.range a.n).map (aheads a.n a.table o)).idxOf k)) (ea_cons (ed_is (ed_lenNats (ed_var rfl (h2.ex (g2.base.trans g3.base)))) (show dNat o.length = dNat a.n by rw [hl])) ea_nil) (by omega) (fun x => wipe1 x)
      (fun i hi => eb_yes) (fun i hi _ => ed_index (ed_var rfl (hv2.ex g3.base)) (ed_var rfl (.int (i : Int))) (hb.mem_iff.mpr (List.mem_range.mpr hi)))) ?_) g3.sub fun v B4 H4 g4 hv => k v B4 H4 ((g2.trans g3).trans g4) hv
    rw [giv_all]
    show _ = dNats (inv _ _)
    unfold dNats inv
    rw [List.map_map]
    rfl
/-- two_orders -/
def dOpt2 : Option (List Nat × List Nat) → PyData
  | none => .none
  | some z => .tuple [dNats z.1, dNats z.2]
def prTwo (ds : List PyData) (d : PyData) : Prop := ∃ (a : Kv416.Now), Good a ∧ ds = [dTab a.n (Kv416.at_ a.table)] ∧ d = dOpt2 a.line
theorem findSome_at {α β : Type} {F : α → Option β} {l : List α} {i : Nat} {x : α} {y : β} (h : (l.take i).findSome? F = none) (hx : l[i]? = some x) (hy : F x = some y) : l.findSome? F = some y := by
  have e : l = l.take i ++ x :: l.drop (i + 1) := by
    obtain ⟨hi, rfl⟩ := List.getElem?_eq_some_iff.mp hx
    rw [← List.drop_eq_getElem_cons hi, List.take_append_drop]
  rw [e, List.findSome?_append, h, List.findSome?_cons, hy]
  rfl
theorem findSome_next {α β : Type} {F : α → Option β} {l : List α} {i : Nat} {x : α} (h : (l.take i).findSome? F = none) (hx : l[i]? = some x) (hy : F x = none) : (l.take (i + 1)).findSome? F = none := by
  rw [take_snoc hx, List.findSome?_append, h, List.findSome?_cons, hy]
  rfl
theorem ed_ordersN {σ : L2.St} {B : Hp} {te : TE} {a : Kv416.Now} {E : XK} (g : Good a) (h : EvD te σ B (dTab a.n (Kv416.at_ a.table))) : EvD (tCall (prm prOrders) [] E (tCons te tNil)) σ B (dRows a.orders) :=
  ed_is (ed_call (ea_cons h ea_nil) ⟨_, _, rfl, g.hi, rfl⟩) (by rw [grownF_grown, orders_grown g])
theorem pu_two (vs : List V) (H : Hp) (Q : VK) (E : XK) (h : prm prTwo vs H Q E) : t_two_orders K C (prm prOrders) (prm prOther) { nx := fun _ H' => Q .non H', rt := Q } (start n_two_orders vs) H := by
  obtain ⟨B, ds, d, e, hv, ⟨a, g, rfl, rfl⟩, k⟩ := h
  obtain _ | ⟨h1, _ | _⟩ := hv
  rename_i v1
  have hline : a.line = a.orders.findSome? fun o => (Kv416.other a.n a.table o).map fun l => (o, l) := rfl
  refine qd_forL (ed_ordersN g (ed_var rfl h1)) e fun B2 H2 g2 => ⟨fun i σ' H' => ∃ x y B', σ' = [some v1, x, y] ∧ Grow B2 H2 B' H' ∧ (a.orders.take i).findSome? (fun o => (Kv416.other a.n a.table o).map fun l => (o, l)) = none,
    ⟨none, none, B2, rfl, .refl g2.sub, rfl⟩, fun i σ' H' ⟨_, _, B', _, g, _⟩ => g.base.trans g.sub, ?_, ?_⟩
  · rintro i d v σ' H' hi hv ⟨x, y, B', rfl, g', hf⟩
    obtain ⟨o, hom, hoi, rfl⟩ := at_some hi
    show tSeq _ _ _ [some v1, some v, y] H'
    have hvB := hv.ex g'.base
    refine qd_asg (B := B') (d := dOpt (Kv416.other a.n a.table o)) (ed_call (ea_cons (ed_var rfl (h1.ex (g2.base.trans g'.base))) (ea_cons (ed_var rfl hvB) ea_nil)) ⟨a, o, g, orders_perm hom, rfl, rfl⟩) g'.sub fun w B3 H3 g3 hw => ?_
    refine sd_when (B := B3) (eb_notN (ed_var rfl hw)) g3.sub (fun hb B4 H4 g4 => ?_) (fun hb B4 H4 g4 => ?_)
    · cases eo : Kv416.other a.n a.table o with
      | none => rw [eo] at hb; cases hb
      | some l =>
        rw [eo] at hw
        have hl : a.line = some (o, l) := by
          rw [hline]
          exact findSome_at hf hoi (by rw [eo]; rfl)
        rw [hl] at k
        exact sd_ret (B := B4) (ed_tup (ea_cons (ed_var rfl (hvB.ex (g3.base.trans g4.base))) (ea_cons (ed_var rfl (hw.ex g4.base)) ea_nil)) (by show 2 ≤ 100000; decide)) g4.sub fun u B5 H5 g5 hu => k u B5 H5 ((((g2.trans g').trans g3).trans g4).trans g5) hu
    · cases eo : Kv416.other a.n a.table o with
      | some l => rw [eo] at hb; cases hb
      | none => exact ⟨some v, some w, B4, rfl, (g'.trans g3).trans g4, findSome_next hf hoi (by rw [eo]; rfl)⟩
  · rintro σ' H' ⟨x, y, B', rfl, g', hf⟩
    rw [List.length_map, List.take_length] at hf
    rw [hline, hf] at k
    exact sd_ret ed_non g'.sub fun u B5 H5 g5 hu => k u B5 H5 ((g2.trans g').trans g5) hu
/-- fewest_orders -/
def prFew (ds : List PyData) (d : PyData) : Prop := ∃ (a : Kv416.Now), Good a ∧ ds = [dTab a.n (Kv416.at_ a.table)] ∧ d = dNat a.fewest
theorem pu_few (vs : List V) (H : Hp) (Q : VK) (E : XK) (h : prm prFew vs H Q E) : t_fewest_orders K C (prm prOrders) (prm prTwo) { nx := fun _ H' => Q .non H', rt := Q } (start n_fewest_orders vs) H := by
  obtain ⟨B, ds, d, e, hv, ⟨a, g, rfl, rfl⟩, k⟩ := h
  obtain _ | ⟨h1, _ | _⟩ := hv
  have pos := orders_pos g
  have hfew : a.fewest = if a.orders.length ≤ 1 then 1 else if a.line.isSome = true then 2 else 3 := rfl
  rw [hfew] at k
  refine qd_when (eb_test (ed_op (ed_lenRows (ed_ordersN g (ed_var rfl h1))) (ed_int (i := 1)) rd_eqI)) e (fun hb B2 H2 g2 => ?_) (fun hb B2 H2 g2 => ?_)
  · have hb := of_decide_eq_true hb
    rw [if_pos (by omega)] at k
    exact sd_ret (ed_int (i := 1)) g2.sub fun u B5 H5 g5 hu => k u B5 H5 (g2.trans g5) hu
  have hb := of_decide_eq_false hb
  rw [if_neg (by omega)] at k
  refine qd_when (eb_notN (ed_call (ea_cons (ed_var rfl (h1.ex g2.base)) ea_nil) ⟨a, g, rfl, rfl⟩)) g2.sub (fun hc B3 H3 g3 => ?_) (fun hc B3 H3 g3 => ?_)
  · cases el : a.line with
    | none => rw [el] at hc; cases hc
    | some z =>
      rw [el] at k
      exact sd_ret (ed_int (i := 2)) g3.sub fun u B5 H5 g5 hu => k u B5 H5 ((g2.trans g3).trans g5) hu
  · cases el : a.line with
    | some z => rw [el] at hc; cases hc
    | none =>
      rw [el] at k
      exact sd_ret (ed_int (i := 3)) g3.sub fun u B5 H5 g5 hu => k u B5 H5 ((g2.trans g3).trans g5) hu
end
end Oa

set_option Elab.async false
set_option linter.all false
set_option maxRecDepth 100000
set_option maxHeartbeats 2000000
/-! The calls of stage 2. -/
namespace Oa
open PySem PySem.Spec PyProof.Rows L2 Evl
/-- fits: a row is handed in -/
def prFits (m : Kv416.Abs) (ds : List PyData) (d : PyData) : Prop := Fine m ∧ ∃ l : List Nat, ds = [dNats l] ∧ l.length < 64 ∧ d = dAns (m.does (.fits l)).2
section
variable {K : PySem.W.Frag} {C : Addr} {mg : Str → Option Value} {a_WIDTHS : Addr}
theorem pu_firstC (T : Txt K mg C a_WIDTHS) (vs : List V) (H : Hp) (Q : VK) (E : XK) (h : prR C (prLook (fun _ => .first) 0) vs H Q E) : t_first K C (prm prCounted) (prm prFirst) (prR C prTab) { nx := fun _ H' => Q .non H', rt := Q } (start n_first vs) H := by
  obtain ⟨B, r, m, ws, ds, d, rfl, e, R, hv, ⟨fi, l, hl, rfl, rfl⟩, k⟩ := h
  cases len0 hl
  cases hv
  have hn := fi.now.hi
  refine sd_ret (ed_is (ed_call (ea_cons (ed_call (ea_cons (ed_table rfl R fi) ea_nil) ⟨_, _, rfl, hn, rfl⟩) ea_nil) ⟨_, rfl, ?_, rfl⟩) ?_) e k
  · rw [List.length_map]
    refine Nat.le_trans (List.length_filter_le _ _) ?_
    rw [List.length_range]
    omega
  · rw [List.length_map]
    exact (dAns_list _).symm
theorem pu_fitsC (T : Txt K mg C a_WIDTHS) (vs : List V) (H : Hp) (Q : VK) (E : XK) (h : prR C prFits vs H Q E) : t_fits K C (prm prCome) (prR C prTab) { nx := fun _ H' => Q .non H', rt := Q } (start n_fits vs) H := by
  obtain ⟨B, r, m, ws, ds, d, rfl, e, R, hv, ⟨fi, l, rfl, hl, rfl⟩, k⟩ := h
  obtain _ | ⟨h1, _ | _⟩ := hv
  have hn := fi.now.hi
  have hd : (m.does (.fits l)).2 = if (!decide (srt l = List.range m.now.n)) = true then Kv416.say (-22) else Kv416.num (Kv416.bit (Kv416.fits m.now.table l)) := by
    show (if l.length ≠ m.now.n ∨ m.now.all.any (fun i => !l.contains i) then (m, Kv416.say (-22)) else (m, Kv416.num (Kv416.bit (Kv416.fits m.now.table l)))).2 = _
    have hp : l.Perm (List.range m.now.n) ↔ ¬ (l.length ≠ m.now.n ∨ m.now.all.any (fun i => !l.contains i) = true) := perm_fits
    by_cases hq : l.Perm (List.range m.now.n)
    · rw [if_neg (hp.mp hq), if_neg (by rw [Bool.not_eq_true', decide_eq_false_iff_not, srt_range]; exact fun z => z hq)]
    · have : l.length ≠ m.now.n ∨ m.now.all.any (fun i => !l.contains i) = true := Classical.byContradiction fun z => hq (hp.mpr z)
      rw [if_pos this, if_pos (by rw [Bool.not_eq_true', decide_eq_false_iff_not, srt_range]; exact hq)]
  rw [hd] at k
  refine qd_when (eb_unlike (ed_var rfl h1) (ed_size T.cl T.f_size rfl R) hl (by omega)) e (fun hb B2 H2 g2 => ?_) (fun hb B2 H2 g2 => ?_)
  · rw [hb, if_pos rfl, dAns_say] at k
    exact sd_ret ed_one g2.sub fun v B3 H3 g3 hv => k v B3 H3 (g2.trans g3) hv
  · rw [hb, if_neg (by decide), dAns_num] at k
    rw [Bool.not_eq_false', decide_eq_true_iff, srt_range] at hb
    have hm : ∀ x ∈ l, x < m.now.n := fun x hx => List.mem_range.mp (hb.mem_iff.mp hx)
    refine sd_ret (ed_lst (ea_cons (ed_is (ed_if (eb_B (ed_call (ea_cons (ed_table rfl (R.mono g2.base) fi) (ea_cons (ed_var rfl (h1.ex g2.base)) ea_nil)) ⟨_, _, l, rfl, hn, by omega, hm, rfl⟩)) (d := dNat (Kv416.bit (Kv416.fits m.now.table l))) (fun hc => ?_) (fun hc => ?_)) rfl) ea_nil) (by show 1 ≤ 100000; decide)) g2.sub fun v B3 H3 g3 hv => k v B3 H3 (g2.trans g3) hv
    · refine ed_is (ed_int (i := 1)) ?_
      have hc : Kv416.fits m.now.table l = true := hc
      rw [hc]
      rfl
    · refine ed_is (ed_int (i := 0)) ?_
      have hc : Kv416.fits m.now.table l = false := hc
      rw [hc]
      rfl
theorem mem_orders {a : Kv416.Now} {q : List Nat} (h : q ∈ a.orders) {i : Nat} (hi : i < a.n) : i ∈ q := (orders_perm h).mem_iff.mpr (List.mem_range.mpr hi)
theorem pu_soonerC (T : Txt K mg C a_WIDTHS) (vs : List V) (H : Hp) (Q : VK) (E : XK) (h : prR C (prLook (fun l => .sooner (l.getD 0 0) (l.getD 1 0)) 2) vs H Q E) : t_sooner K C (prm prOrders) (prm prSooner) (prR C prHas) (prR C prTab) { nx := fun _ H' => Q .non H', rt := Q } (start n_sooner vs) H := by
  obtain ⟨B, r, m, ws, ds, d, rfl, e, R, hv, ⟨fi, l, hl, rfl, rfl⟩, k⟩ := h
  obtain ⟨i, j, rfl⟩ := len2 hl
  obtain _ | ⟨⟨_⟩, _ | ⟨⟨_⟩, _ | _⟩⟩ := hv
  have hd : (m.does (.sooner i j)).2 = if (m.now.no i || m.now.no j) = true then Kv416.say (-2) else if decide ((i : Int) = (j : Int)) = true then Kv416.say (-22) else ⟨((m.now.orders.filter fun q => decide (q.idxOf i < q.idxOf j)).length : Nat), [m.now.orders.length]⟩ := by
    show (if m.now.no i ∨ m.now.no j then (m, Kv416.say (-2)) else if i = j then (m, Kv416.say (-22)) else (m, ⟨((m.now.orders.filter fun q => decide (q.idxOf i < q.idxOf j)).length : Nat), [m.now.orders.length]⟩)).2 = _
    have e1 : (i = j) ↔ decide ((i : Int) = (j : Int)) = true := by rw [decide_eq_true_iff]; omega
    have e2 : (m.now.no i = true ∨ m.now.no j = true) ↔ (m.now.no i || m.now.no j) = true := by rw [Bool.or_eq_true]
    simp only [e1, e2]
    split
    · rfl
    · split <;> rfl
  have k : ∀ v B2 H2, Grow B H B2 H2 → Dt B2 v (dAns (m.does (.sooner i j)).2) → Q v H2 := k
  rw [hd] at k
  refine qd_when (eb_or (eb_no rfl R rfl) fun _ => eb_no rfl R rfl) e (fun hb B2 H2 g2 => ?_) (fun hb B2 H2 g2 => ?_)
  · rw [hb, if_pos rfl, dAns_say] at k
    exact sd_ret ed_one g2.sub fun v B3 H3 g3 hv => k v B3 H3 (g2.trans g3) hv
  rw [hb, if_neg (by decide)] at k
  rw [Bool.or_eq_false_iff] at hb
  have hi : i < m.now.n := no_lt hb.1
  have hj : j < m.now.n := no_lt hb.2
  refine qd_when (eb_test (ed_op (ed_var rfl (.int (i : Int))) (ed_var rfl (.int (j : Int))) rd_eqI)) g2.sub (fun hc B3 H3 g3 => ?_) (fun hc B3 H3 g3 => ?_)
  · rw [hc, if_pos rfl, dAns_say] at k
    exact sd_ret ed_one g3.sub fun v B4 H4 g4 hv => k v B4 H4 ((g2.trans g3).trans g4) hv
  rw [hc, if_neg (by decide), dAns_nats] at k
  have g23 := g2.trans g3
  have few := orders_few fi.now
  refine qd_asg (ed_orders fi (ed_table rfl (R.mono g23.base) fi)) g3.sub fun v4 B4 H4 g4 h4 => ?_
  exact sd_ret (B := B4) (ed_lst (ea_cons (ed_call (ea_cons (ed_var rfl h4) (ea_cons (ed_var rfl (.int (i : Int))) (ea_cons (ed_var rfl (.int (j : Int))) ea_nil))) ⟨m.now.orders, i, j, rfl, by omega, fun q hq => ⟨mem_orders hq hi, mem_orders hq hj⟩, rfl⟩) (ea_cons (ed_lenRows (ed_var rfl h4)) ea_nil)) (by show 2 ≤ 100000; decide)) g4.sub fun v B5 H5 g5 hv => k v B5 H5 ((g23.trans g4).trans g5) hv
theorem pu_placeC (T : Txt K mg C a_WIDTHS) (vs : List V) (H : Hp) (Q : VK) (E : XK) (h : prR C (prLook (fun l => .place (l.headD 0)) 1) vs H Q E) : t_place K C (prm prCounted) (prm prPlace) (prm prOrders) (prR C prHas) (prR C prTab) { nx := fun _ H' => Q .non H', rt := Q } (start n_place vs) H := by
  obtain ⟨B, r, m, ws, ds, d, rfl, e, R, hv, ⟨fi, l, hl, rfl, rfl⟩, k⟩ := h
  obtain ⟨i, rfl⟩ := len1 hl
  obtain _ | ⟨⟨_⟩, _ | _⟩ := hv
  have hn := fi.now.hi
  have hd : (m.does (.place i)).2 = if m.now.no i then Kv416.say (-2) else Kv416.list (m.now.all.map fun k => (m.now.orders.filter fun q => q.idxOf i == k).length) := by
    show (if m.now.no i then (m, Kv416.say (-2)) else (m, Kv416.list _)).2 = _
    split <;> rfl
  have k : ∀ v B2 H2, Grow B H B2 H2 → Dt B2 v (dAns (m.does (.place i)).2) → Q v H2 := k
  rw [hd] at k
  refine qd_when (eb_no rfl R rfl) e (fun hb B2 H2 g2 => ?_) (fun hb B2 H2 g2 => ?_)
  · rw [hb, if_pos rfl, dAns_say] at k
    exact sd_ret ed_one g2.sub fun v B3 H3 g3 hv => k v B3 H3 (g2.trans g3) hv
  · rw [hb, if_neg (by decide), dAns_list] at k
    have hi : i < m.now.n := no_lt hb
    have few := orders_few fi.now
    refine sd_ret (ed_call (ea_cons (ed_call (ea_cons (ed_orders fi (ed_table rfl (R.mono g2.base) fi)) (ea_cons (ed_var rfl (.int _)) ea_nil)) ⟨m.now.orders, m.now.n, i, rfl, by omega, orders_ne fi.now, hn, fun q hq => ⟨mem_orders hq hi, by rw [(orders_perm hq).length_eq, List.length_range]⟩, rfl⟩) ea_nil) ⟨_, rfl, ?_, rfl⟩) g2.sub fun v B3 H3 g3 hv => k v B3 H3 (g2.trans g3) ?_
    · rw [List.length_map, List.length_map, List.length_range]
      omega
    · rw [List.length_map] at hv
      exact hv
theorem line_perms {a : Kv416.Now} {z : List Nat × List Nat} (h : a.line = some z) : z.1.Perm (List.range a.n) ∧ z.2.Perm (List.range a.n) := by
  obtain ⟨o, ho, h2⟩ := List.exists_of_findSome?_eq_some h
  cases e : Kv416.other a.n a.table o with
  | none => rw [e] at h2; cases h2
  | some l =>
    rw [e] at h2
    cases h2
    exact ⟨orders_perm ho, (of_other e).1⟩
theorem ed_two {σ : L2.St} {B : Hp} {te : TE} {m : Kv416.Abs} {E : XK} (fi : Fine m) (h : EvD te σ B (dTab m.now.n (Kv416.at_ m.now.table))) : EvD (tCall (prm prTwo) [] E (tCons te tNil)) σ B (dOpt2 m.now.line) :=
  ed_call (ea_cons h ea_nil) ⟨m.now, fi.now, rfl, rfl⟩
theorem pu_lineC (T : Txt K mg C a_WIDTHS) (vs : List V) (H : Hp) (Q : VK) (E : XK) (h : prR C (prLook (fun _ => .line) 0) vs H Q E) : t_line K C (prm prTwo) (prm prCounted) (prR C prTab) { nx := fun _ H' => Q .non H', rt := Q } (start n_line vs) H := by
  obtain ⟨B, r, m, ws, ds, d, rfl, e, R, hv, ⟨fi, l, hl, rfl, rfl⟩, k⟩ := h
  cases len0 hl
  cases hv
  have hn := fi.now.hi
  have k : ∀ v B2 H2, Grow B H B2 H2 → Dt B2 v (dAns (m.does .line).2) → Q v H2 := k
  have hd : (m.does .line).2 = match m.now.line with
    | none => Kv416.say (-33)
    | some z => Kv416.list (z.1 ++ z.2) := by
    show (match m.now.line with | none => (m, Kv416.say (-33)) | some z => (m, Kv416.list (z.1 ++ z.2))).2 = _
    split <;> rfl
  rw [hd] at k
  refine qd_asg (ed_two fi (ed_table rfl R fi)) e fun v2 B2 H2 g2 h2 => ?_
  refine qd_when (B := B2) (eb_isN (ed_var rfl h2)) g2.sub (fun hb B3 H3 g3 => ?_) (fun hb B3 H3 g3 => ?_)
  · cases el : m.now.line with
    | some z => rw [el] at hb; cases hb
    | none =>
      rw [el] at k
      exact sd_ret ed_one g3.sub fun v B4 H4 g4 hv => k v B4 H4 ((g2.trans g3).trans g4) hv
  · cases el : m.now.line with
    | none => rw [el] at hb; cases hb
    | some z =>
      rw [el] at k h2
      obtain ⟨p1, p2⟩ := line_perms el
      have l1 : z.1.length = m.now.n := by rw [p1.length_eq, List.length_range]
      have l2 : z.2.length = m.now.n := by rw [p2.length_eq, List.length_range]
      have h3 := h2.ex g3.base
      refine sd_ret (B := B3) (ed_is (ed_call (ea_cons (ed_is (ed_op (ed_fst (d1 := dNats z.1) (d2 := dNats z.2) (ed_var rfl h3)) (ed_snd (d1 := dNats z.1) (d2 := dNats z.2) (ed_var rfl h3)) (rd_cat ?_)) (show _ = PyData.list ((z.1 ++ z.2).map dNat) by rw [List.map_append])) ea_nil) ⟨_, rfl, ?_, rfl⟩) ?_) g3.sub fun v B4 H4 g4 hv => k v B4 H4 ((g2.trans g3).trans g4) hv
      · rw [List.length_map, List.length_map]
        omega
      · rw [List.length_map, List.length_append]
        omega
      · rw [List.length_map]
        exact (dAns_list _).symm
theorem pu_eventsC (T : Txt K mg C a_WIDTHS) (vs : List V) (H : Hp) (Q : VK) (E : XK) (h : prR C (prLook (fun _ => .events) 0) vs H Q E) : t_places_on_line K C (prm prTwo) (prR C prTab) { nx := fun _ H' => Q .non H', rt := Q } (start n_places_on_line vs) H := by
  obtain ⟨B, r, m, ws, ds, d, rfl, e, R, hv, ⟨fi, l, hl, rfl, rfl⟩, k⟩ := h
  cases len0 hl
  cases hv
  have hn := fi.now.hi
  have k : ∀ v B2 H2, Grow B H B2 H2 → Dt B2 v (dAns (m.does .events).2) → Q v H2 := k
  have hd : (m.does .events).2 = match m.now.line with
    | none => Kv416.say (-33)
    | some z => ⟨(m.now.n : Nat), m.now.all.flatMap fun i => [z.1.idxOf i, z.2.idxOf i]⟩ := by
    show (match m.now.line with | none => (m, Kv416.say (-33)) | some z => (m, ⟨(m.now.n : Nat), m.now.all.flatMap fun i => [z.1.idxOf i, z.2.idxOf i]⟩)).2 = _
    split <;> rfl
  rw [hd] at k
  refine qd_asg (ed_two fi (ed_table rfl R fi)) e fun v2 B2 H2 g2 h2 => ?_
  refine qd_when (B := B2) (eb_isN (ed_var rfl h2)) g2.sub (fun hb B3 H3 g3 => ?_) (fun hb B3 H3 g3 => ?_)
  · cases el : m.now.line with
    | some z => rw [el] at hb; cases hb
    | none =>
      rw [el] at k
      exact sd_ret ed_one g3.sub fun v B4 H4 g4 hv => k v B4 H4 ((g2.trans g3).trans g4) hv
  · cases el : m.now.line with
    | none => rw [el] at hb; cases hb
    | some z =>
      rw [el] at k h2
      obtain ⟨p1, p2⟩ := line_perms el
      have h3 := h2.ex g3.base
      have R3 := R.mono (g2.base.trans g3.base)
      have k : ∀ v B2 H2, Grow B H B2 H2 → Dt B2 v (dAns ⟨(m.now.n : Nat), m.now.all.flatMap fun i => [z.1.idxOf i, z.2.idxOf i]⟩) → Q v H2 := k
      rw [dAns_nats] at k
      refine qd_newD (A := B3) (ea_cons (ed_size T.cl T.f_size rfl R3) ea_nil) g3.sub (by show 1 ≤ 100000; decide) fun p H4 hp a0 => ?_
      refine qd_forR1 (B := B3) (ea_cons (ed_size T.cl T.f_size rfl R3) ea_nil) (by omega) a0.ex (fun i σ' H' => ∃ x, σ' = [some (.ref r), some v2, some (.ref p), x] ∧ Acc B3 H3 p ((m.now.n :: (List.range i).flatMap fun i => [z.1.idxOf i, z.2.idxOf i]).map dNat) H')
        (fun B5 H5 g5 => ⟨none, rfl, acc_ext a0 g5.ex⟩) ?_ ?_
      · rintro i σ' H' hi ⟨x, rfl, a1⟩
        have hlen : ((List.range i).flatMap fun i => [z.1.idxOf i, z.2.idxOf i]).length = 2 * i := by
          have h1 : ∀ (q : List Nat), (q.flatMap fun i => [z.1.idxOf i, z.2.idxOf i]).length = 2 * q.length := by
            intro q
            induction q with
            | nil => rfl
            | cons a q ih =>
              rw [List.flatMap_cons, List.length_append, ih]
              show 2 + 2 * q.length = 2 * (q.length + 1)
              omega
          rw [h1, List.length_range]
        refine qd_appA (σ := [some (.ref r), some v2, some (.ref p), some (.int (i : Int))]) hp a1 rfl (ed_index (ed_fst (d1 := dNats z.1) (d2 := dNats z.2) (ed_var rfl h3)) (ed_var rfl (.int (i : Int))) (p1.mem_iff.mpr (List.mem_range.mpr hi))) ?_ fun H5 a2 => ?_
        · rw [List.length_map, List.length_cons]
          omega
        refine sd_appA (σ := [some (.ref r), some v2, some (.ref p), some (.int (i : Int))]) hp a2 rfl (ed_index (ed_snd (d1 := dNats z.1) (d2 := dNats z.2) (ed_var rfl h3)) (ed_var rfl (.int (i : Int))) (p2.mem_iff.mpr (List.mem_range.mpr hi))) ?_ fun H6 a3 => ?_
        · rw [List.length_append, List.length_map, List.length_cons]
          show _ + 1 < _
          omega
        refine ⟨some (.int (i : Int)), rfl, ?_⟩
        rw [List.range_succ, List.flatMap_append]
        simpa [List.append_assoc] using a3
      · rintro σ' H' ⟨x, rfl, a1⟩
        obtain ⟨B5, g5, hd⟩ := acc_done hp a1
        exact ⟨_, rfl, k _ B5 H' ((g2.trans g3).trans g5) hd⟩
theorem pu_fewestC (T : Txt K mg C a_WIDTHS) (vs : List V) (H : Hp) (Q : VK) (E : XK) (h : prR C (prLook (fun _ => .fewest) 0) vs H Q E) : t_fewest K C (prm prFew) (prR C prTab) { nx := fun _ H' => Q .non H', rt := Q } (start n_fewest vs) H := by
  obtain ⟨B, r, m, ws, ds, d, rfl, e, R, hv, ⟨fi, l, hl, rfl, rfl⟩, k⟩ := h
  cases len0 hl
  cases hv
  exact sd_ret (ed_lst (ea_cons (ed_call (ea_cons (ed_table rfl R fi) ea_nil) ⟨m.now, fi.now, rfl, rfl⟩) ea_nil) (by show 1 ≤ 100000; decide)) e k
theorem best_len {n : Nat} {P : List Nat → Bool} (h : P [] = true) : (Kv416.best ((Kv416.subsets (List.range n)).filter P)).length ≤ n := by
  have hb := best_is ((subsets_bef (range_lt n)).filter P) (List.mem_filter.mpr ⟨mem_subsets.mpr (List.nil_sublist _), h⟩)
  have := (mem_subsets.mp (List.mem_filter.mp hb.1).1).length_le
  rw [List.length_range] at this
  exact this
theorem pu_rowC (T : Txt K mg C a_WIDTHS) (vs : List V) (H : Hp) (Q : VK) (E : XK) (h : prR C (prLook (fun _ => .row) 0) vs H Q E) : t_most_in_row K C (prm prCounted) (prm prMost) (prR C prTab) { nx := fun _ H' => Q .non H', rt := Q } (start n_most_in_row vs) H := by
  obtain ⟨B, r, m, ws, ds, d, rfl, e, R, hv, ⟨fi, l, hl, rfl, rfl⟩, k⟩ := h
  cases len0 hl
  cases hv
  have hn := fi.now.hi
  have hb := best_len (n := m.now.n) (P := Kv416.Now.rowOf m.now.table) rfl
  refine sd_ret (ed_is (ed_call (ea_cons (ed_call (ea_cons (ed_table rfl R fi) (ea_cons ed_bl ea_nil)) ⟨m.now.n, Kv416.at_ m.now.table, true, Kv416.best ((Kv416.subsets m.now.all).filter (Kv416.Now.rowOf m.now.table)), rfl, hn, fun j q r h1 h2 => (most_sets (row_is m.now.table m.now.n) h1 h2).symm, rfl⟩) ea_nil) ⟨_, rfl, ?_, rfl⟩) ?_) e k
  · rw [List.length_map]
    exact Nat.le_trans hb (by omega)
  · rw [List.length_map]
    exact (dAns_list _).symm
theorem pu_apartC (T : Txt K mg C a_WIDTHS) (vs : List V) (H : Hp) (Q : VK) (E : XK) (h : prR C (prLook (fun _ => .apart) 0) vs H Q E) : t_most_apart K C (prm prCounted) (prm prMost) (prR C prTab) { nx := fun _ H' => Q .non H', rt := Q } (start n_most_apart vs) H := by
  obtain ⟨B, r, m, ws, ds, d, rfl, e, R, hv, ⟨fi, l, hl, rfl, rfl⟩, k⟩ := h
  cases len0 hl
  cases hv
  have hn := fi.now.hi
  have hb := best_len (n := m.now.n) (P := Kv416.Now.apart m.now.table) rfl
  refine sd_ret (ed_is (ed_call (ea_cons (ed_call (ea_cons (ed_table rfl R fi) (ea_cons ed_bl ea_nil)) ⟨m.now.n, Kv416.at_ m.now.table, false, Kv416.best ((Kv416.subsets m.now.all).filter (Kv416.Now.apart m.now.table)), rfl, hn, fun j q r h1 h2 => (most_sets (apart_is m.now.table m.now.n) h1 h2).symm, rfl⟩) ea_nil) ⟨_, rfl, ?_, rfl⟩) ?_) e k
  · rw [List.length_map]
    exact Nat.le_trans hb (by omega)
  · rw [List.length_map]
    exact (dAns_list _).symm
theorem pu_stateC (T : Txt K mg C a_WIDTHS) (vs : List V) (H : Hp) (Q : VK) (E : XK) (h : prR C (prLook (fun _ => .state) 0) vs H Q E) : t_state K C { nx := fun _ H' => Q .non H', rt := Q } (start n_state vs) H := by
  obtain ⟨B, r, m, ws, ds, d, rfl, e, R, hv, ⟨fi, l, hl, rfl, rfl⟩, k⟩ := h
  cases len0 hl
  cases hv
  refine sd_ret (ed_is (ed_lst (ea_cons (ed_size T.cl T.f_size rfl R) (ea_cons (ed_len (ed_told T.cl T.f_told_pairs rfl R)) (ea_cons (ed_len (ed_earlier T.cl T.f_earlier rfl R)) ea_nil))) (by show 3 ≤ 100000; decide)) ?_) e k
  rw [List.length_map, List.length_map, List.length_reverse]
  show _ = dAns ⟨((m.now.n : Nat) : Int), [m.now.told.length, m.past.length]⟩
  rw [dAns_nats]
  rfl
/-! taken back -/
def spTake (C : Addr) : Sp := fun vs H Q _ => ∃ B r m w l, vs = [.ref r] ∧ Ex B H ∧ RecAt C B r m ∧ m.past = w :: l ∧ ∀ B2 H2, Mut r B H B2 H2 → RecAt C B2 r ⟨w, l⟩ → Q .non H2
theorem pu_take (T : Txt K mg C a_WIDTHS) (vs : List V) (H : Hp) (Q : VK) (E : XK) (h : spTake C vs H Q E) : t_Record_take_back K C { nx := fun _ H' => Q .non H', rt := Q } (start n_Record_take_back vs) H := by
  obtain ⟨B, r, m, w, l, rfl, e, R, hpast, k⟩ := h
  have hE : ∀ {σ : L2.St}, σ[0]? = some (some (.ref r)) → EvD (tFld K (tVar 0) "earlier") σ B (dHist (w :: l)) := fun hs => by
    have := ed_earlier T.cl T.f_earlier hs R
    rw [hpast] at this
    exact this
  refine qd_asg (d := dNow w) (ed_op (hE rfl) (ed_neg (ed_int (i := 1))) (rd_last (by rw [List.reverse_cons, List.map_append]; exact List.getLast?_concat))) e fun v1 B1 H1 g1 h1 => ?_
  have R1 := R.mono g1.base
  obtain ⟨dx, tv, ev, hr, ht, hh⟩ := R1.ex
  have hne : B1 r ≠ none := by rw [hr]; simp
  refine qd_store (B := B1) (d := dHist l) (ed_is (ed_sl ((hE rfl).mono g1.base) ep_none (ep_some (ed_neg (ed_int (i := 1))))) ?_) g1.sub hr rfl T.cl T.f_earlier (by show 3 < 1000; decide) fun v2 B2 H2 m2 r2 h2 => ?_
  · rw [show (-1 : Int) = -1 from rfl, cut_init, List.reverse_cons, List.map_append, List.length_append]
    show PyData.list ((l.reverse.map dNow ++ [dNow w]).take ((l.reverse.map dNow).length + 1 - 1)) = dHist l
    rw [Nat.add_sub_cancel, List.take_left']
    · rfl
    · rfl
  rw [put_earlier] at r2
  have h12 := h1.mut hr m2.base
  refine qd_store (B := B2) (ed_fst (d1 := dNat w.n) (d2 := dPairs w.told) (ed_var rfl h12)) m2.sub r2 rfl T.cl T.f_size (by show 3 < 1000; decide) fun v3 B3 H3 m3 r3 h3 => ?_
  rw [put_size] at r3
  have h13 := h12.mut r2 m3.base
  refine sd_store (B := B3) (ed_snd (d1 := dNat w.n) (d2 := dPairs w.told) (ed_var rfl h13)) m3.sub r3 rfl T.cl T.f_told_pairs (by show 3 < 1000; decide) fun v4 B4 H4 m4 r4 h4 => ?_
  rw [put_told] at r4
  cases h3
  exact k B4 H4 (Mut.ahead g1 ((m2.trans m3 hne).trans m4 hne)) ⟨dx, v4, v2, r4, h4, (h2.mut r2 m3.base).mut r3 m4.base⟩
theorem no_take (n tv ev : V) : (recF n tv ev).lookup ("take_back" : Str) = none := recF_no (by decide +kernel) (by decide +kernel) (by decide +kernel)
theorem pu_back (T : Txt K mg C a_WIDTHS) (vs : List V) (H : Hp) (Q : VK) (E : XK) (h : prCall C (fun _ => .back) 0 vs H Q E) : t_back K C (spTake C) { nx := fun _ H' => Q .non H', rt := Q } (start n_back vs) H := by
  obtain ⟨B, r, m, l, rfl, e, R, fi, hl, k⟩ := h
  cases len0 hl
  have k : ∀ v B2 H2, Mut r B H B2 H2 → RecAt C B2 r (m.does .back).1 → Dt B2 v (dAns (m.does .back).2) → Q v H2 := k
  have hd : m.does .back = match m.past with
    | [] => (m, Kv416.say (-6))
    | w :: l => (⟨w, l⟩, Kv416.num l.length) := rfl
  rw [hd] at k
  refine qd_when (eb_not (eb_tru (ed_earlier T.cl T.f_earlier rfl R))) e (fun hb B2 H2 g2 => ?_) (fun hb B2 H2 g2 => ?_)
  · rw [Bool.not_not, isEmpty_map_] at hb
    have : m.past = [] := by simpa using hb
    rw [this] at k
    exact sd_ret ed_one g2.sub fun v B3 H3 g3 hv => k v B3 H3 (g2.trans g3).mut (R.mono (g2.base.trans g3.base)) hv
  · rw [Bool.not_not, isEmpty_map_] at hb
    cases hp : m.past with
    | nil => rw [hp] at hb; cases hb
    | cons w l =>
      rw [hp] at k
      have R2 := R.mono g2.base
      obtain ⟨dx, tv, ev, hr, h1, h2⟩ := R2.ex
      refine ⟨_, rfl, r, dx, _, rfl, g2.sub _ _ hr, no_take _ _ _, B2, r, m, w, l, rfl, g2.sub, R2, hp, fun B3 H3 m3 R3 => ?_⟩
      refine sd_ret (B := B3) (ed_lst (ea_cons (ed_len (ed_earlier T.cl T.f_earlier rfl R3)) ea_nil) (by show 1 ≤ 100000; decide)) m3.sub fun v B4 H4 g4 hv => k v B4 H4 ((Mut.ahead g2 m3).after g4 R.ne) (R3.mono g4.base) ?_
      rw [List.length_map, List.length_reverse] at hv
      exact hv
end
end Oa

set_option Elab.async false
set_option linter.all false
set_option maxRecDepth 100000
set_option maxHeartbeats 2000000
/-! The defs that choose. -/
namespace Oa
open PySem PySem.Spec PyProof.Rows L2 Evl
theorem shape2 {p : Nat} {l : List Nat} (h : Shape p l) (hp : p ≠ 12) (hw : wid p = 2) : ∃ i j, l = [i, j] := len2 (by rw [h.2.1 hp, hw])
theorem shape1 {p : Nat} {l : List Nat} (h : Shape p l) (hp : p ≠ 12) (hw : wid p = 1) : ∃ i, l = [i] := len1 (by rw [h.2.1 hp, hw])
theorem shape0 {p : Nat} {l : List Nat} (h : Shape p l) (hp : p ≠ 12) (hw : wid p = 0) : l = [] := len0 (by rw [h.2.1 hp, hw])
/-- calls that look leave all as it is -/
theorem look_heard {m : Kv416.Abs} {i j : Nat} : (m.does (.heard i j)).1 = m := by simp only [Kv416.Abs.does]; split <;> rfl
theorem look_past {m : Kv416.Abs} {i : Nat} : (m.does (.past i)).1 = m := by simp only [Kv416.Abs.does]; split <;> rfl
theorem look_order {m : Kv416.Abs} {i : Nat} : (m.does (.order i)).1 = m := by simp only [Kv416.Abs.does]; split <;> rfl
theorem look_fits {m : Kv416.Abs} {l : List Nat} : (m.does (.fits l)).1 = m := by simp only [Kv416.Abs.does]; split <;> rfl
theorem look_sooner {m : Kv416.Abs} {i j : Nat} : (m.does (.sooner i j)).1 = m := by simp only [Kv416.Abs.does]; split <;> (try split) <;> rfl
theorem look_place {m : Kv416.Abs} {i : Nat} : (m.does (.place i)).1 = m := by simp only [Kv416.Abs.does]; split <;> rfl
theorem look_line {m : Kv416.Abs} : (m.does .line).1 = m := by simp only [Kv416.Abs.does]; split <;> rfl
theorem look_events {m : Kv416.Abs} : (m.does .events).1 = m := by simp only [Kv416.Abs.does]; split <;> rfl
section
variable {K : PySem.W.Frag} {C : Addr} {mg : Str → Option Value} {a_WIDTHS : Addr}
abbrev spTell (C : Addr) : Sp := prCall C (fun l => .tell (l.getD 0 0) (l.getD 1 0)) 2
abbrev spUntell (C : Addr) : Sp := prCall C (fun l => .untell (l.getD 0 0) (l.getD 1 0)) 2
abbrev spTurn (C : Addr) : Sp := prCall C (fun _ => .turn) 0
abbrev spWithout (C : Addr) : Sp := prCall C (fun l => .without (l.headD 0)) 1
abbrev spBack (C : Addr) : Sp := prCall C (fun _ => .back) 0
abbrev spLook0 (C : Addr) (c : Kv416.Call) : Sp := prR C (prLook (fun _ => c) 0)
def P1 (p : Nat) : Prop := (1 ≤ p ∧ p ≤ 4) ∨ p = 21
def P2 (p : Nat) : Prop := (5 ≤ p ∧ p ≤ 9) ∨ p = 13
def P3 (p : Nat) : Prop := (10 ≤ p ∧ p ≤ 12) ∨ p = 14 ∨ p = 15
def P4 (p : Nat) : Prop := (16 ≤ p ∧ p ≤ 20) ∨ p = 22
theorem pu_achange (vs : List V) (H : Hp) (Q : VK) (E : XK) (h : spAct C P1 vs H Q E) : t_answer_change K C (spTell C) (spUntell C) (spTurn C) (spWithout C) (spBack C) { nx := fun _ H' => Q .non H', rt := Q } (start n_answer_change vs) H := by
  obtain ⟨B, r, m, p, gv, l, rfl, e, R, fi, hP, sh, hl, hg, k⟩ := h
  unfold P1 at hP
  refine qd_when (eb_is_ (c := 1) rfl) e (fun hb B2 H2 g2 => ?_) (fun hb B2 H2 g2 => ?_)
  · cases of_decide_eq_true hb
    obtain ⟨i, j, rfl⟩ := shape2 sh (by decide) rfl
    have hg2 := hg.ex g2.base
    exact sd_callC (l := [i, j]) rfl (R.mono g2.base) fi g2.sub (ea_cons (ed_given (j := 0) rfl hg2 rfl) (ea_cons (ed_given (j := 1) rfl hg2 rfl) ea_nil)) rfl fun v B3 H3 mu R3 hd => k v B3 H3 (Mut.ahead g2 mu) R3 hd
  have n1 := of_decide_eq_false hb
  refine qd_when (eb_is_ (c := 2) rfl) g2.sub (fun hb B3 H3 g3 => ?_) (fun hb B3 H3 g3 => ?_)
  · cases of_decide_eq_true hb
    obtain ⟨i, j, rfl⟩ := shape2 sh (by decide) rfl
    have g := g2.trans g3
    have hg2 := hg.ex g.base
    exact sd_callC (l := [i, j]) rfl (R.mono g.base) fi g.sub (ea_cons (ed_given (j := 0) rfl hg2 rfl) (ea_cons (ed_given (j := 1) rfl hg2 rfl) ea_nil)) rfl fun v B3 H3 mu R3 hd => k v B3 H3 (Mut.ahead g mu) R3 hd
  have n2 := of_decide_eq_false hb
  have g := g2.trans g3
  refine qd_when (eb_is_ (c := 3) rfl) g3.sub (fun hb B4 H4 g4 => ?_) (fun hb B4 H4 g4 => ?_)
  · cases of_decide_eq_true hb
    cases shape0 sh (by decide) rfl
    have g := g.trans g4
    exact sd_callC (l := []) rfl (R.mono g.base) fi g.sub ea_nil rfl fun v B3 H3 mu R3 hd => k v B3 H3 (Mut.ahead g mu) R3 hd
  have n3 := of_decide_eq_false hb
  have g := g.trans g4
  refine qd_when (eb_is_ (c := 4) rfl) g4.sub (fun hb B5 H5 g5 => ?_) (fun hb B5 H5 g5 => ?_)
  · cases of_decide_eq_true hb
    obtain ⟨i, rfl⟩ := shape1 sh (by decide) rfl
    have g := g.trans g5
    exact sd_callC (l := [i]) rfl (R.mono g.base) fi g.sub (ea_cons (ed_given (j := 0) rfl (hg.ex g.base) rfl) ea_nil) rfl fun v B3 H3 mu R3 hd => k v B3 H3 (Mut.ahead g mu) R3 hd
  have n4 := of_decide_eq_false hb
  have g := g.trans g5
  have : p = 21 := by omega
  subst this
  cases shape0 sh (by decide) rfl
  exact sd_callC (l := []) rfl (R.mono g.base) fi g.sub ea_nil rfl fun v B3 H3 mu R3 hd => k v B3 H3 (Mut.ahead g mu) R3 hd
theorem pu_ahearing (vs : List V) (H : Hp) (Q : VK) (E : XK) (h : spAct C P2 vs H Q E) : t_answer_hearing K C (spLook0 C .told) (prR C (prLook (fun l => .heard (l.getD 0 0) (l.getD 1 0)) 2)) (spLook0 C .pairs) (prR C (prLook (fun l => .past (l.headD 0)) 1)) (spLook0 C .links) (spLook0 C .first) { nx := fun _ H' => Q .non H', rt := Q } (start n_answer_hearing vs) H := by
  obtain ⟨B, r, m, p, gv, l, rfl, e, R, fi, hP, sh, hl, hg, k⟩ := h
  unfold P2 at hP
  refine qd_when (eb_is_ (c := 5) rfl) e (fun hb B2 H2 g2 => ?_) (fun hb B2 H2 g2 => ?_)
  · cases of_decide_eq_true hb
    cases shape0 sh (by decide) rfl
    exact sd_callL (l := []) rfl (R.mono g2.base) fi g2.sub ea_nil rfl rfl fun v B3 H3 mu R3 hd => k v B3 H3 (Mut.ahead g2 mu) R3 hd
  have n1 := of_decide_eq_false hb
  refine qd_when (eb_is_ (c := 6) rfl) g2.sub (fun hb B3 H3 g3 => ?_) (fun hb B3 H3 g3 => ?_)
  · cases of_decide_eq_true hb
    obtain ⟨i, j, rfl⟩ := shape2 sh (by decide) rfl
    have g := g2.trans g3
    have hg2 := hg.ex g.base
    exact sd_callL (l := [i, j]) rfl (R.mono g.base) fi g.sub (ea_cons (ed_given (j := 0) rfl hg2 rfl) (ea_cons (ed_given (j := 1) rfl hg2 rfl) ea_nil)) rfl look_heard fun v B3 H3 mu R3 hd => k v B3 H3 (Mut.ahead g mu) R3 hd
  have n2 := of_decide_eq_false hb
  have g := g2.trans g3
  refine qd_when (eb_is_ (c := 7) rfl) g3.sub (fun hb B4 H4 g4 => ?_) (fun hb B4 H4 g4 => ?_)
  · cases of_decide_eq_true hb
    cases shape0 sh (by decide) rfl
    have g := g.trans g4
    exact sd_callL (l := []) rfl (R.mono g.base) fi g.sub ea_nil rfl rfl fun v B3 H3 mu R3 hd => k v B3 H3 (Mut.ahead g mu) R3 hd
  have n3 := of_decide_eq_false hb
  have g := g.trans g4
  refine qd_when (eb_is_ (c := 8) rfl) g4.sub (fun hb B5 H5 g5 => ?_) (fun hb B5 H5 g5 => ?_)
  · cases of_decide_eq_true hb
    obtain ⟨i, rfl⟩ := shape1 sh (by decide) rfl
    have g := g.trans g5
    exact sd_callL (l := [i]) rfl (R.mono g.base) fi g.sub (ea_cons (ed_given (j := 0) rfl (hg.ex g.base) rfl) ea_nil) rfl look_past fun v B3 H3 mu R3 hd => k v B3 H3 (Mut.ahead g mu) R3 hd
  have n4 := of_decide_eq_false hb
  have g := g.trans g5
  refine qd_when (eb_is_ (c := 9) rfl) g5.sub (fun hb B6 H6 g6 => ?_) (fun hb B6 H6 g6 => ?_)
  · cases of_decide_eq_true hb
    cases shape0 sh (by decide) rfl
    have g := g.trans g6
    exact sd_callL (l := []) rfl (R.mono g.base) fi g.sub ea_nil rfl rfl fun v B3 H3 mu R3 hd => k v B3 H3 (Mut.ahead g mu) R3 hd
  have n5 := of_decide_eq_false hb
  have g := g.trans g6
  have : p = 13 := by omega
  subst this
  cases shape0 sh (by decide) rfl
  exact sd_callL (l := []) rfl (R.mono g.base) fi g.sub ea_nil rfl rfl fun v B3 H3 mu R3 hd => k v B3 H3 (Mut.ahead g mu) R3 hd
theorem pu_aorders (vs : List V) (H : Hp) (Q : VK) (E : XK) (h : spAct C P3 vs H Q E) : t_answer_orders K C (spLook0 C .orders) (prR C (prLook (fun l => .order (l.headD 0)) 1)) (prR C prFits) (prR C (prLook (fun l => .sooner (l.getD 0 0) (l.getD 1 0)) 2)) (prR C (prLook (fun l => .place (l.headD 0)) 1)) { nx := fun _ H' => Q .non H', rt := Q } (start n_answer_orders vs) H := by
  obtain ⟨B, r, m, p, gv, l, rfl, e, R, fi, hP, sh, hl, hg, k⟩ := h
  unfold P3 at hP
  refine qd_when (eb_is_ (c := 10) rfl) e (fun hb B2 H2 g2 => ?_) (fun hb B2 H2 g2 => ?_)
  · cases of_decide_eq_true hb
    cases shape0 sh (by decide) rfl
    exact sd_callL (l := []) rfl (R.mono g2.base) fi g2.sub ea_nil rfl rfl fun v B3 H3 mu R3 hd => k v B3 H3 (Mut.ahead g2 mu) R3 hd
  have n1 := of_decide_eq_false hb
  refine qd_when (eb_is_ (c := 11) rfl) g2.sub (fun hb B3 H3 g3 => ?_) (fun hb B3 H3 g3 => ?_)
  · cases of_decide_eq_true hb
    obtain ⟨i, rfl⟩ := shape1 sh (by decide) rfl
    have g := g2.trans g3
    exact sd_callL (l := [i]) rfl (R.mono g.base) fi g.sub (ea_cons (ed_given (j := 0) rfl (hg.ex g.base) rfl) ea_nil) rfl look_order fun v B3 H3 mu R3 hd => k v B3 H3 (Mut.ahead g mu) R3 hd
  have n2 := of_decide_eq_false hb
  have g := g2.trans g3
  refine qd_when (eb_is_ (c := 12) rfl) g3.sub (fun hb B4 H4 g4 => ?_) (fun hb B4 H4 g4 => ?_)
  · cases of_decide_eq_true hb
    obtain ⟨row, rfl⟩ := sh.2.2 rfl
    have g := g.trans g4
    rw [List.length_cons] at hl
    have R4 := R.mono g.base
    refine sd_ret (B := B4) (ed_callR rfl R4 (ea_cons (ed_is (ed_sl (ed_var rfl (hg.ex g.base)) (ep_some (i := ((1 : Nat) : Int)) (ed_int (i := 1))) ep_none) (show _ = dNats row by rw [cut_from (by rw [List.length_map, List.length_cons]; omega)]; rfl)) ea_nil) ⟨fi, row, rfl, by omega, rfl⟩) g4.sub fun v B5 H5 g5 hv => k v B5 H5 (g.trans g5).mut ?_ hv
    show RecAt C B5 r (m.does (.fits row)).1
    rw [look_fits]
    exact R4.mono g5.base
  have n3 := of_decide_eq_false hb
  have g := g.trans g4
  refine qd_when (eb_is_ (c := 14) rfl) g4.sub (fun hb B5 H5 g5 => ?_) (fun hb B5 H5 g5 => ?_)
  · cases of_decide_eq_true hb
    obtain ⟨i, j, rfl⟩ := shape2 sh (by decide) rfl
    have g := g.trans g5
    have hg2 := hg.ex g.base
    exact sd_callL (l := [i, j]) rfl (R.mono g.base) fi g.sub (ea_cons (ed_given (j := 0) rfl hg2 rfl) (ea_cons (ed_given (j := 1) rfl hg2 rfl) ea_nil)) rfl look_sooner fun v B3 H3 mu R3 hd => k v B3 H3 (Mut.ahead g mu) R3 hd
  have n4 := of_decide_eq_false hb
  have g := g.trans g5
  have : p = 15 := by omega
  subst this
  obtain ⟨i, rfl⟩ := shape1 sh (by decide) rfl
  exact sd_callL (l := [i]) rfl (R.mono g.base) fi g.sub (ea_cons (ed_given (j := 0) rfl (hg.ex g.base) rfl) ea_nil) rfl look_place fun v B3 H3 mu R3 hd => k v B3 H3 (Mut.ahead g mu) R3 hd
/-- answer_whole: no numbers are handed in -/
def spWhole (C : Addr) : Sp := fun vs H Q _ => ∃ B r m p, vs = [.ref r, .int ((p : Nat) : Int)] ∧ Ex B H ∧ RecAt C B r m ∧ Fine m ∧ P4 p ∧
  ∀ v B2 H2, Mut r B H B2 H2 → RecAt C B2 r (m.does (callAt p [])).1 → Dt B2 v (dAns (m.does (callAt p [])).2) → Q v H2
theorem pu_awhole (vs : List V) (H : Hp) (Q : VK) (E : XK) (h : spWhole C vs H Q E) : t_answer_whole K C (spLook0 C .line) (spLook0 C .events) (spLook0 C .fewest) (spLook0 C .row) (spLook0 C .apart) (spLook0 C .state) { nx := fun _ H' => Q .non H', rt := Q } (start n_answer_whole vs) H := by
  obtain ⟨B, r, m, p, rfl, e, R, fi, hP, k⟩ := h
  unfold P4 at hP
  refine qd_when (eb_is_ (c := 16) rfl) e (fun hb B2 H2 g2 => ?_) (fun hb B2 H2 g2 => ?_)
  · cases of_decide_eq_true hb
    exact sd_callL (l := []) rfl (R.mono g2.base) fi g2.sub ea_nil rfl look_line fun v B3 H3 mu R3 hd => k v B3 H3 (Mut.ahead g2 mu) R3 hd
  have n1 := of_decide_eq_false hb
  refine qd_when (eb_is_ (c := 17) rfl) g2.sub (fun hb B3 H3 g3 => ?_) (fun hb B3 H3 g3 => ?_)
  · cases of_decide_eq_true hb
    have g := g2.trans g3
    exact sd_callL (l := []) rfl (R.mono g.base) fi g.sub ea_nil rfl look_events fun v B3 H3 mu R3 hd => k v B3 H3 (Mut.ahead g mu) R3 hd
  have n2 := of_decide_eq_false hb
  have g := g2.trans g3
  refine qd_when (eb_is_ (c := 18) rfl) g3.sub (fun hb B4 H4 g4 => ?_) (fun hb B4 H4 g4 => ?_)
  · cases of_decide_eq_true hb
    have g := g.trans g4
    exact sd_callL (l := []) rfl (R.mono g.base) fi g.sub ea_nil rfl rfl fun v B3 H3 mu R3 hd => k v B3 H3 (Mut.ahead g mu) R3 hd
  have n3 := of_decide_eq_false hb
  have g := g.trans g4
  refine qd_when (eb_is_ (c := 19) rfl) g4.sub (fun hb B5 H5 g5 => ?_) (fun hb B5 H5 g5 => ?_)
  · cases of_decide_eq_true hb
    have g := g.trans g5
    exact sd_callL (l := []) rfl (R.mono g.base) fi g.sub ea_nil rfl rfl fun v B3 H3 mu R3 hd => k v B3 H3 (Mut.ahead g mu) R3 hd
  have n4 := of_decide_eq_false hb
  have g := g.trans g5
  refine qd_when (eb_is_ (c := 20) rfl) g5.sub (fun hb B6 H6 g6 => ?_) (fun hb B6 H6 g6 => ?_)
  · cases of_decide_eq_true hb
    have g := g.trans g6
    exact sd_callL (l := []) rfl (R.mono g.base) fi g.sub ea_nil rfl rfl fun v B3 H3 mu R3 hd => k v B3 H3 (Mut.ahead g mu) R3 hd
  have n5 := of_decide_eq_false hb
  have g := g.trans g6
  have : p = 22 := by omega
  subst this
  exact sd_callL (l := []) rfl (R.mono g.base) fi g.sub ea_nil rfl rfl fun v B3 H3 mu R3 hd => k v B3 H3 (Mut.ahead g mu) R3 hd
theorem eb_le {σ : L2.St} {B : Hp} {p : Nat} {i : Nat} {c : Nat} (h : σ[i]? = some (some (.int (p : Int)))) : EvB (tTest (tOp rLe (tVar i) (tC (.int (c : Int))))) σ B (decide (p ≤ c)) :=
  eb_is (eb_test (ed_op (ed_var h (.int _)) (ed_int (i := (c : Int))) (rd_I0 (d := .bool (decide ((p : Int) ≤ (c : Int)))) fun B => .bl _))) (decide_eq_decide.mpr (by omega))
theorem pu_acall (T : Txt K mg C a_WIDTHS) (vs : List V) (H : Hp) (Q : VK) (E : XK) (h : spAnswer C vs H Q E) : t_answer_call K C (spBegin C) (spAct C P1) (spAct C P2) (spAct C P3) (spWhole C) (prR C prBegun) { nx := fun _ H' => Q .non H', rt := Q } (start n_answer_call vs) H := by
  obtain ⟨B, r, m, s, p, gv, given, c, rfl, e, R, rep, hg, hc, pos, hl, k⟩ := h
  obtain ⟨l, rfl, sh, hcall⟩ := callOf_at hc pos
  rw [dInts_nats] at hg
  rw [List.length_map] at hl
  refine qd_when (eb_is_ (c := 0) rfl) e (fun hb B2 H2 g2 => ?_) (fun hb B2 H2 g2 => ?_)
  · cases of_decide_eq_true hb
    obtain ⟨n, rfl⟩ := shape1 sh (by decide) rfl
    have hcall : Kv416Neutral.callOf c = some (.begin_ n) := hcall
    obtain ⟨q1, q2⟩ := step_begin rep hcall
    refine ⟨_, rfl, ed_given (K := K) (σ := [some (.ref r), some (.int ((0 : Nat) : Int)), some gv]) (i := 2) (j := 0) rfl (hg.ex g2.base) rfl H2 g2.sub _ fun v3 B3 H3 g3 hv3 => ?_⟩
    cases hv3
    have g := g2.trans g3
    refine ⟨B3, r, m, n, rfl, g.sub, R.mono g.base, fun v B4 H4 mu R4 hd => k v B4 H4 _ (Mut.ahead g mu) R4 q2 ?_⟩
    rw [q1]
    exact hd
  have n0 := of_decide_eq_false hb
  have hbegun : EvB (tNot (tB (tMeth C "begun" (prR C prBegun) [] E0 (tVar 0) tNil))) [some (.ref r), some (.int ((p : Nat) : Int)), some gv] B2 (!decide (0 < m.now.n)) := eb_not (eb_B (ed_meth rfl (R.mono g2.base) no_begun ea_nil ⟨rfl, rfl⟩))
  refine qd_when hbegun g2.sub (fun hb B3 H3 g3 => ?_) (fun hb B3 H3 g3 => ?_)
  · have g := g2.trans g3
    rcases rep with ⟨rfl, rfl⟩ | ⟨rfl, fi⟩
    · have hs := step_none hcall n0 sh.1
      rw [hs] at k
      exact sd_ret (B := B3) ed_one g3.sub fun v B4 H4 g4 hv => k v B4 H4 m0 (g.trans g4).mut (R.mono (g.trans g4).base) (Or.inl ⟨rfl, rfl⟩) hv
    · have := fi.now.lo
      rw [decide_eq_true (by omega)] at hb
      cases hb
  rcases rep with ⟨rfl, rfl⟩ | ⟨rfl, fi⟩
  · cases hb
  rw [step_some hcall] at k
  have k2 : ∀ v B2 H2, Mut r B H B2 H2 → RecAt C B2 r (m.does (callAt p l)).1 → Dt B2 v (dAns (m.does (callAt p l)).2) → Q v H2 := fun v B2 H2 mu R2 hd => k v B2 H2 _ mu R2 (Or.inr ⟨rfl, fine_does fi _⟩) hd
  have g := g2.trans g3
  have h23 := sh.1
  refine qd_when (eb_or (eb_le (c := 4) rfl) fun _ => eb_is_ (c := 21) rfl) g3.sub (fun hb B4 H4 g4 => ?_) (fun hb B4 H4 g4 => ?_)
  · rw [Bool.or_eq_true, decide_eq_true_iff, decide_eq_true_iff] at hb
    have g := g.trans g4
    exact ⟨_, rfl, _, rfl, _, rfl, B4, r, m, p, gv, l, rfl, g.sub, R.mono g.base, fi, (by unfold P1; omega), sh, hl, hg.ex g.base, fun v B5 H5 mu R5 hd => k2 v B5 H5 (Mut.ahead g mu) R5 hd⟩
  rw [Bool.or_eq_false_iff, decide_eq_false_iff_not, decide_eq_false_iff_not] at hb
  have n1 := hb
  have g := g.trans g4
  refine qd_when (eb_or (eb_le (c := 9) rfl) fun _ => eb_is_ (c := 13) rfl) g4.sub (fun hb B5 H5 g5 => ?_) (fun hb B5 H5 g5 => ?_)
  · rw [Bool.or_eq_true, decide_eq_true_iff, decide_eq_true_iff] at hb
    have g := g.trans g5
    exact ⟨_, rfl, _, rfl, _, rfl, B5, r, m, p, gv, l, rfl, g.sub, R.mono g.base, fi, (by unfold P2; omega), sh, hl, hg.ex g.base, fun v B5 H5 mu R5 hd => k2 v B5 H5 (Mut.ahead g mu) R5 hd⟩
  rw [Bool.or_eq_false_iff, decide_eq_false_iff_not, decide_eq_false_iff_not] at hb
  have n2 := hb
  have g := g.trans g5
  refine qd_when (eb_le (c := 15) rfl) g5.sub (fun hb B6 H6 g6 => ?_) (fun hb B6 H6 g6 => ?_)
  · have hb := of_decide_eq_true hb
    have g := g.trans g6
    exact ⟨_, rfl, _, rfl, _, rfl, B6, r, m, p, gv, l, rfl, g.sub, R.mono g.base, fi, (by unfold P3; omega), sh, hl, hg.ex g.base, fun v B5 H5 mu R5 hd => k2 v B5 H5 (Mut.ahead g mu) R5 hd⟩
  have hb := of_decide_eq_false hb
  have g := g.trans g6
  have hP : P4 p := by unfold P4; omega
  have hl0 : l = [] := by
    refine len0 ?_
    rw [sh.2.1 (by omega)]
    rcases hP with h | rfl
    · have : ∀ p : Nat, p < 21 → 16 ≤ p → wid p = 0 := by decide
      exact this p (by omega) h.1
    · rfl
  subst hl0
  exact ⟨_, rfl, _, rfl, B6, r, m, p, rfl, g.sub, R.mono g.base, fi, hP, fun v B5 H5 mu R5 hd => k2 v B5 H5 (Mut.ahead g mu) R5 hd⟩
end
/-! lengths -/
theorem lnA {C : Addr} {P : Nat → Prop} (vs : List V) (H : Hp) (Q : VK) (E : XK) (q : spAct C P vs H Q E) : vs.length = 3 := by
  obtain ⟨B, r, m, p, gv, l, rfl, _⟩ := q
  rfl
theorem lnW {C : Addr} (vs : List V) (H : Hp) (Q : VK) (E : XK) (q : spWhole C vs H Q E) : vs.length = 2 := by
  obtain ⟨B, r, m, p, rfl, _⟩ := q
  rfl
theorem lnS {C : Addr} (vs : List V) (H : Hp) (Q : VK) (E : XK) (q : spAnswer C vs H Q E) : vs.length = 3 := by
  obtain ⟨B, r, m, s, p, gv, given, c, rfl, _⟩ := q
  rfl
end Oa

set_option Elab.async false
set_option linter.all false
set_option maxRecDepth 100000
set_option maxHeartbeats 4000000
namespace Oa
open PySem PySem.Spec PyProof.Rows L2 Evl
theorem all_mk {P : Program} {w : World} {K : PySem.W.Frag} {h : Heap} {mg : Str → Option Value} {fa C f_heard_table f_heard_pairs f_one_lies_between f_link_pairs f_past_events f_first_events f_one_heard_of_the_other f_number_without f_one_more f_most_together f_may_follow f_one_longer f_all_orders f_may_have_come f_how_often_sooner f_how_often_at_each_place f_comes_ahead f_how_many_ahead f_other_order f_two_orders f_fewest_orders f_counted f_counted_pairs f_told f_state f_Record_init f_Record_begun f_Record_has_event f_Record_table f_heard f_pairs f_past f_links f_first f_orders f_order f_fits f_sooner f_place f_line f_places_on_line f_fewest f_most_in_row f_most_apart f_Record_start f_begin f_Record_change f_tell f_untell f_turn f_without f_Record_take_back f_back f_call_end f_answer_change f_answer_hearing f_answer_orders f_answer_whole f_answer_call f_answers a_WIDTHS : Addr} (X : K.In h) (G : h.Ns mainGlobals mg) (hfa : mg "answers" = some (.ref fa))
    {od_heard_table : Option Addr} {an_heard_table : Option Addr} {sl_heard_table : Array (Option Value)} {oc_heard_table kV_heard_table dc_heard_table pm_heard_table cd_heard_table ct_heard_table : Value} {od_heard_pairs : Option Addr} {an_heard_pairs : Option Addr} {sl_heard_pairs : Array (Option Value)} {oc_heard_pairs kV_heard_pairs dc_heard_pairs pm_heard_pairs cd_heard_pairs ct_heard_pairs : Value} {od_one_lies_between : Option Addr} {an_one_lies_between : Option Addr} {sl_one_lies_between : Array (Option Value)} {oc_one_lies_between kV_one_lies_between dc_one_lies_between pm_one_lies_between cd_one_lies_between ct_one_lies_between : Value} {od_link_pairs : Option Addr} {an_link_pairs : Option Addr} {sl_link_pairs : Array (Option Value)} {oc_link_pairs kV_link_pairs dc_link_pairs pm_link_pairs cd_link_pairs ct_link_pairs : Value} {od_past_events : Option Addr} {an_past_events : Option Addr} {sl_past_events : Array (Option Value)} {oc_past_events kV_past_events dc_past_events pm_past_events cd_past_events ct_past_events : Value} {od_first_events : Option Addr} {an_first_events : Option Addr} {sl_first_events : Array (Option Value)} {oc_first_events kV_first_events dc_first_events pm_first_events cd_first_events ct_first_events : Value} {od_one_heard_of_the_other : Option Addr} {an_one_heard_of_the_other : Option Addr} {sl_one_heard_of_the_other : Array (Option Value)} {oc_one_heard_of_the_other kV_one_heard_of_the_other dc_one_heard_of_the_other pm_one_heard_of_the_other cd_one_heard_of_the_other ct_one_heard_of_the_other : Value} {od_number_without : Option Addr} {an_number_without : Option Addr} {sl_number_without : Array (Option Value)} {oc_number_without kV_number_without dc_number_without pm_number_without cd_number_without ct_number_without : Value} {od_one_more : Option Addr} {an_one_more : Option Addr} {sl_one_more : Array (Option Value)} {oc_one_more kV_one_more dc_one_more pm_one_more cd_one_more ct_one_more : Value} {od_most_together : Option Addr} {an_most_together : Option Addr} {sl_most_together : Array (Option Value)} {oc_most_together kV_most_together dc_most_together pm_most_together cd_most_together ct_most_together : Value} {od_may_follow : Option Addr} {an_may_follow : Option Addr} {sl_may_follow : Array (Option Value)} {oc_may_follow kV_may_follow dc_may_follow pm_may_follow cd_may_follow ct_may_follow : Value} {od_one_longer : Option Addr} {an_one_longer : Option Addr} {sl_one_longer : Array (Option Value)} {oc_one_longer kV_one_longer dc_one_longer pm_one_longer cd_one_longer ct_one_longer : Value} {od_all_orders : Option Addr} {an_all_orders : Option Addr} {sl_all_orders : Array (Option Value)} {oc_all_orders kV_all_orders dc_all_orders pm_all_orders cd_all_orders ct_all_orders : Value} {od_may_have_come : Option Addr} {an_may_have_come : Option Addr} {sl_may_have_come : Array (Option Value)} {oc_may_have_come kV_may_have_come dc_may_have_come pm_may_have_come cd_may_have_come ct_may_have_come : Value} {od_how_often_sooner : Option Addr} {an_how_often_sooner : Option Addr} {sl_how_often_sooner : Array (Option Value)} {oc_how_often_sooner kV_how_often_sooner dc_how_often_sooner pm_how_often_sooner cd_how_often_sooner ct_how_often_sooner : Value} {od_how_often_at_each_place : Option Addr} {an_how_often_at_each_place : Option Addr} {sl_how_often_at_each_place : Array (Option Value)} {oc_how_often_at_each_place kV_how_often_at_each_place dc_how_often_at_each_place pm_how_often_at_each_place cd_how_often_at_each_place ct_how_often_at_each_place : Value} {od_comes_ahead : Option Addr} {an_comes_ahead : Option Addr} {sl_comes_ahead : Array (Option Value)} {oc_comes_ahead kV_comes_ahead dc_comes_ahead pm_comes_ahead cd_comes_ahead ct_comes_ahead : Value} {od_how_many_ahead : Option Addr} {an_how_many_ahead : Option Addr} {sl_how_many_ahead : Array (Option Value)} {oc_how_many_ahead kV_how_many_ahead dc_how_many_ahead pm_how_many_ahead cd_how_many_ahead ct_how_many_ahead : Value} {od_other_order : Option Addr} {an_other_order : Option Addr} {sl_other_order : Array (Option Value)} {oc_other_order kV_other_order dc_other_order pm_other_order cd_other_order ct_other_order : Value} {od_two_orders : Option Addr} {an_two_orders : Option Addr} {sl_two_orders : Array (Option Value)} {oc_two_orders kV_two_orders dc_two_orders pm_two_orders cd_two_orders ct_two_orders : Value} {od_fewest_orders : Option Addr} {an_fewest_orders : Option Addr} {sl_fewest_orders : Array (Option Value)} {oc_fewest_orders kV_fewest_orders dc_fewest_orders pm_fewest_orders cd_fewest_orders ct_fewest_orders : Value} {od_counted : Option Addr} {an_counted : Option Addr} {sl_counted : Array (Option Value)} {oc_counted kV_counted dc_counted pm_counted cd_counted ct_counted : Value} {od_counted_pairs : Option Addr} {an_counted_pairs : Option Addr} {sl_counted_pairs : Array (Option Value)} {oc_counted_pairs kV_counted_pairs dc_counted_pairs pm_counted_pairs cd_counted_pairs ct_counted_pairs : Value} {od_told : Option Addr} {an_told : Option Addr} {sl_told : Array (Option Value)} {oc_told kV_told dc_told pm_told cd_told ct_told : Value} {od_state : Option Addr} {an_state : Option Addr} {sl_state : Array (Option Value)} {oc_state kV_state dc_state pm_state cd_state ct_state : Value} {od_Record_init : Option Addr} {an_Record_init : Option Addr} {sl_Record_init : Array (Option Value)} {oc_Record_init kV_Record_init dc_Record_init pm_Record_init cd_Record_init ct_Record_init : Value} {od_Record_begun : Option Addr} {an_Record_begun : Option Addr} {sl_Record_begun : Array (Option Value)} {oc_Record_begun kV_Record_begun dc_Record_begun pm_Record_begun cd_Record_begun ct_Record_begun : Value} {od_Record_has_event : Option Addr} {an_Record_has_event : Option Addr} {sl_Record_has_event : Array (Option Value)} {oc_Record_has_event kV_Record_has_event dc_Record_has_event pm_Record_has_event cd_Record_has_event ct_Record_has_event : Value} {od_Record_table : Option Addr} {an_Record_table : Option Addr} {sl_Record_table : Array (Option Value)} {oc_Record_table kV_Record_table dc_Record_table pm_Record_table cd_Record_table ct_Record_table : Value} {od_heard : Option Addr} {an_heard : Option Addr} {sl_heard : Array (Option Value)} {oc_heard kV_heard dc_heard pm_heard cd_heard ct_heard : Value} {od_pairs : Option Addr} {an_pairs : Option Addr} {sl_pairs : Array (Option Value)} {oc_pairs kV_pairs dc_pairs pm_pairs cd_pairs ct_pairs : Value} {od_past : Option Addr} {an_past : Option Addr} {sl_past : Array (Option Value)} {oc_past kV_past dc_past pm_past cd_past ct_past : Value} {od_links : Option Addr} {an_links : Option Addr} {sl_links : Array (Option Value)} {oc_links kV_links dc_links pm_links cd_links ct_links : Value} {od_first : Option Addr} {an_first : Option Addr} {sl_first : Array (Option Value)} {oc_first kV_first dc_first pm_first cd_first ct_first : Value} {od_orders : Option Addr} {an_orders : Option Addr} {sl_orders : Array (Option Value)} {oc_orders kV_orders dc_orders pm_orders cd_orders ct_orders : Value} {od_order : Option Addr} {an_order : Option Addr} {sl_order : Array (Option Value)} {oc_order kV_order dc_order pm_order cd_order ct_order : Value} {od_fits : Option Addr} {an_fits : Option Addr} {sl_fits : Array (Option Value)} {oc_fits kV_fits dc_fits pm_fits cd_fits ct_fits : Value} {od_sooner : Option Addr} {an_sooner : Option Addr} {sl_sooner : Array (Option Value)} {oc_sooner kV_sooner dc_sooner pm_sooner cd_sooner ct_sooner : Value} {od_place : Option Addr} {an_place : Option Addr} {sl_place : Array (Option Value)} {oc_place kV_place dc_place pm_place cd_place ct_place : Value} {od_line : Option Addr} {an_line : Option Addr} {sl_line : Array (Option Value)} {oc_line kV_line dc_line pm_line cd_line ct_line : Value} {od_places_on_line : Option Addr} {an_places_on_line : Option Addr} {sl_places_on_line : Array (Option Value)} {oc_places_on_line kV_places_on_line dc_places_on_line pm_places_on_line cd_places_on_line ct_places_on_line : Value} {od_fewest : Option Addr} {an_fewest : Option Addr} {sl_fewest : Array (Option Value)} {oc_fewest kV_fewest dc_fewest pm_fewest cd_fewest ct_fewest : Value} {od_most_in_row : Option Addr} {an_most_in_row : Option Addr} {sl_most_in_row : Array (Option Value)} {oc_most_in_row kV_most_in_row dc_most_in_row pm_most_in_row cd_most_in_row ct_most_in_row : Value} {od_most_apart : Option Addr} {an_most_apart : Option Addr} {sl_most_apart : Array (Option Value)} {oc_most_apart kV_most_apart dc_most_apart pm_most_apart cd_most_apart ct_most_apart : Value} {od_Record_start : Option Addr} {an_Record_start : Option Addr} {sl_Record_start : Array (Option Value)} {oc_Record_start kV_Record_start dc_Record_start pm_Record_start cd_Record_start ct_Record_start : Value} {od_begin : Option Addr} {an_begin : Option Addr} {sl_begin : Array (Option Value)} {oc_begin kV_begin dc_begin pm_begin cd_begin ct_begin : Value} {od_Record_change : Option Addr} {an_Record_change : Option Addr} {sl_Record_change : Array (Option Value)} {oc_Record_change kV_Record_change dc_Record_change pm_Record_change cd_Record_change ct_Record_change : Value} {od_tell : Option Addr} {an_tell : Option Addr} {sl_tell : Array (Option Value)} {oc_tell kV_tell dc_tell pm_tell cd_tell ct_tell : Value} {od_untell : Option Addr} {an_untell : Option Addr} {sl_untell : Array (Option Value)} {oc_untell kV_untell dc_untell pm_untell cd_untell ct_untell : Value} {od_turn : Option Addr} {an_turn : Option Addr} {sl_turn : Array (Option Value)} {oc_turn kV_turn dc_turn pm_turn cd_turn ct_turn : Value} {od_without : Option Addr} {an_without : Option Addr} {sl_without : Array (Option Value)} {oc_without kV_without dc_without pm_without cd_without ct_without : Value} {od_Record_take_back : Option Addr} {an_Record_take_back : Option Addr} {sl_Record_take_back : Array (Option Value)} {oc_Record_take_back kV_Record_take_back dc_Record_take_back pm_Record_take_back cd_Record_take_back ct_Record_take_back : Value} {od_back : Option Addr} {an_back : Option Addr} {sl_back : Array (Option Value)} {oc_back kV_back dc_back pm_back cd_back ct_back : Value} {od_call_end : Option Addr} {an_call_end : Option Addr} {sl_call_end : Array (Option Value)} {oc_call_end kV_call_end dc_call_end pm_call_end cd_call_end ct_call_end : Value} {od_answer_change : Option Addr} {an_answer_change : Option Addr} {sl_answer_change : Array (Option Value)} {oc_answer_change kV_answer_change dc_answer_change pm_answer_change cd_answer_change ct_answer_change : Value} {od_answer_hearing : Option Addr} {an_answer_hearing : Option Addr} {sl_answer_hearing : Array (Option Value)} {oc_answer_hearing kV_answer_hearing dc_answer_hearing pm_answer_hearing cd_answer_hearing ct_answer_hearing : Value} {od_answer_orders : Option Addr} {an_answer_orders : Option Addr} {sl_answer_orders : Array (Option Value)} {oc_answer_orders kV_answer_orders dc_answer_orders pm_answer_orders cd_answer_orders ct_answer_orders : Value} {od_answer_whole : Option Addr} {an_answer_whole : Option Addr} {sl_answer_whole : Array (Option Value)} {oc_answer_whole kV_answer_whole dc_answer_whole pm_answer_whole cd_answer_whole ct_answer_whole : Value} {od_answer_call : Option Addr} {an_answer_call : Option Addr} {sl_answer_call : Array (Option Value)} {oc_answer_call kV_answer_call dc_answer_call pm_answer_call cd_answer_call ct_answer_call : Value} {od_answers : Option Addr} {an_answers : Option Addr} {sl_answers : Array (Option Value)} {oc_answers kV_answers dc_answers pm_answers cd_answers ct_answers : Value} {t_NO_SUCH : _} {t_ONLY_ONE : _} {t_NO_CHANGE : _} {t_NOT_BEGUN : _} {t_TOLD_ALREADY : _} {t_NOT_AS_TOLD : _} {t_NONE_THERE : _} {t_RING : _} {t_MOST_EVENTS : _} {t_MOST_CHANGES : _} {t_BEGIN : _} {t_TELL : _} {t_UNTELL : _} {t_TURN : _} {t_WITHOUT : _} {t_TOLD : _} {t_HEARD : _} {t_PAIRS : _} {t_PAST : _} {t_LINKS : _} {t_ORDERS : _} {t_ORDER : _} {t_FITS : _} {t_FIRST : _} {t_SOONER : _} {t_PLACE : _} {t_LINE : _} {t_EVENTS : _} {t_FEWEST : _} {t_ROW : _} {t_APART : _} {t_BACK : _} {o_WIDTHS : Obj} {j_WIDTHS : Array Value} {m_WIDTHS : Nat}
    (aC : PySem.W.nsIn K mainGlobals "Record" = some (some (.ref C)))
    (a_heard_table : PySem.W.nsIn K mainGlobals "heard_table" = some (some (.ref f_heard_table)))
    (l_heard_table : K.lookup f_heard_table = some ⟨oc_heard_table, od_heard_table, .func (PySem.W.fnOf "heard_table" "heard_table" (defArgs s_heard_table) (defBody s_heard_table) (defScope s_heard_table) .none kV_heard_table dc_heard_table pm_heard_table an_heard_table cd_heard_table ct_heard_table), sl_heard_table⟩)
    (c_heard_table : PySem.W.codeIn K cd_heard_table "heard_table" = true)
    (k_heard_table : PySem.W.keepIn K (.ref f_heard_table) = true)
    (a_heard_pairs : PySem.W.nsIn K mainGlobals "heard_pairs" = some (some (.ref f_heard_pairs)))
    (l_heard_pairs : K.lookup f_heard_pairs = some ⟨oc_heard_pairs, od_heard_pairs, .func (PySem.W.fnOf "heard_pairs" "heard_pairs" (defArgs s_heard_pairs) (defBody s_heard_pairs) (defScope s_heard_pairs) .none kV_heard_pairs dc_heard_pairs pm_heard_pairs an_heard_pairs cd_heard_pairs ct_heard_pairs), sl_heard_pairs⟩)
    (c_heard_pairs : PySem.W.codeIn K cd_heard_pairs "heard_pairs" = true)
    (k_heard_pairs : PySem.W.keepIn K (.ref f_heard_pairs) = true)
    (a_one_lies_between : PySem.W.nsIn K mainGlobals "one_lies_between" = some (some (.ref f_one_lies_between)))
    (l_one_lies_between : K.lookup f_one_lies_between = some ⟨oc_one_lies_between, od_one_lies_between, .func (PySem.W.fnOf "one_lies_between" "one_lies_between" (defArgs s_one_lies_between) (defBody s_one_lies_between) (defScope s_one_lies_between) .none kV_one_lies_between dc_one_lies_between pm_one_lies_between an_one_lies_between cd_one_lies_between ct_one_lies_between), sl_one_lies_between⟩)
    (c_one_lies_between : PySem.W.codeIn K cd_one_lies_between "one_lies_between" = true)
    (k_one_lies_between : PySem.W.keepIn K (.ref f_one_lies_between) = true)
    (a_link_pairs : PySem.W.nsIn K mainGlobals "link_pairs" = some (some (.ref f_link_pairs)))
    (l_link_pairs : K.lookup f_link_pairs = some ⟨oc_link_pairs, od_link_pairs, .func (PySem.W.fnOf "link_pairs" "link_pairs" (defArgs s_link_pairs) (defBody s_link_pairs) (defScope s_link_pairs) .none kV_link_pairs dc_link_pairs pm_link_pairs an_link_pairs cd_link_pairs ct_link_pairs), sl_link_pairs⟩)
    (c_link_pairs : PySem.W.codeIn K cd_link_pairs "link_pairs" = true)
    (k_link_pairs : PySem.W.keepIn K (.ref f_link_pairs) = true)
    (a_past_events : PySem.W.nsIn K mainGlobals "past_events" = some (some (.ref f_past_events)))
    (l_past_events : K.lookup f_past_events = some ⟨oc_past_events, od_past_events, .func (PySem.W.fnOf "past_events" "past_events" (defArgs s_past_events) (defBody s_past_events) (defScope s_past_events) .none kV_past_events dc_past_events pm_past_events an_past_events cd_past_events ct_past_events), sl_past_events⟩)
    (c_past_events : PySem.W.codeIn K cd_past_events "past_events" = true)
    (k_past_events : PySem.W.keepIn K (.ref f_past_events) = true)
    (a_first_events : PySem.W.nsIn K mainGlobals "first_events" = some (some (.ref f_first_events)))
    (l_first_events : K.lookup f_first_events = some ⟨oc_first_events, od_first_events, .func (PySem.W.fnOf "first_events" "first_events" (defArgs s_first_events) (defBody s_first_events) (defScope s_first_events) .none kV_first_events dc_first_events pm_first_events an_first_events cd_first_events ct_first_events), sl_first_events⟩)
    (c_first_events : PySem.W.codeIn K cd_first_events "first_events" = true)
    (k_first_events : PySem.W.keepIn K (.ref f_first_events) = true)
    (a_one_heard_of_the_other : PySem.W.nsIn K mainGlobals "one_heard_of_the_other" = some (some (.ref f_one_heard_of_the_other)))
    (l_one_heard_of_the_other : K.lookup f_one_heard_of_the_other = some ⟨oc_one_heard_of_the_other, od_one_heard_of_the_other, .func (PySem.W.fnOf "one_heard_of_the_other" "one_heard_of_the_other" (defArgs s_one_heard_of_the_other) (defBody s_one_heard_of_the_other) (defScope s_one_heard_of_the_other) .none kV_one_heard_of_the_other dc_one_heard_of_the_other pm_one_heard_of_the_other an_one_heard_of_the_other cd_one_heard_of_the_other ct_one_heard_of_the_other), sl_one_heard_of_the_other⟩)
    (c_one_heard_of_the_other : PySem.W.codeIn K cd_one_heard_of_the_other "one_heard_of_the_other" = true)
    (k_one_heard_of_the_other : PySem.W.keepIn K (.ref f_one_heard_of_the_other) = true)
    (a_number_without : PySem.W.nsIn K mainGlobals "number_without" = some (some (.ref f_number_without)))
    (l_number_without : K.lookup f_number_without = some ⟨oc_number_without, od_number_without, .func (PySem.W.fnOf "number_without" "number_without" (defArgs s_number_without) (defBody s_number_without) (defScope s_number_without) .none kV_number_without dc_number_without pm_number_without an_number_without cd_number_without ct_number_without), sl_number_without⟩)
    (c_number_without : PySem.W.codeIn K cd_number_without "number_without" = true)
    (k_number_without : PySem.W.keepIn K (.ref f_number_without) = true)
    (a_one_more : PySem.W.nsIn K mainGlobals "one_more" = some (some (.ref f_one_more)))
    (l_one_more : K.lookup f_one_more = some ⟨oc_one_more, od_one_more, .func (PySem.W.fnOf "one_more" "one_more" (defArgs s_one_more) (defBody s_one_more) (defScope s_one_more) .none kV_one_more dc_one_more pm_one_more an_one_more cd_one_more ct_one_more), sl_one_more⟩)
    (c_one_more : PySem.W.codeIn K cd_one_more "one_more" = true)
    (k_one_more : PySem.W.keepIn K (.ref f_one_more) = true)
    (a_most_together : PySem.W.nsIn K mainGlobals "most_together" = some (some (.ref f_most_together)))
    (l_most_together : K.lookup f_most_together = some ⟨oc_most_together, od_most_together, .func (PySem.W.fnOf "most_together" "most_together" (defArgs s_most_together) (defBody s_most_together) (defScope s_most_together) .none kV_most_together dc_most_together pm_most_together an_most_together cd_most_together ct_most_together), sl_most_together⟩)
    (c_most_together : PySem.W.codeIn K cd_most_together "most_together" = true)
    (k_most_together : PySem.W.keepIn K (.ref f_most_together) = true)
    (a_may_follow : PySem.W.nsIn K mainGlobals "may_follow" = some (some (.ref f_may_follow)))
    (l_may_follow : K.lookup f_may_follow = some ⟨oc_may_follow, od_may_follow, .func (PySem.W.fnOf "may_follow" "may_follow" (defArgs s_may_follow) (defBody s_may_follow) (defScope s_may_follow) .none kV_may_follow dc_may_follow pm_may_follow an_may_follow cd_may_follow ct_may_follow), sl_may_follow⟩)
    (c_may_follow : PySem.W.codeIn K cd_may_follow "may_follow" = true)
    (k_may_follow : PySem.W.keepIn K (.ref f_may_follow) = true)
    (a_one_longer : PySem.W.nsIn K mainGlobals "one_longer" = some (some (.ref f_one_longer)))
    (l_one_longer : K.lookup f_one_longer = some ⟨oc_one_longer, od_one_longer, .func (PySem.W.fnOf "one_longer" "one_longer" (defArgs s_one_longer) (defBody s_one_longer) (defScope s_one_longer) .none kV_one_longer dc_one_longer pm_one_longer an_one_longer cd_one_longer ct_one_longer), sl_one_longer⟩)
    (c_one_longer : PySem.W.codeIn K cd_one_longer "one_longer" = true)
    (k_one_longer : PySem.W.keepIn K (.ref f_one_longer) = true)
    (a_all_orders : PySem.W.nsIn K mainGlobals "all_orders" = some (some (.ref f_all_orders)))
    (l_all_orders : K.lookup f_all_orders = some ⟨oc_all_orders, od_all_orders, .func (PySem.W.fnOf "all_orders" "all_orders" (defArgs s_all_orders) (defBody s_all_orders) (defScope s_all_orders) .none kV_all_orders dc_all_orders pm_all_orders an_all_orders cd_all_orders ct_all_orders), sl_all_orders⟩)
    (c_all_orders : PySem.W.codeIn K cd_all_orders "all_orders" = true)
    (k_all_orders : PySem.W.keepIn K (.ref f_all_orders) = true)
    (a_may_have_come : PySem.W.nsIn K mainGlobals "may_have_come" = some (some (.ref f_may_have_come)))
    (l_may_have_come : K.lookup f_may_have_come = some ⟨oc_may_have_come, od_may_have_come, .func (PySem.W.fnOf "may_have_come" "may_have_come" (defArgs s_may_have_come) (defBody s_may_have_come) (defScope s_may_have_come) .none kV_may_have_come dc_may_have_come pm_may_have_come an_may_have_come cd_may_have_come ct_may_have_come), sl_may_have_come⟩)
    (c_may_have_come : PySem.W.codeIn K cd_may_have_come "may_have_come" = true)
    (k_may_have_come : PySem.W.keepIn K (.ref f_may_have_come) = true)
    (a_how_often_sooner : PySem.W.nsIn K mainGlobals "how_often_sooner" = some (some (.ref f_how_often_sooner)))
    (l_how_often_sooner : K.lookup f_how_often_sooner = some ⟨oc_how_often_sooner, od_how_often_sooner, .func (PySem.W.fnOf "how_often_sooner" "how_often_sooner" (defArgs s_how_often_sooner) (defBody s_how_often_sooner) (defScope s_how_often_sooner) .none kV_how_often_sooner dc_how_often_sooner pm_how_often_sooner an_how_often_sooner cd_how_often_sooner ct_how_often_sooner), sl_how_often_sooner⟩)
    (c_how_often_sooner : PySem.W.codeIn K cd_how_often_sooner "how_often_sooner" = true)
    (k_how_often_sooner : PySem.W.keepIn K (.ref f_how_often_sooner) = true)
    (a_how_often_at_each_place : PySem.W.nsIn K mainGlobals "how_often_at_each_place" = some (some (.ref f_how_often_at_each_place)))
    (l_how_often_at_each_place : K.lookup f_how_often_at_each_place = some ⟨oc_how_often_at_each_place, od_how_often_at_each_place, .func (PySem.W.fnOf "how_often_at_each_place" "how_often_at_each_place" (defArgs s_how_often_at_each_place) (defBody s_how_often_at_each_place) (defScope s_how_often_at_each_place) .none kV_how_often_at_each_place dc_how_often_at_each_place pm_how_often_at_each_place an_how_often_at_each_place cd_how_often_at_each_place ct_how_often_at_each_place), sl_how_often_at_each_place⟩)
    (c_how_often_at_each_place : PySem.W.codeIn K cd_how_often_at_each_place "how_often_at_each_place" = true)
    (k_how_often_at_each_place : PySem.W.keepIn K (.ref f_how_often_at_each_place) = true)
    (a_comes_ahead : PySem.W.nsIn K mainGlobals "comes_ahead" = some (some (.ref f_comes_ahead)))
    (l_comes_ahead : K.lookup f_comes_ahead = some ⟨oc_comes_ahead, od_comes_ahead, .func (PySem.W.fnOf "comes_ahead" "comes_ahead" (defArgs s_comes_ahead) (defBody s_comes_ahead) (defScope s_comes_ahead) .none kV_comes_ahead dc_comes_ahead pm_comes_ahead an_comes_ahead cd_comes_ahead ct_comes_ahead), sl_comes_ahead⟩)
    (c_comes_ahead : PySem.W.codeIn K cd_comes_ahead "comes_ahead" = true)
    (k_comes_ahead : PySem.W.keepIn K (.ref f_comes_ahead) = true)
    (a_how_many_ahead : PySem.W.nsIn K mainGlobals "how_many_ahead" = some (some (.ref f_how_many_ahead)))
    (l_how_many_ahead : K.lookup f_how_many_ahead = some ⟨oc_how_many_ahead, od_how_many_ahead, .func (PySem.W.fnOf "how_many_ahead" "how_many_ahead" (defArgs s_how_many_ahead) (defBody s_how_many_ahead) (defScope s_how_many_ahead) .none kV_how_many_ahead dc_how_many_ahead pm_how_many_ahead an_how_many_ahead cd_how_many_ahead ct_how_many_ahead), sl_how_many_ahead⟩)
    (c_how_many_ahead : PySem.W.codeIn K cd_how_many_ahead "how_many_ahead" = true)
    (k_how_many_ahead : PySem.W.keepIn K (.ref f_how_many_ahead) = true)
    (a_other_order : PySem.W.nsIn K mainGlobals "other_order" = some (some (.ref f_other_order)))
    (l_other_order : K.lookup f_other_order = some ⟨oc_other_order, od_other_order, .func (PySem.W.fnOf "other_order" "other_order" (defArgs s_other_order) (defBody s_other_order) (defScope s_other_order) .none kV_other_order dc_other_order pm_other_order an_other_order cd_other_order ct_other_order), sl_other_order⟩)
    (c_other_order : PySem.W.codeIn K cd_other_order "other_order" = true)
    (k_other_order : PySem.W.keepIn K (.ref f_other_order) = true)
    (a_two_orders : PySem.W.nsIn K mainGlobals "two_orders" = some (some (.ref f_two_orders)))
    (l_two_orders : K.lookup f_two_orders = some ⟨oc_two_orders, od_two_orders, .func (PySem.W.fnOf "two_orders" "two_orders" (defArgs s_two_orders) (defBody s_two_orders) (defScope s_two_orders) .none kV_two_orders dc_two_orders pm_two_orders an_two_orders cd_two_orders ct_two_orders), sl_two_orders⟩)
    (c_two_orders : PySem.W.codeIn K cd_two_orders "two_orders" = true)
    (k_two_orders : PySem.W.keepIn K (.ref f_two_orders) = true)
    (a_fewest_orders : PySem.W.nsIn K mainGlobals "fewest_orders" = some (some (.ref f_fewest_orders)))
    (l_fewest_orders : K.lookup f_fewest_orders = some ⟨oc_fewest_orders, od_fewest_orders, .func (PySem.W.fnOf "fewest_orders" "fewest_orders" (defArgs s_fewest_orders) (defBody s_fewest_orders) (defScope s_fewest_orders) .none kV_fewest_orders dc_fewest_orders pm_fewest_orders an_fewest_orders cd_fewest_orders ct_fewest_orders), sl_fewest_orders⟩)
    (c_fewest_orders : PySem.W.codeIn K cd_fewest_orders "fewest_orders" = true)
    (k_fewest_orders : PySem.W.keepIn K (.ref f_fewest_orders) = true)
    (a_counted : PySem.W.nsIn K mainGlobals "counted" = some (some (.ref f_counted)))
    (l_counted : K.lookup f_counted = some ⟨oc_counted, od_counted, .func (PySem.W.fnOf "counted" "counted" (defArgs s_counted) (defBody s_counted) (defScope s_counted) .none kV_counted dc_counted pm_counted an_counted cd_counted ct_counted), sl_counted⟩)
    (c_counted : PySem.W.codeIn K cd_counted "counted" = true)
    (k_counted : PySem.W.keepIn K (.ref f_counted) = true)
    (a_counted_pairs : PySem.W.nsIn K mainGlobals "counted_pairs" = some (some (.ref f_counted_pairs)))
    (l_counted_pairs : K.lookup f_counted_pairs = some ⟨oc_counted_pairs, od_counted_pairs, .func (PySem.W.fnOf "counted_pairs" "counted_pairs" (defArgs s_counted_pairs) (defBody s_counted_pairs) (defScope s_counted_pairs) .none kV_counted_pairs dc_counted_pairs pm_counted_pairs an_counted_pairs cd_counted_pairs ct_counted_pairs), sl_counted_pairs⟩)
    (c_counted_pairs : PySem.W.codeIn K cd_counted_pairs "counted_pairs" = true)
    (k_counted_pairs : PySem.W.keepIn K (.ref f_counted_pairs) = true)
    (a_told : PySem.W.nsIn K mainGlobals "told" = some (some (.ref f_told)))
    (l_told : K.lookup f_told = some ⟨oc_told, od_told, .func (PySem.W.fnOf "told" "told" (defArgs s_told) (defBody s_told) (defScope s_told) .none kV_told dc_told pm_told an_told cd_told ct_told), sl_told⟩)
    (c_told : PySem.W.codeIn K cd_told "told" = true)
    (k_told : PySem.W.keepIn K (.ref f_told) = true)
    (a_state : PySem.W.nsIn K mainGlobals "state" = some (some (.ref f_state)))
    (l_state : K.lookup f_state = some ⟨oc_state, od_state, .func (PySem.W.fnOf "state" "state" (defArgs s_state) (defBody s_state) (defScope s_state) .none kV_state dc_state pm_state an_state cd_state ct_state), sl_state⟩)
    (c_state : PySem.W.codeIn K cd_state "state" = true)
    (k_state : PySem.W.keepIn K (.ref f_state) = true)
    (a_Record_init : PySem.W.findIn K (.ref C) "__init__" = some (some (.ref f_Record_init)))
    (i_Record_init : PySem.W.isFn K (.ref f_Record_init) = true)
    (l_Record_init : K.lookup f_Record_init = some ⟨oc_Record_init, od_Record_init, .func (PySem.W.fnOf "__init__" "Record.__init__" (defArgs s_Record_init) (defBody s_Record_init) (defScope s_Record_init) .none kV_Record_init dc_Record_init pm_Record_init an_Record_init cd_Record_init ct_Record_init), sl_Record_init⟩)
    (c_Record_init : PySem.W.codeIn K cd_Record_init "Record.__init__" = true)
    (k_Record_init : PySem.W.keepIn K (.ref f_Record_init) = true)
    (a_Record_begun : PySem.W.findIn K (.ref C) "begun" = some (some (.ref f_Record_begun)))
    (i_Record_begun : PySem.W.isFn K (.ref f_Record_begun) = true)
    (l_Record_begun : K.lookup f_Record_begun = some ⟨oc_Record_begun, od_Record_begun, .func (PySem.W.fnOf "begun" "Record.begun" (defArgs s_Record_begun) (defBody s_Record_begun) (defScope s_Record_begun) .none kV_Record_begun dc_Record_begun pm_Record_begun an_Record_begun cd_Record_begun ct_Record_begun), sl_Record_begun⟩)
    (c_Record_begun : PySem.W.codeIn K cd_Record_begun "Record.begun" = true)
    (k_Record_begun : PySem.W.keepIn K (.ref f_Record_begun) = true)
    (a_Record_has_event : PySem.W.findIn K (.ref C) "has_event" = some (some (.ref f_Record_has_event)))
    (i_Record_has_event : PySem.W.isFn K (.ref f_Record_has_event) = true)
    (l_Record_has_event : K.lookup f_Record_has_event = some ⟨oc_Record_has_event, od_Record_has_event, .func (PySem.W.fnOf "has_event" "Record.has_event" (defArgs s_Record_has_event) (defBody s_Record_has_event) (defScope s_Record_has_event) .none kV_Record_has_event dc_Record_has_event pm_Record_has_event an_Record_has_event cd_Record_has_event ct_Record_has_event), sl_Record_has_event⟩)
    (c_Record_has_event : PySem.W.codeIn K cd_Record_has_event "Record.has_event" = true)
    (k_Record_has_event : PySem.W.keepIn K (.ref f_Record_has_event) = true)
    (a_Record_table : PySem.W.findIn K (.ref C) "table" = some (some (.ref f_Record_table)))
    (i_Record_table : PySem.W.isFn K (.ref f_Record_table) = true)
    (l_Record_table : K.lookup f_Record_table = some ⟨oc_Record_table, od_Record_table, .func (PySem.W.fnOf "table" "Record.table" (defArgs s_Record_table) (defBody s_Record_table) (defScope s_Record_table) .none kV_Record_table dc_Record_table pm_Record_table an_Record_table cd_Record_table ct_Record_table), sl_Record_table⟩)
    (c_Record_table : PySem.W.codeIn K cd_Record_table "Record.table" = true)
    (k_Record_table : PySem.W.keepIn K (.ref f_Record_table) = true)
    (a_heard : PySem.W.nsIn K mainGlobals "heard" = some (some (.ref f_heard)))
    (l_heard : K.lookup f_heard = some ⟨oc_heard, od_heard, .func (PySem.W.fnOf "heard" "heard" (defArgs s_heard) (defBody s_heard) (defScope s_heard) .none kV_heard dc_heard pm_heard an_heard cd_heard ct_heard), sl_heard⟩)
    (c_heard : PySem.W.codeIn K cd_heard "heard" = true)
    (k_heard : PySem.W.keepIn K (.ref f_heard) = true)
    (a_pairs : PySem.W.nsIn K mainGlobals "pairs" = some (some (.ref f_pairs)))
    (l_pairs : K.lookup f_pairs = some ⟨oc_pairs, od_pairs, .func (PySem.W.fnOf "pairs" "pairs" (defArgs s_pairs) (defBody s_pairs) (defScope s_pairs) .none kV_pairs dc_pairs pm_pairs an_pairs cd_pairs ct_pairs), sl_pairs⟩)
    (c_pairs : PySem.W.codeIn K cd_pairs "pairs" = true)
    (k_pairs : PySem.W.keepIn K (.ref f_pairs) = true)
    (a_past : PySem.W.nsIn K mainGlobals "past" = some (some (.ref f_past)))
    (l_past : K.lookup f_past = some ⟨oc_past, od_past, .func (PySem.W.fnOf "past" "past" (defArgs s_past) (defBody s_past) (defScope s_past) .none kV_past dc_past pm_past an_past cd_past ct_past), sl_past⟩)
    (c_past : PySem.W.codeIn K cd_past "past" = true)
    (k_past : PySem.W.keepIn K (.ref f_past) = true)
    (a_links : PySem.W.nsIn K mainGlobals "links" = some (some (.ref f_links)))
    (l_links : K.lookup f_links = some ⟨oc_links, od_links, .func (PySem.W.fnOf "links" "links" (defArgs s_links) (defBody s_links) (defScope s_links) .none kV_links dc_links pm_links an_links cd_links ct_links), sl_links⟩)
    (c_links : PySem.W.codeIn K cd_links "links" = true)
    (k_links : PySem.W.keepIn K (.ref f_links) = true)
    (a_first : PySem.W.nsIn K mainGlobals "first" = some (some (.ref f_first)))
    (l_first : K.lookup f_first = some ⟨oc_first, od_first, .func (PySem.W.fnOf "first" "first" (defArgs s_first) (defBody s_first) (defScope s_first) .none kV_first dc_first pm_first an_first cd_first ct_first), sl_first⟩)
    (c_first : PySem.W.codeIn K cd_first "first" = true)
    (k_first : PySem.W.keepIn K (.ref f_first) = true)
    (a_orders : PySem.W.nsIn K mainGlobals "orders" = some (some (.ref f_orders)))
    (l_orders : K.lookup f_orders = some ⟨oc_orders, od_orders, .func (PySem.W.fnOf "orders" "orders" (defArgs s_orders) (defBody s_orders) (defScope s_orders) .none kV_orders dc_orders pm_orders an_orders cd_orders ct_orders), sl_orders⟩)
    (c_orders : PySem.W.codeIn K cd_orders "orders" = true)
    (k_orders : PySem.W.keepIn K (.ref f_orders) = true)
    (a_order : PySem.W.nsIn K mainGlobals "order" = some (some (.ref f_order)))
    (l_order : K.lookup f_order = some ⟨oc_order, od_order, .func (PySem.W.fnOf "order" "order" (defArgs s_order) (defBody s_order) (defScope s_order) .none kV_order dc_order pm_order an_order cd_order ct_order), sl_order⟩)
    (c_order : PySem.W.codeIn K cd_order "order" = true)
    (k_order : PySem.W.keepIn K (.ref f_order) = true)
    (a_fits : PySem.W.nsIn K mainGlobals "fits" = some (some (.ref f_fits)))
    (l_fits : K.lookup f_fits = some ⟨oc_fits, od_fits, .func (PySem.W.fnOf "fits" "fits" (defArgs s_fits) (defBody s_fits) (defScope s_fits) .none kV_fits dc_fits pm_fits an_fits cd_fits ct_fits), sl_fits⟩)
    (c_fits : PySem.W.codeIn K cd_fits "fits" = true)
    (k_fits : PySem.W.keepIn K (.ref f_fits) = true)
    (a_sooner : PySem.W.nsIn K mainGlobals "sooner" = some (some (.ref f_sooner)))
    (l_sooner : K.lookup f_sooner = some ⟨oc_sooner, od_sooner, .func (PySem.W.fnOf "sooner" "sooner" (defArgs s_sooner) (defBody s_sooner) (defScope s_sooner) .none kV_sooner dc_sooner pm_sooner an_sooner cd_sooner ct_sooner), sl_sooner⟩)
    (c_sooner : PySem.W.codeIn K cd_sooner "sooner" = true)
    (k_sooner : PySem.W.keepIn K (.ref f_sooner) = true)
    (a_place : PySem.W.nsIn K mainGlobals "place" = some (some (.ref f_place)))
    (l_place : K.lookup f_place = some ⟨oc_place, od_place, .func (PySem.W.fnOf "place" "place" (defArgs s_place) (defBody s_place) (defScope s_place) .none kV_place dc_place pm_place an_place cd_place ct_place), sl_place⟩)
    (c_place : PySem.W.codeIn K cd_place "place" = true)
    (k_place : PySem.W.keepIn K (.ref f_place) = true)
    (a_line : PySem.W.nsIn K mainGlobals "line" = some (some (.ref f_line)))
    (l_line : K.lookup f_line = some ⟨oc_line, od_line, .func (PySem.W.fnOf "line" "line" (defArgs s_line) (defBody s_line) (defScope s_line) .none kV_line dc_line pm_line an_line cd_line ct_line), sl_line⟩)
    (c_line : PySem.W.codeIn K cd_line "line" = true)
    (k_line : PySem.W.keepIn K (.ref f_line) = true)
    (a_places_on_line : PySem.W.nsIn K mainGlobals "places_on_line" = some (some (.ref f_places_on_line)))
    (l_places_on_line : K.lookup f_places_on_line = some ⟨oc_places_on_line, od_places_on_line, .func (PySem.W.fnOf "places_on_line" "places_on_line" (defArgs s_places_on_line) (defBody s_places_on_line) (defScope s_places_on_line) .none kV_places_on_line dc_places_on_line pm_places_on_line an_places_on_line cd_places_on_line ct_places_on_line), sl_places_on_line⟩)
    (c_places_on_line : PySem.W.codeIn K cd_places_on_line "places_on_line" = true)
    (k_places_on_line : PySem.W.keepIn K (.ref f_places_on_line) = true)
    (a_fewest : PySem.W.nsIn K mainGlobals "fewest" = some (some (.ref f_fewest)))
    (l_fewest : K.lookup f_fewest = some ⟨oc_fewest, od_fewest, .func (PySem.W.fnOf "fewest" "fewest" (defArgs s_fewest) (defBody s_fewest) (defScope s_fewest) .none kV_fewest dc_fewest pm_fewest an_fewest cd_fewest ct_fewest), sl_fewest⟩)
    (c_fewest : PySem.W.codeIn K cd_fewest "fewest" = true)
    (k_fewest : PySem.W.keepIn K (.ref f_fewest) = true)
    (a_most_in_row : PySem.W.nsIn K mainGlobals "most_in_row" = some (some (.ref f_most_in_row)))
    (l_most_in_row : K.lookup f_most_in_row = some ⟨oc_most_in_row, od_most_in_row, .func (PySem.W.fnOf "most_in_row" "most_in_row" (defArgs s_most_in_row) (defBody s_most_in_row) (defScope s_most_in_row) .none kV_most_in_row dc_most_in_row pm_most_in_row an_most_in_row cd_most_in_row ct_most_in_row), sl_most_in_row⟩)
    (c_most_in_row : PySem.W.codeIn K cd_most_in_row "most_in_row" = true)
    (k_most_in_row : PySem.W.keepIn K (.ref f_most_in_row) = true)
    (a_most_apart : PySem.W.nsIn K mainGlobals "most_apart" = some (some (.ref f_most_apart)))
    (l_most_apart : K.lookup f_most_apart = some ⟨oc_most_apart, od_most_apart, .func (PySem.W.fnOf "most_apart" "most_apart" (defArgs s_most_apart) (defBody s_most_apart) (defScope s_most_apart) .none kV_most_apart dc_most_apart pm_most_apart an_most_apart cd_most_apart ct_most_apart), sl_most_apart⟩)
    (c_most_apart : PySem.W.codeIn K cd_most_apart "most_apart" = true)
    (k_most_apart : PySem.W.keepIn K (.ref f_most_apart) = true)
    (a_Record_start : PySem.W.findIn K (.ref C) "start" = some (some (.ref f_Record_start)))
    (i_Record_start : PySem.W.isFn K (.ref f_Record_start) = true)
    (l_Record_start : K.lookup f_Record_start = some ⟨oc_Record_start, od_Record_start, .func (PySem.W.fnOf "start" "Record.start" (defArgs s_Record_start) (defBody s_Record_start) (defScope s_Record_start) .none kV_Record_start dc_Record_start pm_Record_start an_Record_start cd_Record_start ct_Record_start), sl_Record_start⟩)
    (c_Record_start : PySem.W.codeIn K cd_Record_start "Record.start" = true)
    (k_Record_start : PySem.W.keepIn K (.ref f_Record_start) = true)
    (a_begin : PySem.W.nsIn K mainGlobals "begin" = some (some (.ref f_begin)))
    (l_begin : K.lookup f_begin = some ⟨oc_begin, od_begin, .func (PySem.W.fnOf "begin" "begin" (defArgs s_begin) (defBody s_begin) (defScope s_begin) .none kV_begin dc_begin pm_begin an_begin cd_begin ct_begin), sl_begin⟩)
    (c_begin : PySem.W.codeIn K cd_begin "begin" = true)
    (k_begin : PySem.W.keepIn K (.ref f_begin) = true)
    (a_Record_change : PySem.W.findIn K (.ref C) "change" = some (some (.ref f_Record_change)))
    (i_Record_change : PySem.W.isFn K (.ref f_Record_change) = true)
    (l_Record_change : K.lookup f_Record_change = some ⟨oc_Record_change, od_Record_change, .func (PySem.W.fnOf "change" "Record.change" (defArgs s_Record_change) (defBody s_Record_change) (defScope s_Record_change) .none kV_Record_change dc_Record_change pm_Record_change an_Record_change cd_Record_change ct_Record_change), sl_Record_change⟩)
    (c_Record_change : PySem.W.codeIn K cd_Record_change "Record.change" = true)
    (k_Record_change : PySem.W.keepIn K (.ref f_Record_change) = true)
    (a_tell : PySem.W.nsIn K mainGlobals "tell" = some (some (.ref f_tell)))
    (l_tell : K.lookup f_tell = some ⟨oc_tell, od_tell, .func (PySem.W.fnOf "tell" "tell" (defArgs s_tell) (defBody s_tell) (defScope s_tell) .none kV_tell dc_tell pm_tell an_tell cd_tell ct_tell), sl_tell⟩)
    (c_tell : PySem.W.codeIn K cd_tell "tell" = true)
    (k_tell : PySem.W.keepIn K (.ref f_tell) = true)
    (a_untell : PySem.W.nsIn K mainGlobals "untell" = some (some (.ref f_untell)))
    (l_untell : K.lookup f_untell = some ⟨oc_untell, od_untell, .func (PySem.W.fnOf "untell" "untell" (defArgs s_untell) (defBody s_untell) (defScope s_untell) .none kV_untell dc_untell pm_untell an_untell cd_untell ct_untell), sl_untell⟩)
    (c_untell : PySem.W.codeIn K cd_untell "untell" = true)
    (k_untell : PySem.W.keepIn K (.ref f_untell) = true)
    (a_turn : PySem.W.nsIn K mainGlobals "turn" = some (some (.ref f_turn)))
    (l_turn : K.lookup f_turn = some ⟨oc_turn, od_turn, .func (PySem.W.fnOf "turn" "turn" (defArgs s_turn) (defBody s_turn) (defScope s_turn) .none kV_turn dc_turn pm_turn an_turn cd_turn ct_turn), sl_turn⟩)
    (c_turn : PySem.W.codeIn K cd_turn "turn" = true)
    (k_turn : PySem.W.keepIn K (.ref f_turn) = true)
    (a_without : PySem.W.nsIn K mainGlobals "without" = some (some (.ref f_without)))
    (l_without : K.lookup f_without = some ⟨oc_without, od_without, .func (PySem.W.fnOf "without" "without" (defArgs s_without) (defBody s_without) (defScope s_without) .none kV_without dc_without pm_without an_without cd_without ct_without), sl_without⟩)
    (c_without : PySem.W.codeIn K cd_without "without" = true)
    (k_without : PySem.W.keepIn K (.ref f_without) = true)
    (a_Record_take_back : PySem.W.findIn K (.ref C) "take_back" = some (some (.ref f_Record_take_back)))
    (i_Record_take_back : PySem.W.isFn K (.ref f_Record_take_back) = true)
    (l_Record_take_back : K.lookup f_Record_take_back = some ⟨oc_Record_take_back, od_Record_take_back, .func (PySem.W.fnOf "take_back" "Record.take_back" (defArgs s_Record_take_back) (defBody s_Record_take_back) (defScope s_Record_take_back) .none kV_Record_take_back dc_Record_take_back pm_Record_take_back an_Record_take_back cd_Record_take_back ct_Record_take_back), sl_Record_take_back⟩)
    (c_Record_take_back : PySem.W.codeIn K cd_Record_take_back "Record.take_back" = true)
    (k_Record_take_back : PySem.W.keepIn K (.ref f_Record_take_back) = true)
    (a_back : PySem.W.nsIn K mainGlobals "back" = some (some (.ref f_back)))
    (l_back : K.lookup f_back = some ⟨oc_back, od_back, .func (PySem.W.fnOf "back" "back" (defArgs s_back) (defBody s_back) (defScope s_back) .none kV_back dc_back pm_back an_back cd_back ct_back), sl_back⟩)
    (c_back : PySem.W.codeIn K cd_back "back" = true)
    (k_back : PySem.W.keepIn K (.ref f_back) = true)
    (a_call_end : PySem.W.nsIn K mainGlobals "call_end" = some (some (.ref f_call_end)))
    (l_call_end : K.lookup f_call_end = some ⟨oc_call_end, od_call_end, .func (PySem.W.fnOf "call_end" "call_end" (defArgs s_call_end) (defBody s_call_end) (defScope s_call_end) .none kV_call_end dc_call_end pm_call_end an_call_end cd_call_end ct_call_end), sl_call_end⟩)
    (c_call_end : PySem.W.codeIn K cd_call_end "call_end" = true)
    (k_call_end : PySem.W.keepIn K (.ref f_call_end) = true)
    (a_answer_change : PySem.W.nsIn K mainGlobals "answer_change" = some (some (.ref f_answer_change)))
    (l_answer_change : K.lookup f_answer_change = some ⟨oc_answer_change, od_answer_change, .func (PySem.W.fnOf "answer_change" "answer_change" (defArgs s_answer_change) (defBody s_answer_change) (defScope s_answer_change) .none kV_answer_change dc_answer_change pm_answer_change an_answer_change cd_answer_change ct_answer_change), sl_answer_change⟩)
    (c_answer_change : PySem.W.codeIn K cd_answer_change "answer_change" = true)
    (k_answer_change : PySem.W.keepIn K (.ref f_answer_change) = true)
    (a_answer_hearing : PySem.W.nsIn K mainGlobals "answer_hearing" = some (some (.ref f_answer_hearing)))
    (l_answer_hearing : K.lookup f_answer_hearing = some ⟨oc_answer_hearing, od_answer_hearing, .func (PySem.W.fnOf "answer_hearing" "answer_hearing" (defArgs s_answer_hearing) (defBody s_answer_hearing) (defScope s_answer_hearing) .none kV_answer_hearing dc_answer_hearing pm_answer_hearing an_answer_hearing cd_answer_hearing ct_answer_hearing), sl_answer_hearing⟩)
    (c_answer_hearing : PySem.W.codeIn K cd_answer_hearing "answer_hearing" = true)
    (k_answer_hearing : PySem.W.keepIn K (.ref f_answer_hearing) = true)
    (a_answer_orders : PySem.W.nsIn K mainGlobals "answer_orders" = some (some (.ref f_answer_orders)))
    (l_answer_orders : K.lookup f_answer_orders = some ⟨oc_answer_orders, od_answer_orders, .func (PySem.W.fnOf "answer_orders" "answer_orders" (defArgs s_answer_orders) (defBody s_answer_orders) (defScope s_answer_orders) .none kV_answer_orders dc_answer_orders pm_answer_orders an_answer_orders cd_answer_orders ct_answer_orders), sl_answer_orders⟩)
    (c_answer_orders : PySem.W.codeIn K cd_answer_orders "answer_orders" = true)
    (k_answer_orders : PySem.W.keepIn K (.ref f_answer_orders) = true)
    (a_answer_whole : PySem.W.nsIn K mainGlobals "answer_whole" = some (some (.ref f_answer_whole)))
    (l_answer_whole : K.lookup f_answer_whole = some ⟨oc_answer_whole, od_answer_whole, .func (PySem.W.fnOf "answer_whole" "answer_whole" (defArgs s_answer_whole) (defBody s_answer_whole) (defScope s_answer_whole) .none kV_answer_whole dc_answer_whole pm_answer_whole an_answer_whole cd_answer_whole ct_answer_whole), sl_answer_whole⟩)
    (c_answer_whole : PySem.W.codeIn K cd_answer_whole "answer_whole" = true)
    (k_answer_whole : PySem.W.keepIn K (.ref f_answer_whole) = true)
    (a_answer_call : PySem.W.nsIn K mainGlobals "answer_call" = some (some (.ref f_answer_call)))
    (l_answer_call : K.lookup f_answer_call = some ⟨oc_answer_call, od_answer_call, .func (PySem.W.fnOf "answer_call" "answer_call" (defArgs s_answer_call) (defBody s_answer_call) (defScope s_answer_call) .none kV_answer_call dc_answer_call pm_answer_call an_answer_call cd_answer_call ct_answer_call), sl_answer_call⟩)
    (c_answer_call : PySem.W.codeIn K cd_answer_call "answer_call" = true)
    (k_answer_call : PySem.W.keepIn K (.ref f_answer_call) = true)
    (a_answers : PySem.W.nsIn K mainGlobals "answers" = some (some (.ref f_answers)))
    (l_answers : K.lookup f_answers = some ⟨oc_answers, od_answers, .func (PySem.W.fnOf "answers" "answers" (defArgs s_answers) (defBody s_answers) (defScope s_answers) .none kV_answers dc_answers pm_answers an_answers cd_answers ct_answers), sl_answers⟩)
    (c_answers : PySem.W.codeIn K cd_answers "answers" = true)
    (k_answers : PySem.W.keepIn K (.ref f_answers) = true)
    (pg : PySem.W.plainGet K C Str.empty = true)
    (hd : PySem.W.hasDictIn K C = true)
    (po : PySem.W.plainOver K C = true)
    (sa : PySem.W.findIn K (.ref C) "__setattr__" = some (some (.builtin "object.__setattr__")))
    (mk : PySem.W.makesIn K C = true)
    (kc : PySem.W.keepIn K (.ref C) = true)
    (n_earlier : PySem.W.findIn K (.ref C) "earlier" = some none)
    (n_size : PySem.W.findIn K (.ref C) "size" = some none)
    (n_told_pairs : PySem.W.findIn K (.ref C) "told_pairs" = some none)
    (z_all : PySem.W.nsIn K mainGlobals "all" = some none)
    (z_any : PySem.W.nsIn K mainGlobals "any" = some none)
    (z_enumerate : PySem.W.nsIn K mainGlobals "enumerate" = some none)
    (z_len : PySem.W.nsIn K mainGlobals "len" = some none)
    (z_list : PySem.W.nsIn K mainGlobals "list" = some none)
    (z_range : PySem.W.nsIn K mainGlobals "range" = some none)
    (z_sorted : PySem.W.nsIn K mainGlobals "sorted" = some none)
    (v_NO_SUCH : PySem.W.nsIn K mainGlobals "NO_SUCH" = some (some (.int (-2) t_NO_SUCH)))
    (v_ONLY_ONE : PySem.W.nsIn K mainGlobals "ONLY_ONE" = some (some (.int (-6) t_ONLY_ONE)))
    (v_NO_CHANGE : PySem.W.nsIn K mainGlobals "NO_CHANGE" = some (some (.int (-6) t_NO_CHANGE)))
    (v_NOT_BEGUN : PySem.W.nsIn K mainGlobals "NOT_BEGUN" = some (some (.int (-11) t_NOT_BEGUN)))
    (v_TOLD_ALREADY : PySem.W.nsIn K mainGlobals "TOLD_ALREADY" = some (some (.int (-17) t_TOLD_ALREADY)))
    (v_NOT_AS_TOLD : PySem.W.nsIn K mainGlobals "NOT_AS_TOLD" = some (some (.int (-22) t_NOT_AS_TOLD)))
    (v_NONE_THERE : PySem.W.nsIn K mainGlobals "NONE_THERE" = some (some (.int (-33) t_NONE_THERE)))
    (v_RING : PySem.W.nsIn K mainGlobals "RING" = some (some (.int (-35) t_RING)))
    (v_MOST_EVENTS : PySem.W.nsIn K mainGlobals "MOST_EVENTS" = some (some (.int (6) t_MOST_EVENTS)))
    (v_MOST_CHANGES : PySem.W.nsIn K mainGlobals "MOST_CHANGES" = some (some (.int (10) t_MOST_CHANGES)))
    (v_BEGIN : PySem.W.nsIn K mainGlobals "BEGIN" = some (some (.int (0) t_BEGIN)))
    (v_TELL : PySem.W.nsIn K mainGlobals "TELL" = some (some (.int (1) t_TELL)))
    (v_UNTELL : PySem.W.nsIn K mainGlobals "UNTELL" = some (some (.int (2) t_UNTELL)))
    (v_TURN : PySem.W.nsIn K mainGlobals "TURN" = some (some (.int (3) t_TURN)))
    (v_WITHOUT : PySem.W.nsIn K mainGlobals "WITHOUT" = some (some (.int (4) t_WITHOUT)))
    (v_TOLD : PySem.W.nsIn K mainGlobals "TOLD" = some (some (.int (5) t_TOLD)))
    (v_HEARD : PySem.W.nsIn K mainGlobals "HEARD" = some (some (.int (6) t_HEARD)))
    (v_PAIRS : PySem.W.nsIn K mainGlobals "PAIRS" = some (some (.int (7) t_PAIRS)))
    (v_PAST : PySem.W.nsIn K mainGlobals "PAST" = some (some (.int (8) t_PAST)))
    (v_LINKS : PySem.W.nsIn K mainGlobals "LINKS" = some (some (.int (9) t_LINKS)))
    (v_ORDERS : PySem.W.nsIn K mainGlobals "ORDERS" = some (some (.int (10) t_ORDERS)))
    (v_ORDER : PySem.W.nsIn K mainGlobals "ORDER" = some (some (.int (11) t_ORDER)))
    (v_FITS : PySem.W.nsIn K mainGlobals "FITS" = some (some (.int (12) t_FITS)))
    (v_FIRST : PySem.W.nsIn K mainGlobals "FIRST" = some (some (.int (13) t_FIRST)))
    (v_SOONER : PySem.W.nsIn K mainGlobals "SOONER" = some (some (.int (14) t_SOONER)))
    (v_PLACE : PySem.W.nsIn K mainGlobals "PLACE" = some (some (.int (15) t_PLACE)))
    (v_LINE : PySem.W.nsIn K mainGlobals "LINE" = some (some (.int (16) t_LINE)))
    (v_EVENTS : PySem.W.nsIn K mainGlobals "EVENTS" = some (some (.int (17) t_EVENTS)))
    (v_FEWEST : PySem.W.nsIn K mainGlobals "FEWEST" = some (some (.int (18) t_FEWEST)))
    (v_ROW : PySem.W.nsIn K mainGlobals "ROW" = some (some (.int (19) t_ROW)))
    (v_APART : PySem.W.nsIn K mainGlobals "APART" = some (some (.int (20) t_APART)))
    (v_BACK : PySem.W.nsIn K mainGlobals "BACK" = some (some (.int (21) t_BACK)))
    (v_WIDTHS : PySem.W.nsIn K mainGlobals "WIDTHS" = some (some (.ref a_WIDTHS)))
    (o1_WIDTHS : K.lookup a_WIDTHS = some o_WIDTHS)
    (o2_WIDTHS : o_WIDTHS.cls = .type "tuple")
    (o3_WIDTHS : o_WIDTHS.data = .seq j_WIDTHS m_WIDTHS)
    (o4_WIDTHS : Vals ([(1 : Int), (2 : Int), (2 : Int), (0 : Int), (1 : Int), (0 : Int), (2 : Int), (0 : Int), (1 : Int), (0 : Int), (0 : Int), (1 : Int), (1 : Int), (0 : Int), (2 : Int), (1 : Int), (0 : Int), (0 : Int), (0 : Int), (0 : Int), (0 : Int), (0 : Int), (0 : Int)].map V.int) j_WIDTHS.toList)
    (o5_WIDTHS : j_WIDTHS.size ≤ sizeLine) :
    ∃ fd : FuncData, (∀ (s : Shared) (us : List Value), us.length = (["calls"] : List Str).length → BindsTo s fd ⟨us, []⟩ ((["calls"] : List Str).zip us)) ∧ ∀ base : Heap, K.In base → base.Ns mainGlobals mg → FnOk P w K mg base CX0 10 fa fd ["calls"] (spAns K) := by
  have e := hfa.symm.trans (PySem.W.mg_of X G a_answers)
  cases e
  have T : Txt K mg C a_WIDTHS := ⟨⟨pg, hd, po, sa⟩, n_earlier, n_size, n_told_pairs, PySem.W.mg_none_of X G z_all, PySem.W.mg_none_of X G z_any, PySem.W.mg_none_of X G z_enumerate, PySem.W.mg_none_of X G z_len, PySem.W.mg_none_of X G z_list, PySem.W.mg_none_of X G z_range, PySem.W.mg_none_of X G z_sorted, ⟨_, PySem.W.mg_of X G v_NO_SUCH⟩, ⟨_, PySem.W.mg_of X G v_ONLY_ONE⟩, ⟨_, PySem.W.mg_of X G v_NO_CHANGE⟩, ⟨_, PySem.W.mg_of X G v_NOT_BEGUN⟩, ⟨_, PySem.W.mg_of X G v_TOLD_ALREADY⟩, ⟨_, PySem.W.mg_of X G v_NOT_AS_TOLD⟩, ⟨_, PySem.W.mg_of X G v_NONE_THERE⟩, ⟨_, PySem.W.mg_of X G v_RING⟩, ⟨_, PySem.W.mg_of X G v_MOST_EVENTS⟩, ⟨_, PySem.W.mg_of X G v_MOST_CHANGES⟩, ⟨_, PySem.W.mg_of X G v_BEGIN⟩, ⟨_, PySem.W.mg_of X G v_TELL⟩, ⟨_, PySem.W.mg_of X G v_UNTELL⟩, ⟨_, PySem.W.mg_of X G v_TURN⟩, ⟨_, PySem.W.mg_of X G v_WITHOUT⟩, ⟨_, PySem.W.mg_of X G v_TOLD⟩, ⟨_, PySem.W.mg_of X G v_HEARD⟩, ⟨_, PySem.W.mg_of X G v_PAIRS⟩, ⟨_, PySem.W.mg_of X G v_PAST⟩, ⟨_, PySem.W.mg_of X G v_LINKS⟩, ⟨_, PySem.W.mg_of X G v_ORDERS⟩, ⟨_, PySem.W.mg_of X G v_ORDER⟩, ⟨_, PySem.W.mg_of X G v_FITS⟩, ⟨_, PySem.W.mg_of X G v_FIRST⟩, ⟨_, PySem.W.mg_of X G v_SOONER⟩, ⟨_, PySem.W.mg_of X G v_PLACE⟩, ⟨_, PySem.W.mg_of X G v_LINE⟩, ⟨_, PySem.W.mg_of X G v_EVENTS⟩, ⟨_, PySem.W.mg_of X G v_FEWEST⟩, ⟨_, PySem.W.mg_of X G v_ROW⟩, ⟨_, PySem.W.mg_of X G v_APART⟩, ⟨_, PySem.W.mg_of X G v_BACK⟩, PySem.W.mg_of X G v_WIDTHS, fun H => .inr ⟨_, _, _, o1_WIDTHS, o2_WIDTHS, o3_WIDTHS, o5_WIDTHS, o4_WIDTHS⟩⟩
  have F_heard_table := fun_mk (st := s_heard_table) l_heard_table c_heard_table k_heard_table
  have b_heard_table := F_heard_table.binds (ps := ["size", "told_pairs"]) fun _ _ _ _ _ _ us hl => match us, hl with | [_, _], _ => rfl
  have F_heard_pairs := fun_mk (st := s_heard_pairs) l_heard_pairs c_heard_pairs k_heard_pairs
  have b_heard_pairs := F_heard_pairs.binds (ps := ["table"]) fun _ _ _ _ _ _ us hl => match us, hl with | [_], _ => rfl
  have F_one_lies_between := fun_mk (st := s_one_lies_between) l_one_lies_between c_one_lies_between k_one_lies_between
  have b_one_lies_between := F_one_lies_between.binds (ps := ["table", "i", "j"]) fun _ _ _ _ _ _ us hl => match us, hl with | [_, _, _], _ => rfl
  have F_link_pairs := fun_mk (st := s_link_pairs) l_link_pairs c_link_pairs k_link_pairs
  have b_link_pairs := F_link_pairs.binds (ps := ["table"]) fun _ _ _ _ _ _ us hl => match us, hl with | [_], _ => rfl
  have F_past_events := fun_mk (st := s_past_events) l_past_events c_past_events k_past_events
  have b_past_events := F_past_events.binds (ps := ["table", "i"]) fun _ _ _ _ _ _ us hl => match us, hl with | [_, _], _ => rfl
  have F_first_events := fun_mk (st := s_first_events) l_first_events c_first_events k_first_events
  have b_first_events := F_first_events.binds (ps := ["table"]) fun _ _ _ _ _ _ us hl => match us, hl with | [_], _ => rfl
  have F_one_heard_of_the_other := fun_mk (st := s_one_heard_of_the_other) l_one_heard_of_the_other c_one_heard_of_the_other k_one_heard_of_the_other
  have b_one_heard_of_the_other := F_one_heard_of_the_other.binds (ps := ["table", "i", "j"]) fun _ _ _ _ _ _ us hl => match us, hl with | [_, _, _], _ => rfl
  have F_number_without := fun_mk (st := s_number_without) l_number_without c_number_without k_number_without
  have b_number_without := F_number_without.binds (ps := ["event", "gone"]) fun _ _ _ _ _ _ us hl => match us, hl with | [_, _], _ => rfl
  have F_one_more := fun_mk (st := s_one_more) l_one_more c_one_more k_one_more
  have b_one_more := F_one_more.binds (ps := ["table", "groups", "in_row"]) fun _ _ _ _ _ _ us hl => match us, hl with | [_, _, _], _ => rfl
  have F_most_together := fun_mk (st := s_most_together) l_most_together c_most_together k_most_together
  have b_most_together := F_most_together.binds (ps := ["table", "in_row"]) fun _ _ _ _ _ _ us hl => match us, hl with | [_, _], _ => rfl
  have F_may_follow := fun_mk (st := s_may_follow) l_may_follow c_may_follow k_may_follow
  have b_may_follow := F_may_follow.binds (ps := ["row", "event", "past"]) fun _ _ _ _ _ _ us hl => match us, hl with | [_, _, _], _ => rfl
  have F_one_longer := fun_mk (st := s_one_longer) l_one_longer c_one_longer k_one_longer
  have b_one_longer := F_one_longer.binds (ps := ["rows", "pasts"]) fun _ _ _ _ _ _ us hl => match us, hl with | [_, _], _ => rfl
  have F_all_orders := fun_mk (st := s_all_orders) l_all_orders c_all_orders k_all_orders
  have b_all_orders := F_all_orders.binds (ps := ["table"]) fun _ _ _ _ _ _ us hl => match us, hl with | [_], _ => rfl
  have F_may_have_come := fun_mk (st := s_may_have_come) l_may_have_come c_may_have_come k_may_have_come
  have b_may_have_come := F_may_have_come.binds (ps := ["table", "row"]) fun _ _ _ _ _ _ us hl => match us, hl with | [_, _], _ => rfl
  have F_how_often_sooner := fun_mk (st := s_how_often_sooner) l_how_often_sooner c_how_often_sooner k_how_often_sooner
  have b_how_often_sooner := F_how_often_sooner.binds (ps := ["rows", "i", "j"]) fun _ _ _ _ _ _ us hl => match us, hl with | [_, _, _], _ => rfl
  have F_how_often_at_each_place := fun_mk (st := s_how_often_at_each_place) l_how_often_at_each_place c_how_often_at_each_place k_how_often_at_each_place
  have b_how_often_at_each_place := F_how_often_at_each_place.binds (ps := ["rows", "event"]) fun _ _ _ _ _ _ us hl => match us, hl with | [_, _], _ => rfl
  have F_comes_ahead := fun_mk (st := s_comes_ahead) l_comes_ahead c_comes_ahead k_comes_ahead
  have b_comes_ahead := F_comes_ahead.binds (ps := ["table", "row", "i", "j"]) fun _ _ _ _ _ _ us hl => match us, hl with | [_, _, _, _], _ => rfl
  have F_how_many_ahead := fun_mk (st := s_how_many_ahead) l_how_many_ahead c_how_many_ahead k_how_many_ahead
  have b_how_many_ahead := F_how_many_ahead.binds (ps := ["table", "row", "event"]) fun _ _ _ _ _ _ us hl => match us, hl with | [_, _, _], _ => rfl
  have F_other_order := fun_mk (st := s_other_order) l_other_order c_other_order k_other_order
  have b_other_order := F_other_order.binds (ps := ["table", "row"]) fun _ _ _ _ _ _ us hl => match us, hl with | [_, _], _ => rfl
  have F_two_orders := fun_mk (st := s_two_orders) l_two_orders c_two_orders k_two_orders
  have b_two_orders := F_two_orders.binds (ps := ["table"]) fun _ _ _ _ _ _ us hl => match us, hl with | [_], _ => rfl
  have F_fewest_orders := fun_mk (st := s_fewest_orders) l_fewest_orders c_fewest_orders k_fewest_orders
  have b_fewest_orders := F_fewest_orders.binds (ps := ["table"]) fun _ _ _ _ _ _ us hl => match us, hl with | [_], _ => rfl
  have F_counted := fun_mk (st := s_counted) l_counted c_counted k_counted
  have b_counted := F_counted.binds (ps := ["events"]) fun _ _ _ _ _ _ us hl => match us, hl with | [_], _ => rfl
  have F_counted_pairs := fun_mk (st := s_counted_pairs) l_counted_pairs c_counted_pairs k_counted_pairs
  have b_counted_pairs := F_counted_pairs.binds (ps := ["pairs_found"]) fun _ _ _ _ _ _ us hl => match us, hl with | [_], _ => rfl
  have F_told := fun_mk (st := s_told) l_told c_told k_told
  have b_told := F_told.binds (ps := ["record"]) fun _ _ _ _ _ _ us hl => match us, hl with | [_], _ => rfl
  have F_state := fun_mk (st := s_state) l_state c_state k_state
  have b_state := F_state.binds (ps := ["record"]) fun _ _ _ _ _ _ us hl => match us, hl with | [_], _ => rfl
  have F_Record_init := fun_mk (st := s_Record_init) l_Record_init c_Record_init k_Record_init
  have b_Record_init := F_Record_init.binds (ps := ["self"]) fun _ _ _ _ _ _ us hl => match us, hl with | [_], _ => rfl
  have F_Record_begun := fun_mk (st := s_Record_begun) l_Record_begun c_Record_begun k_Record_begun
  have b_Record_begun := F_Record_begun.binds (ps := ["self"]) fun _ _ _ _ _ _ us hl => match us, hl with | [_], _ => rfl
  have F_Record_has_event := fun_mk (st := s_Record_has_event) l_Record_has_event c_Record_has_event k_Record_has_event
  have b_Record_has_event := F_Record_has_event.binds (ps := ["self", "i"]) fun _ _ _ _ _ _ us hl => match us, hl with | [_, _], _ => rfl
  have F_Record_table := fun_mk (st := s_Record_table) l_Record_table c_Record_table k_Record_table
  have b_Record_table := F_Record_table.binds (ps := ["self"]) fun _ _ _ _ _ _ us hl => match us, hl with | [_], _ => rfl
  have F_heard := fun_mk (st := s_heard) l_heard c_heard k_heard
  have b_heard := F_heard.binds (ps := ["record", "i", "j"]) fun _ _ _ _ _ _ us hl => match us, hl with | [_, _, _], _ => rfl
  have F_pairs := fun_mk (st := s_pairs) l_pairs c_pairs k_pairs
  have b_pairs := F_pairs.binds (ps := ["record"]) fun _ _ _ _ _ _ us hl => match us, hl with | [_], _ => rfl
  have F_past := fun_mk (st := s_past) l_past c_past k_past
  have b_past := F_past.binds (ps := ["record", "i"]) fun _ _ _ _ _ _ us hl => match us, hl with | [_, _], _ => rfl
  have F_links := fun_mk (st := s_links) l_links c_links k_links
  have b_links := F_links.binds (ps := ["record"]) fun _ _ _ _ _ _ us hl => match us, hl with | [_], _ => rfl
  have F_first := fun_mk (st := s_first) l_first c_first k_first
  have b_first := F_first.binds (ps := ["record"]) fun _ _ _ _ _ _ us hl => match us, hl with | [_], _ => rfl
  have F_orders := fun_mk (st := s_orders) l_orders c_orders k_orders
  have b_orders := F_orders.binds (ps := ["record"]) fun _ _ _ _ _ _ us hl => match us, hl with | [_], _ => rfl
  have F_order := fun_mk (st := s_order) l_order c_order k_order
  have b_order := F_order.binds (ps := ["record", "k"]) fun _ _ _ _ _ _ us hl => match us, hl with | [_, _], _ => rfl
  have F_fits := fun_mk (st := s_fits) l_fits c_fits k_fits
  have b_fits := F_fits.binds (ps := ["record", "handed_in"]) fun _ _ _ _ _ _ us hl => match us, hl with | [_, _], _ => rfl
  have F_sooner := fun_mk (st := s_sooner) l_sooner c_sooner k_sooner
  have b_sooner := F_sooner.binds (ps := ["record", "i", "j"]) fun _ _ _ _ _ _ us hl => match us, hl with | [_, _, _], _ => rfl
  have F_place := fun_mk (st := s_place) l_place c_place k_place
  have b_place := F_place.binds (ps := ["record", "i"]) fun _ _ _ _ _ _ us hl => match us, hl with | [_, _], _ => rfl
  have F_line := fun_mk (st := s_line) l_line c_line k_line
  have b_line := F_line.binds (ps := ["record"]) fun _ _ _ _ _ _ us hl => match us, hl with | [_], _ => rfl
  have F_places_on_line := fun_mk (st := s_places_on_line) l_places_on_line c_places_on_line k_places_on_line
  have b_places_on_line := F_places_on_line.binds (ps := ["record"]) fun _ _ _ _ _ _ us hl => match us, hl with | [_], _ => rfl
  have F_fewest := fun_mk (st := s_fewest) l_fewest c_fewest k_fewest
  have b_fewest := F_fewest.binds (ps := ["record"]) fun _ _ _ _ _ _ us hl => match us, hl with | [_], _ => rfl
  have F_most_in_row := fun_mk (st := s_most_in_row) l_most_in_row c_most_in_row k_most_in_row
  have b_most_in_row := F_most_in_row.binds (ps := ["record"]) fun _ _ _ _ _ _ us hl => match us, hl with | [_], _ => rfl
  have F_most_apart := fun_mk (st := s_most_apart) l_most_apart c_most_apart k_most_apart
  have b_most_apart := F_most_apart.binds (ps := ["record"]) fun _ _ _ _ _ _ us hl => match us, hl with | [_], _ => rfl
  have F_Record_start := fun_mk (st := s_Record_start) l_Record_start c_Record_start k_Record_start
  have b_Record_start := F_Record_start.binds (ps := ["self", "size"]) fun _ _ _ _ _ _ us hl => match us, hl with | [_, _], _ => rfl
  have F_begin := fun_mk (st := s_begin) l_begin c_begin k_begin
  have b_begin := F_begin.binds (ps := ["record", "n"]) fun _ _ _ _ _ _ us hl => match us, hl with | [_, _], _ => rfl
  have F_Record_change := fun_mk (st := s_Record_change) l_Record_change c_Record_change k_Record_change
  have b_Record_change := F_Record_change.binds (ps := ["self", "size", "told_pairs"]) fun _ _ _ _ _ _ us hl => match us, hl with | [_, _, _], _ => rfl
  have F_tell := fun_mk (st := s_tell) l_tell c_tell k_tell
  have b_tell := F_tell.binds (ps := ["record", "i", "j"]) fun _ _ _ _ _ _ us hl => match us, hl with | [_, _, _], _ => rfl
  have F_untell := fun_mk (st := s_untell) l_untell c_untell k_untell
  have b_untell := F_untell.binds (ps := ["record", "i", "j"]) fun _ _ _ _ _ _ us hl => match us, hl with | [_, _, _], _ => rfl
  have F_turn := fun_mk (st := s_turn) l_turn c_turn k_turn
  have b_turn := F_turn.binds (ps := ["record"]) fun _ _ _ _ _ _ us hl => match us, hl with | [_], _ => rfl
  have F_without := fun_mk (st := s_without) l_without c_without k_without
  have b_without := F_without.binds (ps := ["record", "i"]) fun _ _ _ _ _ _ us hl => match us, hl with | [_, _], _ => rfl
  have F_Record_take_back := fun_mk (st := s_Record_take_back) l_Record_take_back c_Record_take_back k_Record_take_back
  have b_Record_take_back := F_Record_take_back.binds (ps := ["self"]) fun _ _ _ _ _ _ us hl => match us, hl with | [_], _ => rfl
  have F_back := fun_mk (st := s_back) l_back c_back k_back
  have b_back := F_back.binds (ps := ["record"]) fun _ _ _ _ _ _ us hl => match us, hl with | [_], _ => rfl
  have F_call_end := fun_mk (st := s_call_end) l_call_end c_call_end k_call_end
  have b_call_end := F_call_end.binds (ps := ["calls", "at"]) fun _ _ _ _ _ _ us hl => match us, hl with | [_, _], _ => rfl
  have F_answer_change := fun_mk (st := s_answer_change) l_answer_change c_answer_change k_answer_change
  have b_answer_change := F_answer_change.binds (ps := ["record", "call", "given"]) fun _ _ _ _ _ _ us hl => match us, hl with | [_, _, _], _ => rfl
  have F_answer_hearing := fun_mk (st := s_answer_hearing) l_answer_hearing c_answer_hearing k_answer_hearing
  have b_answer_hearing := F_answer_hearing.binds (ps := ["record", "call", "given"]) fun _ _ _ _ _ _ us hl => match us, hl with | [_, _, _], _ => rfl
  have F_answer_orders := fun_mk (st := s_answer_orders) l_answer_orders c_answer_orders k_answer_orders
  have b_answer_orders := F_answer_orders.binds (ps := ["record", "call", "given"]) fun _ _ _ _ _ _ us hl => match us, hl with | [_, _, _], _ => rfl
  have F_answer_whole := fun_mk (st := s_answer_whole) l_answer_whole c_answer_whole k_answer_whole
  have b_answer_whole := F_answer_whole.binds (ps := ["record", "call"]) fun _ _ _ _ _ _ us hl => match us, hl with | [_, _], _ => rfl
  have F_answer_call := fun_mk (st := s_answer_call) l_answer_call c_answer_call k_answer_call
  have b_answer_call := F_answer_call.binds (ps := ["record", "call", "given"]) fun _ _ _ _ _ _ us hl => match us, hl with | [_, _, _], _ => rfl
  have F_answers := fun_mk (st := s_answers) l_answers c_answers k_answers
  refine ⟨PySem.W.fnOf "answers" "answers" (defArgs s_answers) (defBody s_answers) (defScope s_answers) .none kV_answers dc_answers pm_answers an_answers cd_answers ct_answers, fun s us hu => match us, hu with | [_], _ => .of_eq rfl, fun base _ _ => ?_⟩
  have g_heard_table : Cal P w K mg base "heard_table" 1 ["size", "told_pairs"] (prm prTable) := ⟨_, _, tie_heard_table F_heard_table T  (lnP (by rintro ds d ⟨w, rfl, _⟩; rfl)) (pu_table), PySem.W.mg_of X G a_heard_table, k_heard_table, b_heard_table⟩
  have g_heard_pairs : Cal P w K mg base "heard_pairs" 1 ["table"] (prm prPairs) := ⟨_, _, tie_heard_pairs F_heard_pairs T  (lnP (by rintro ds d ⟨n, f, rfl, _⟩; rfl)) (pu_pairs), PySem.W.mg_of X G a_heard_pairs, k_heard_pairs, b_heard_pairs⟩
  have g_one_lies_between : Cal P w K mg base "one_lies_between" 1 ["table", "i", "j"] (prm prBetween) := ⟨_, _, tie_one_lies_between F_one_lies_between T  (lnP (by rintro ds d ⟨n, f, i, j, rfl, _⟩; rfl)) (pu_between), PySem.W.mg_of X G a_one_lies_between, k_one_lies_between, b_one_lies_between⟩
  have g_link_pairs : Cal P w K mg base "link_pairs" 2 ["table"] (prm prLinks) := ⟨_, _, tie_link_pairs F_link_pairs T g_heard_pairs g_one_lies_between (lnP (by rintro ds d ⟨n, f, rfl, _⟩; rfl)) (pu_links), PySem.W.mg_of X G a_link_pairs, k_link_pairs, b_link_pairs⟩
  have g_past_events : Cal P w K mg base "past_events" 1 ["table", "i"] (prm prPast) := ⟨_, _, tie_past_events F_past_events T  (lnP (by rintro ds d ⟨n, f, i, rfl, _⟩; rfl)) (pu_past), PySem.W.mg_of X G a_past_events, k_past_events, b_past_events⟩
  have g_first_events : Cal P w K mg base "first_events" 2 ["table"] (prm prFirst) := ⟨_, _, tie_first_events F_first_events T g_past_events (lnP (by rintro ds d ⟨n, f, rfl, _⟩; rfl)) (pu_first), PySem.W.mg_of X G a_first_events, k_first_events, b_first_events⟩
  have g_one_heard_of_the_other : Cal P w K mg base "one_heard_of_the_other" 1 ["table", "i", "j"] (prm prOne) := ⟨_, _, tie_one_heard_of_the_other F_one_heard_of_the_other T  (lnP (by rintro ds d ⟨n, f, i, j, rfl, _⟩; rfl)) (pu_one), PySem.W.mg_of X G a_one_heard_of_the_other, k_one_heard_of_the_other, b_one_heard_of_the_other⟩
  have g_number_without : Cal P w K mg base "number_without" 1 ["event", "gone"] (prm prNumber) := ⟨_, _, tie_number_without F_number_without T  (lnP (by rintro ds d ⟨x, i, rfl, _⟩; rfl)) (pu_number), PySem.W.mg_of X G a_number_without, k_number_without, b_number_without⟩
  have g_one_more : Cal P w K mg base "one_more" 2 ["table", "groups", "in_row"] (prm prMore) := ⟨_, _, tie_one_more F_one_more T g_one_heard_of_the_other (lnP (by rintro ds d ⟨n, f, gs, b, rfl, _⟩; rfl)) (pu_more), PySem.W.mg_of X G a_one_more, k_one_more, b_one_more⟩
  have g_most_together : Cal P w K mg base "most_together" 3 ["table", "in_row"] (prm prMost) := ⟨_, _, tie_most_together F_most_together T g_one_more (lnP (by rintro ds d ⟨n, f, b, s, rfl, _⟩; rfl)) (pu_most), PySem.W.mg_of X G a_most_together, k_most_together, b_most_together⟩
  have g_may_follow : Cal P w K mg base "may_follow" 1 ["row", "event", "past"] (prm prFollow) := ⟨_, _, tie_may_follow F_may_follow T  (lnP (by rintro ds d ⟨r, x, q, rfl, _⟩; rfl)) (pu_follow), PySem.W.mg_of X G a_may_follow, k_may_follow, b_may_follow⟩
  have g_one_longer : Cal P w K mg base "one_longer" 2 ["rows", "pasts"] (prm prLonger) := ⟨_, _, tie_one_longer F_one_longer T g_may_follow (lnP (by rintro ds d ⟨n, f, r, rfl, _⟩; rfl)) (pu_longer), PySem.W.mg_of X G a_one_longer, k_one_longer, b_one_longer⟩
  have g_all_orders : Cal P w K mg base "all_orders" 3 ["table"] (prm prOrders) := ⟨_, _, tie_all_orders F_all_orders T g_past_events g_one_longer (lnP (by rintro ds d ⟨n, f, rfl, _⟩; rfl)) (pu_orders), PySem.W.mg_of X G a_all_orders, k_all_orders, b_all_orders⟩
  have g_may_have_come : Cal P w K mg base "may_have_come" 1 ["table", "row"] (prm prCome) := ⟨_, _, tie_may_have_come F_may_have_come T  (lnP (by rintro ds d ⟨n, f, o, rfl, _⟩; rfl)) (pu_come), PySem.W.mg_of X G a_may_have_come, k_may_have_come, b_may_have_come⟩
  have g_how_often_sooner : Cal P w K mg base "how_often_sooner" 1 ["rows", "i", "j"] (prm prSooner) := ⟨_, _, tie_how_often_sooner F_how_often_sooner T  (lnP (by rintro ds d ⟨rows, i, j, rfl, _⟩; rfl)) (pu_soonerF), PySem.W.mg_of X G a_how_often_sooner, k_how_often_sooner, b_how_often_sooner⟩
  have g_how_often_at_each_place : Cal P w K mg base "how_often_at_each_place" 1 ["rows", "event"] (prm prPlace) := ⟨_, _, tie_how_often_at_each_place F_how_often_at_each_place T  (lnP (by rintro ds d ⟨rows, n, i, rfl, _⟩; rfl)) (pu_placeF), PySem.W.mg_of X G a_how_often_at_each_place, k_how_often_at_each_place, b_how_often_at_each_place⟩
  have g_comes_ahead : Cal P w K mg base "comes_ahead" 2 ["table", "row", "i", "j"] (prm prAhead) := ⟨_, _, tie_comes_ahead F_comes_ahead T g_one_heard_of_the_other (lnP (by rintro ds d ⟨n, f, o, i, j, rfl, _⟩; rfl)) (pu_ahead), PySem.W.mg_of X G a_comes_ahead, k_comes_ahead, b_comes_ahead⟩
  have g_how_many_ahead : Cal P w K mg base "how_many_ahead" 3 ["table", "row", "event"] (prm prMany) := ⟨_, _, tie_how_many_ahead F_how_many_ahead T g_comes_ahead (lnP (by rintro ds d ⟨n, f, o, i, rfl, _⟩; rfl)) (pu_many), PySem.W.mg_of X G a_how_many_ahead, k_how_many_ahead, b_how_many_ahead⟩
  have g_other_order : Cal P w K mg base "other_order" 4 ["table", "row"] (prm prOther) := ⟨_, _, tie_other_order F_other_order T g_how_many_ahead (lnP (by rintro ds d ⟨a, o, _, _, rfl, _⟩; rfl)) (pu_other), PySem.W.mg_of X G a_other_order, k_other_order, b_other_order⟩
  have g_two_orders : Cal P w K mg base "two_orders" 5 ["table"] (prm prTwo) := ⟨_, _, tie_two_orders F_two_orders T g_all_orders g_other_order (lnP (by rintro ds d ⟨a, _, rfl, _⟩; rfl)) (pu_two), PySem.W.mg_of X G a_two_orders, k_two_orders, b_two_orders⟩
  have g_fewest_orders : Cal P w K mg base "fewest_orders" 6 ["table"] (prm prFew) := ⟨_, _, tie_fewest_orders F_fewest_orders T g_all_orders g_two_orders (lnP (by rintro ds d ⟨a, _, rfl, _⟩; rfl)) (pu_few), PySem.W.mg_of X G a_fewest_orders, k_fewest_orders, b_fewest_orders⟩
  have g_counted : Cal P w K mg base "counted" 1 ["events"] (prm prCounted) := ⟨_, _, tie_counted F_counted T  (lnP (by rintro ds d ⟨l, rfl, _⟩; rfl)) (pu_counted), PySem.W.mg_of X G a_counted, k_counted, b_counted⟩
  have g_counted_pairs : Cal P w K mg base "counted_pairs" 1 ["pairs_found"] (prm prCountedP) := ⟨_, _, tie_counted_pairs F_counted_pairs T  (lnP (by rintro ds d ⟨l, rfl, _⟩; rfl)) (pu_countedP), PySem.W.mg_of X G a_counted_pairs, k_counted_pairs, b_counted_pairs⟩
  have g_told : Cal P w K mg base "told" 2 ["record"] (prR C (prLook (fun _ => .told) 0)) := ⟨_, _, tie_told F_told T g_counted_pairs (lnL) (pu_told T), PySem.W.mg_of X G a_told, k_told, b_told⟩
  have g_state : Cal P w K mg base "state" 1 ["record"] (prR C (prLook (fun _ => .state) 0)) := ⟨_, _, tie_state F_state T  (lnL) (pu_stateC T), PySem.W.mg_of X G a_state, k_state, b_state⟩
  have g_Record_init : CalC P w K mg base C "Record" 1 ["self"] (spInit C) := ⟨_, _, tie_Record_init F_Record_init T  (by rintro vs H Q E ⟨r, dx, rfl, _⟩; rfl) (pu_init T), ⟨mk, a_Record_init, i_Record_init, kc⟩, PySem.W.mg_of X G aC, b_Record_init⟩
  have g_Record_begun : CalM P w K mg base C "begun" 1 ["self"] (prR C prBegun) := ⟨_, _, tie_Record_begun F_Record_begun T  (lnR (by rintro m ds d ⟨rfl, _⟩; rfl)) (pu_begun T), ⟨a_Record_begun, i_Record_begun, k_Record_begun⟩, b_Record_begun⟩
  have g_Record_has_event : CalM P w K mg base C "has_event" 1 ["self", "i"] (prR C prHas) := ⟨_, _, tie_Record_has_event F_Record_has_event T  (lnR (by rintro m ds d ⟨i, rfl, _⟩; rfl)) (pu_has T), ⟨a_Record_has_event, i_Record_has_event, k_Record_has_event⟩, b_Record_has_event⟩
  have g_Record_table : CalM P w K mg base C "table" 2 ["self"] (prR C prTab) := ⟨_, _, tie_Record_table F_Record_table T g_heard_table (lnR (by rintro m ds d ⟨rfl, _⟩; rfl)) (pu_tabM T), ⟨a_Record_table, i_Record_table, k_Record_table⟩, b_Record_table⟩
  have g_heard : Cal P w K mg base "heard" 3 ["record", "i", "j"] (prR C (prLook (fun l => .heard (l.getD 0 0) (l.getD 1 0)) 2)) := ⟨_, _, tie_heard F_heard T g_Record_has_event g_Record_table (lnL) (pu_heardC T), PySem.W.mg_of X G a_heard, k_heard, b_heard⟩
  have g_pairs : Cal P w K mg base "pairs" 3 ["record"] (prR C (prLook (fun _ => .pairs) 0)) := ⟨_, _, tie_pairs F_pairs T g_counted_pairs g_heard_pairs g_Record_table (lnL) (pu_pairsC T), PySem.W.mg_of X G a_pairs, k_pairs, b_pairs⟩
  have g_past : Cal P w K mg base "past" 3 ["record", "i"] (prR C (prLook (fun l => .past (l.headD 0)) 1)) := ⟨_, _, tie_past F_past T g_counted g_past_events g_Record_has_event g_Record_table (lnL) (pu_pastC T), PySem.W.mg_of X G a_past, k_past, b_past⟩
  have g_links : Cal P w K mg base "links" 3 ["record"] (prR C (prLook (fun _ => .links) 0)) := ⟨_, _, tie_links F_links T g_counted_pairs g_link_pairs g_Record_table (lnL) (pu_linksC T), PySem.W.mg_of X G a_links, k_links, b_links⟩
  have g_first : Cal P w K mg base "first" 3 ["record"] (prR C (prLook (fun _ => .first) 0)) := ⟨_, _, tie_first F_first T g_counted g_first_events g_Record_table (lnL) (pu_firstC T), PySem.W.mg_of X G a_first, k_first, b_first⟩
  have g_orders : Cal P w K mg base "orders" 4 ["record"] (prR C (prLook (fun _ => .orders) 0)) := ⟨_, _, tie_orders F_orders T g_all_orders g_Record_table (lnL) (pu_ordersC T), PySem.W.mg_of X G a_orders, k_orders, b_orders⟩
  have g_order : Cal P w K mg base "order" 4 ["record", "k"] (prR C (prLook (fun l => .order (l.headD 0)) 1)) := ⟨_, _, tie_order F_order T g_all_orders g_counted g_Record_table (lnL) (pu_orderC T), PySem.W.mg_of X G a_order, k_order, b_order⟩
  have g_fits : Cal P w K mg base "fits" 3 ["record", "handed_in"] (prR C prFits) := ⟨_, _, tie_fits F_fits T g_may_have_come g_Record_table (lnR (by rintro m ds d ⟨_, l, rfl, _⟩; rfl)) (pu_fitsC T), PySem.W.mg_of X G a_fits, k_fits, b_fits⟩
  have g_sooner : Cal P w K mg base "sooner" 4 ["record", "i", "j"] (prR C (prLook (fun l => .sooner (l.getD 0 0) (l.getD 1 0)) 2)) := ⟨_, _, tie_sooner F_sooner T g_all_orders g_how_often_sooner g_Record_has_event g_Record_table (lnL) (pu_soonerC T), PySem.W.mg_of X G a_sooner, k_sooner, b_sooner⟩
  have g_place : Cal P w K mg base "place" 4 ["record", "i"] (prR C (prLook (fun l => .place (l.headD 0)) 1)) := ⟨_, _, tie_place F_place T g_counted g_how_often_at_each_place g_all_orders g_Record_has_event g_Record_table (lnL) (pu_placeC T), PySem.W.mg_of X G a_place, k_place, b_place⟩
  have g_line : Cal P w K mg base "line" 6 ["record"] (prR C (prLook (fun _ => .line) 0)) := ⟨_, _, tie_line F_line T g_two_orders g_counted g_Record_table (lnL) (pu_lineC T), PySem.W.mg_of X G a_line, k_line, b_line⟩
  have g_places_on_line : Cal P w K mg base "places_on_line" 6 ["record"] (prR C (prLook (fun _ => .events) 0)) := ⟨_, _, tie_places_on_line F_places_on_line T g_two_orders g_Record_table (lnL) (pu_eventsC T), PySem.W.mg_of X G a_places_on_line, k_places_on_line, b_places_on_line⟩
  have g_fewest : Cal P w K mg base "fewest" 7 ["record"] (prR C (prLook (fun _ => .fewest) 0)) := ⟨_, _, tie_fewest F_fewest T g_fewest_orders g_Record_table (lnL) (pu_fewestC T), PySem.W.mg_of X G a_fewest, k_fewest, b_fewest⟩
  have g_most_in_row : Cal P w K mg base "most_in_row" 4 ["record"] (prR C (prLook (fun _ => .row) 0)) := ⟨_, _, tie_most_in_row F_most_in_row T g_counted g_most_together g_Record_table (lnL) (pu_rowC T), PySem.W.mg_of X G a_most_in_row, k_most_in_row, b_most_in_row⟩
  have g_most_apart : Cal P w K mg base "most_apart" 4 ["record"] (prR C (prLook (fun _ => .apart) 0)) := ⟨_, _, tie_most_apart F_most_apart T g_counted g_most_together g_Record_table (lnL) (pu_apartC T), PySem.W.mg_of X G a_most_apart, k_most_apart, b_most_apart⟩
  have g_Record_start : CalM P w K mg base C "start" 1 ["self", "size"] (spStart C) := ⟨_, _, tie_Record_start F_Record_start T  (by rintro vs H Q E ⟨B, r, m, n, rfl, _⟩; rfl) (pu_start T), ⟨a_Record_start, i_Record_start, k_Record_start⟩, b_Record_start⟩
  have g_begin : Cal P w K mg base "begin" 2 ["record", "n"] (spBegin C) := ⟨_, _, tie_begin F_begin T g_Record_start (by rintro vs H Q E ⟨B, r, m, n, rfl, _⟩; rfl) (pu_begin T), PySem.W.mg_of X G a_begin, k_begin, b_begin⟩
  have g_Record_change : CalM P w K mg base C "change" 1 ["self", "size", "told_pairs"] (spChange C) := ⟨_, _, tie_Record_change F_Record_change T  (by rintro vs H Q E ⟨B, r, m, n, tv, l, rfl, _⟩; rfl) (pu_change T), ⟨a_Record_change, i_Record_change, k_Record_change⟩, b_Record_change⟩
  have g_tell : Cal P w K mg base "tell" 3 ["record", "i", "j"] (prCall C (fun l => .tell (l.getD 0 0) (l.getD 1 0)) 2) := ⟨_, _, tie_tell F_tell T g_Record_has_event g_Record_table g_Record_change (lnC) (pu_tell T), PySem.W.mg_of X G a_tell, k_tell, b_tell⟩
  have g_untell : Cal P w K mg base "untell" 2 ["record", "i", "j"] (prCall C (fun l => .untell (l.getD 0 0) (l.getD 1 0)) 2) := ⟨_, _, tie_untell F_untell T g_Record_has_event g_Record_change (lnC) (pu_untell T), PySem.W.mg_of X G a_untell, k_untell, b_untell⟩
  have g_turn : Cal P w K mg base "turn" 2 ["record"] (prCall C (fun _ => .turn) 0) := ⟨_, _, tie_turn F_turn T g_Record_change (lnC) (pu_turn T), PySem.W.mg_of X G a_turn, k_turn, b_turn⟩
  have g_without : Cal P w K mg base "without" 3 ["record", "i"] (prCall C (fun l => .without (l.headD 0)) 1) := ⟨_, _, tie_without F_without T g_heard_pairs g_number_without g_Record_has_event g_Record_table g_Record_change (lnC) (pu_without T), PySem.W.mg_of X G a_without, k_without, b_without⟩
  have g_Record_take_back : CalM P w K mg base C "take_back" 1 ["self"] (spTake C) := ⟨_, _, tie_Record_take_back F_Record_take_back T  (by rintro vs H Q E ⟨B, r, m, w, l, rfl, _⟩; rfl) (pu_take T), ⟨a_Record_take_back, i_Record_take_back, k_Record_take_back⟩, b_Record_take_back⟩
  have g_back : Cal P w K mg base "back" 2 ["record"] (prCall C (fun _ => .back) 0) := ⟨_, _, tie_back F_back T g_Record_take_back (lnC) (pu_back T), PySem.W.mg_of X G a_back, k_back, b_back⟩
  have g_call_end : Cal P w K mg base "call_end" 1 ["calls", "at"] (spEnd K) := ⟨_, _, tie_call_end F_call_end T  (by rintro vs H Q E ⟨B, a, ns, i, e, rfl, _⟩; rfl) (pu_end T), PySem.W.mg_of X G a_call_end, k_call_end, b_call_end⟩
  have g_answer_change : Cal P w K mg base "answer_change" 4 ["record", "call", "given"] (spAct C P1) := ⟨_, _, tie_answer_change F_answer_change T g_tell g_untell g_turn g_without g_back (lnA) (pu_achange), PySem.W.mg_of X G a_answer_change, k_answer_change, b_answer_change⟩
  have g_answer_hearing : Cal P w K mg base "answer_hearing" 4 ["record", "call", "given"] (spAct C P2) := ⟨_, _, tie_answer_hearing F_answer_hearing T g_told g_heard g_pairs g_past g_links g_first (lnA) (pu_ahearing), PySem.W.mg_of X G a_answer_hearing, k_answer_hearing, b_answer_hearing⟩
  have g_answer_orders : Cal P w K mg base "answer_orders" 5 ["record", "call", "given"] (spAct C P3) := ⟨_, _, tie_answer_orders F_answer_orders T g_orders g_order g_fits g_sooner g_place (lnA) (pu_aorders), PySem.W.mg_of X G a_answer_orders, k_answer_orders, b_answer_orders⟩
  have g_answer_whole : Cal P w K mg base "answer_whole" 8 ["record", "call"] (spWhole C) := ⟨_, _, tie_answer_whole F_answer_whole T g_line g_places_on_line g_fewest g_most_in_row g_most_apart g_state (lnW) (pu_awhole), PySem.W.mg_of X G a_answer_whole, k_answer_whole, b_answer_whole⟩
  have g_answer_call : Cal P w K mg base "answer_call" 9 ["record", "call", "given"] (spAnswer C) := ⟨_, _, tie_answer_call F_answer_call T g_begin g_answer_change g_answer_hearing g_answer_orders g_answer_whole g_Record_begun (lnS) (pu_acall T), PySem.W.mg_of X G a_answer_call, k_answer_call, b_answer_call⟩
  exact tie_answers F_answers T g_call_end g_answer_call g_Record_init (by rintro vs H Q E ⟨a, ns, rfl, _⟩; rfl) (pu_answers T)
end Oa
open PySem PySem.W PyProof.Rows
set_option maxRecDepth 100000 in
set_option maxHeartbeats 0 in
theorem PySem.Challenge.cw_ordersalone_s01_answers_holds : PySem.Challenge.rw_ordersalone_s01_answers.Holds := by
  w_on; k_headS; (case hw => exact ⟨[.list [.int 0, .int 1]], by decide +kernel, by decide +kernel⟩)
  k_fillS
  refine L2.walk_specK (r := PySem.Challenge.rw_ordersalone_s01_answers) (k := 10) (CX := L2.CX0) (ps := ["calls"]) (sp := Oa.spAns) (by decide +kernel) rfl rfl ⟨rfl, by decide, by decide⟩ (fun w h Y => PySem.W.kIn_of Y) ?F ?S (fun _ _ _ _ z => z)
  case F =>
    intro w mg fa h Y KX G hmg
    refine' Oa.all_mk KX G hmg ?aC ?a_heard_table ?l_heard_table ?c_heard_table ?k_heard_table ?a_heard_pairs ?l_heard_pairs ?c_heard_pairs ?k_heard_pairs ?a_one_lies_between ?l_one_lies_between ?c_one_lies_between ?k_one_lies_between ?a_link_pairs ?l_link_pairs ?c_link_pairs ?k_link_pairs ?a_past_events ?l_past_events ?c_past_events ?k_past_events ?a_first_events ?l_first_events ?c_first_events ?k_first_events ?a_one_heard_of_the_other ?l_one_heard_of_the_other ?c_one_heard_of_the_other ?k_one_heard_of_the_other ?a_number_without ?l_number_without ?c_number_without ?k_number_without ?a_one_more ?l_one_more ?c_one_more ?k_one_more ?a_most_together ?l_most_together ?c_most_together ?k_most_together ?a_may_follow ?l_may_follow ?c_may_follow ?k_may_follow ?a_one_longer ?l_one_longer ?c_one_longer ?k_one_longer ?a_all_orders ?l_all_orders ?c_all_orders ?k_all_orders ?a_may_have_come ?l_may_have_come ?c_may_have_come ?k_may_have_come ?a_how_often_sooner ?l_how_often_sooner ?c_how_often_sooner ?k_how_often_sooner ?a_how_often_at_each_place ?l_how_often_at_each_place ?c_how_often_at_each_place ?k_how_often_at_each_place ?a_comes_ahead ?l_comes_ahead ?c_comes_ahead ?k_comes_ahead ?a_how_many_ahead ?l_how_many_ahead ?c_how_many_ahead ?k_how_many_ahead ?a_other_order ?l_other_order ?c_other_order ?k_other_order ?a_two_orders ?l_two_orders ?c_two_orders ?k_two_orders ?a_fewest_orders ?l_fewest_orders ?c_fewest_orders ?k_fewest_orders ?a_counted ?l_counted ?c_counted ?k_counted ?a_counted_pairs ?l_counted_pairs ?c_counted_pairs ?k_counted_pairs ?a_told ?l_told ?c_told ?k_told ?a_state ?l_state ?c_state ?k_state ?a_Record_init ?i_Record_init ?l_Record_init ?c_Record_init ?k_Record_init ?a_Record_begun ?i_Record_begun ?l_Record_begun ?c_Record_begun ?k_Record_begun ?a_Record_has_event ?i_Record_has_event ?l_Record_has_event ?c_Record_has_event ?k_Record_has_event ?a_Record_table ?i_Record_table ?l_Record_table ?c_Record_table ?k_Record_table ?a_heard ?l_heard ?c_heard ?k_heard ?a_pairs ?l_pairs ?c_pairs ?k_pairs ?a_past ?l_past ?c_past ?k_past ?a_links ?l_links ?c_links ?k_links ?a_first ?l_first ?c_first ?k_first ?a_orders ?l_orders ?c_orders ?k_orders ?a_order ?l_order ?c_order ?k_order ?a_fits ?l_fits ?c_fits ?k_fits ?a_sooner ?l_sooner ?c_sooner ?k_sooner ?a_place ?l_place ?c_place ?k_place ?a_line ?l_line ?c_line ?k_line ?a_places_on_line ?l_places_on_line ?c_places_on_line ?k_places_on_line ?a_fewest ?l_fewest ?c_fewest ?k_fewest ?a_most_in_row ?l_most_in_row ?c_most_in_row ?k_most_in_row ?a_most_apart ?l_most_apart ?c_most_apart ?k_most_apart ?a_Record_start ?i_Record_start ?l_Record_start ?c_Record_start ?k_Record_start ?a_begin ?l_begin ?c_begin ?k_begin ?a_Record_change ?i_Record_change ?l_Record_change ?c_Record_change ?k_Record_change ?a_tell ?l_tell ?c_tell ?k_tell ?a_untell ?l_untell ?c_untell ?k_untell ?a_turn ?l_turn ?c_turn ?k_turn ?a_without ?l_without ?c_without ?k_without ?a_Record_take_back ?i_Record_take_back ?l_Record_take_back ?c_Record_take_back ?k_Record_take_back ?a_back ?l_back ?c_back ?k_back ?a_call_end ?l_call_end ?c_call_end ?k_call_end ?a_answer_change ?l_answer_change ?c_answer_change ?k_answer_change ?a_answer_hearing ?l_answer_hearing ?c_answer_hearing ?k_answer_hearing ?a_answer_orders ?l_answer_orders ?c_answer_orders ?k_answer_orders ?a_answer_whole ?l_answer_whole ?c_answer_whole ?k_answer_whole ?a_answer_call ?l_answer_call ?c_answer_call ?k_answer_call ?a_answers ?l_answers ?c_answers ?k_answers ?pg ?hd ?po ?sa ?mk ?kc ?n_earlier ?n_size ?n_told_pairs ?z_all ?z_any ?z_enumerate ?z_len ?z_list ?z_range ?z_sorted ?v_NO_SUCH ?v_ONLY_ONE ?v_NO_CHANGE ?v_NOT_BEGUN ?v_TOLD_ALREADY ?v_NOT_AS_TOLD ?v_NONE_THERE ?v_RING ?v_MOST_EVENTS ?v_MOST_CHANGES ?v_BEGIN ?v_TELL ?v_UNTELL ?v_TURN ?v_WITHOUT ?v_TOLD ?v_HEARD ?v_PAIRS ?v_PAST ?v_LINKS ?v_ORDERS ?v_ORDER ?v_FITS ?v_FIRST ?v_SOONER ?v_PLACE ?v_LINE ?v_EVENTS ?v_FEWEST ?v_ROW ?v_APART ?v_BACK ?v_WIDTHS ?o1_WIDTHS ?o2_WIDTHS ?o3_WIDTHS ?o4_WIDTHS ?o5_WIDTHS
    (case aC => k_is)
    (case a_heard_table => k_is)
    (case l_heard_table => k_is)
    (case c_heard_table => k_is)
    (case k_heard_table => k_is)
    (case a_heard_pairs => k_is)
    (case l_heard_pairs => k_is)
    (case c_heard_pairs => k_is)
    (case k_heard_pairs => k_is)
    (case a_one_lies_between => k_is)
    (case l_one_lies_between => k_is)
    (case c_one_lies_between => k_is)
    (case k_one_lies_between => k_is)
    (case a_link_pairs => k_is)
    (case l_link_pairs => k_is)
    (case c_link_pairs => k_is)
    (case k_link_pairs => k_is)
    (case a_past_events => k_is)
    (case l_past_events => k_is)
    (case c_past_events => k_is)
    (case k_past_events => k_is)
    (case a_first_events => k_is)
    (case l_first_events => k_is)
    (case c_first_events => k_is)
    (case k_first_events => k_is)
    (case a_one_heard_of_the_other => k_is)
    (case l_one_heard_of_the_other => k_is)
    (case c_one_heard_of_the_other => k_is)
    (case k_one_heard_of_the_other => k_is)
    (case a_number_without => k_is)
    (case l_number_without => k_is)
    (case c_number_without => k_is)
    (case k_number_without => k_is)
    (case a_one_more => k_is)
    (case l_one_more => k_is)
    (case c_one_more => k_is)
    (case k_one_more => k_is)
    (case a_most_together => k_is)
    (case l_most_together => k_is)
    (case c_most_together => k_is)
    (case k_most_together => k_is)
    (case a_may_follow => k_is)
    (case l_may_follow => k_is)
    (case c_may_follow => k_is)
    (case k_may_follow => k_is)
    (case a_one_longer => k_is)
    (case l_one_longer => k_is)
    (case c_one_longer => k_is)
    (case k_one_longer => k_is)
    (case a_all_orders => k_is)
    (case l_all_orders => k_is)
    (case c_all_orders => k_is)
    (case k_all_orders => k_is)
    (case a_may_have_come => k_is)
    (case l_may_have_come => k_is)
    (case c_may_have_come => k_is)
    (case k_may_have_come => k_is)
    (case a_how_often_sooner => k_is)
    (case l_how_often_sooner => k_is)
    (case c_how_often_sooner => k_is)
    (case k_how_often_sooner => k_is)
    (case a_how_often_at_each_place => k_is)
    (case l_how_often_at_each_place => k_is)
    (case c_how_often_at_each_place => k_is)
    (case k_how_often_at_each_place => k_is)
    (case a_comes_ahead => k_is)
    (case l_comes_ahead => k_is)
    (case c_comes_ahead => k_is)
    (case k_comes_ahead => k_is)
    (case a_how_many_ahead => k_is)
    (case l_how_many_ahead => k_is)
    (case c_how_many_ahead => k_is)
    (case k_how_many_ahead => k_is)
    (case a_other_order => k_is)
    (case l_other_order => k_is)
    (case c_other_order => k_is)
    (case k_other_order => k_is)
    (case a_two_orders => k_is)
    (case l_two_orders => k_is)
    (case c_two_orders => k_is)
    (case k_two_orders => k_is)
    (case a_fewest_orders => k_is)
    (case l_fewest_orders => k_is)
    (case c_fewest_orders => k_is)
    (case k_fewest_orders => k_is)
    (case a_counted => k_is)
    (case l_counted => k_is)
    (case c_counted => k_is)
    (case k_counted => k_is)
    (case a_counted_pairs => k_is)
    (case l_counted_pairs => k_is)
    (case c_counted_pairs => k_is)
    (case k_counted_pairs => k_is)
    (case a_told => k_is)
    (case l_told => k_is)
    (case c_told => k_is)
    (case k_told => k_is)
    (case a_state => k_is)
    (case l_state => k_is)
    (case c_state => k_is)
    (case k_state => k_is)
    (case a_Record_init => k_is)
    (case i_Record_init => k_is)
    (case l_Record_init => k_is)
    (case c_Record_init => k_is)
    (case k_Record_init => k_is)
    (case a_Record_begun => k_is)
    (case i_Record_begun => k_is)
    (case l_Record_begun => k_is)
    (case c_Record_begun => k_is)
    (case k_Record_begun => k_is)
    (case a_Record_has_event => k_is)
    (case i_Record_has_event => k_is)
    (case l_Record_has_event => k_is)
    (case c_Record_has_event => k_is)
    (case k_Record_has_event => k_is)
    (case a_Record_table => k_is)
    (case i_Record_table => k_is)
    (case l_Record_table => k_is)
    (case c_Record_table => k_is)
    (case k_Record_table => k_is)
    (case a_heard => k_is)
    (case l_heard => k_is)
    (case c_heard => k_is)
    (case k_heard => k_is)
    (case a_pairs => k_is)
    (case l_pairs => k_is)
    (case c_pairs => k_is)
    (case k_pairs => k_is)
    (case a_past => k_is)
    (case l_past => k_is)
    (case c_past => k_is)
    (case k_past => k_is)
    (case a_links => k_is)
    (case l_links => k_is)
    (case c_links => k_is)
    (case k_links => k_is)
    (case a_first => k_is)
    (case l_first => k_is)
    (case c_first => k_is)
    (case k_first => k_is)
    (case a_orders => k_is)
    (case l_orders => k_is)
    (case c_orders => k_is)
    (case k_orders => k_is)
    (case a_order => k_is)
    (case l_order => k_is)
    (case c_order => k_is)
    (case k_order => k_is)
    (case a_fits => k_is)
    (case l_fits => k_is)
    (case c_fits => k_is)
    (case k_fits => k_is)
    (case a_sooner => k_is)
    (case l_sooner => k_is)
    (case c_sooner => k_is)
    (case k_sooner => k_is)
    (case a_place => k_is)
    (case l_place => k_is)
    (case c_place => k_is)
    (case k_place => k_is)
    (case a_line => k_is)
    (case l_line => k_is)
    (case c_line => k_is)
    (case k_line => k_is)
    (case a_places_on_line => k_is)
    (case l_places_on_line => k_is)
    (case c_places_on_line => k_is)
    (case k_places_on_line => k_is)
    (case a_fewest => k_is)
    (case l_fewest => k_is)
    (case c_fewest => k_is)
    (case k_fewest => k_is)
    (case a_most_in_row => k_is)
    (case l_most_in_row => k_is)
    (case c_most_in_row => k_is)
    (case k_most_in_row => k_is)
    (case a_most_apart => k_is)
    (case l_most_apart => k_is)
    (case c_most_apart => k_is)
    (case k_most_apart => k_is)
    (case a_Record_start => k_is)
    (case i_Record_start => k_is)
    (case l_Record_start => k_is)
    (case c_Record_start => k_is)
    (case k_Record_start => k_is)
    (case a_begin => k_is)
    (case l_begin => k_is)
    (case c_begin => k_is)
    (case k_begin => k_is)
    (case a_Record_change => k_is)
    (case i_Record_change => k_is)
    (case l_Record_change => k_is)
    (case c_Record_change => k_is)
    (case k_Record_change => k_is)
    (case a_tell => k_is)
    (case l_tell => k_is)
    (case c_tell => k_is)
    (case k_tell => k_is)
    (case a_untell => k_is)
    (case l_untell => k_is)
    (case c_untell => k_is)
    (case k_untell => k_is)
    (case a_turn => k_is)
    (case l_turn => k_is)
    (case c_turn => k_is)
    (case k_turn => k_is)
    (case a_without => k_is)
    (case l_without => k_is)
    (case c_without => k_is)
    (case k_without => k_is)
    (case a_Record_take_back => k_is)
    (case i_Record_take_back => k_is)
    (case l_Record_take_back => k_is)
    (case c_Record_take_back => k_is)
    (case k_Record_take_back => k_is)
    (case a_back => k_is)
    (case l_back => k_is)
    (case c_back => k_is)
    (case k_back => k_is)
    (case a_call_end => k_is)
    (case l_call_end => k_is)
    (case c_call_end => k_is)
    (case k_call_end => k_is)
    (case a_answer_change => k_is)
    (case l_answer_change => k_is)
    (case c_answer_change => k_is)
    (case k_answer_change => k_is)
    (case a_answer_hearing => k_is)
    (case l_answer_hearing => k_is)
    (case c_answer_hearing => k_is)
    (case k_answer_hearing => k_is)
    (case a_answer_orders => k_is)
    (case l_answer_orders => k_is)
    (case c_answer_orders => k_is)
    (case k_answer_orders => k_is)
    (case a_answer_whole => k_is)
    (case l_answer_whole => k_is)
    (case c_answer_whole => k_is)
    (case k_answer_whole => k_is)
    (case a_answer_call => k_is)
    (case l_answer_call => k_is)
    (case c_answer_call => k_is)
    (case k_answer_call => k_is)
    (case a_answers => k_is)
    (case l_answers => k_is)
    (case c_answers => k_is)
    (case k_answers => k_is)
    (case pg => k_is)
    (case hd => k_is)
    (case po => k_is)
    (case sa => k_is)
    (case mk => k_is)
    (case kc => k_is)
    (case n_earlier => k_is)
    (case n_size => k_is)
    (case n_told_pairs => k_is)
    (case z_all => k_is)
    (case z_any => k_is)
    (case z_enumerate => k_is)
    (case z_len => k_is)
    (case z_list => k_is)
    (case z_range => k_is)
    (case z_sorted => k_is)
    (case v_NO_SUCH => k_is)
    (case v_ONLY_ONE => k_is)
    (case v_NO_CHANGE => k_is)
    (case v_NOT_BEGUN => k_is)
    (case v_TOLD_ALREADY => k_is)
    (case v_NOT_AS_TOLD => k_is)
    (case v_NONE_THERE => k_is)
    (case v_RING => k_is)
    (case v_MOST_EVENTS => k_is)
    (case v_MOST_CHANGES => k_is)
    (case v_BEGIN => k_is)
    (case v_TELL => k_is)
    (case v_UNTELL => k_is)
    (case v_TURN => k_is)
    (case v_WITHOUT => k_is)
    (case v_TOLD => k_is)
    (case v_HEARD => k_is)
    (case v_PAIRS => k_is)
    (case v_PAST => k_is)
    (case v_LINKS => k_is)
    (case v_ORDERS => k_is)
    (case v_ORDER => k_is)
    (case v_FITS => k_is)
    (case v_FIRST => k_is)
    (case v_SOONER => k_is)
    (case v_PLACE => k_is)
    (case v_LINE => k_is)
    (case v_EVENTS => k_is)
    (case v_FEWEST => k_is)
    (case v_ROW => k_is)
    (case v_APART => k_is)
    (case v_BACK => k_is)
    (case v_WIDTHS => k_is)
    (case o1_WIDTHS => k_is)
    (case o2_WIDTHS => rfl)
    (case o3_WIDTHS => rfl)
    (case o4_WIDTHS => exact .cons ⟨_, rfl⟩ (.cons ⟨_, rfl⟩ (.cons ⟨_, rfl⟩ (.cons ⟨_, rfl⟩ (.cons ⟨_, rfl⟩ (.cons ⟨_, rfl⟩ (.cons ⟨_, rfl⟩ (.cons ⟨_, rfl⟩ (.cons ⟨_, rfl⟩ (.cons ⟨_, rfl⟩ (.cons ⟨_, rfl⟩ (.cons ⟨_, rfl⟩ (.cons ⟨_, rfl⟩ (.cons ⟨_, rfl⟩ (.cons ⟨_, rfl⟩ (.cons ⟨_, rfl⟩ (.cons ⟨_, rfl⟩ (.cons ⟨_, rfl⟩ (.cons ⟨_, rfl⟩ (.cons ⟨_, rfl⟩ (.cons ⟨_, rfl⟩ (.cons ⟨_, rfl⟩ (.cons ⟨_, rfl⟩ (.nil))))))))))))))))))))))))
    (case o5_WIDTHS => decide)
  case S => exact Oa.sp_of
#print axioms PySem.Challenge.cw_ordersalone_s01_answers_holds
