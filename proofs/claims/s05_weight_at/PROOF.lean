import PyProof.Rows.All
import Wide.All
import OpenK.AllK
import Wide.FinOn
import Open.SpecLaws
import KE.OsGo
import HandS.ForSpec
import HandS.Dict
import HandS.Comp
import HandS.Iter
import HandS.Conv
import HandS.TupLe
import HandS.WordsDict
import HandS.DictTup
import HandS.SortRule
import HandS.TupLen
import HandS.TupAny
import HandS.Walk
import KE.KDictDisplayH
import PyProof.DictMoreH
import PySem.Challenge.RW_halvedpebbles_s05_weight_at
set_option Elab.async false
set_option linter.all false
set_option maxRecDepth 100000
set_option maxHeartbeats 4000000
namespace Peb
open Ks577 (Graph Configuration pebblesAt canMove isAdjacent possibleMoves successors levelsFrom levels minMoves maxPebblesAt parseEdges parseGraph isValidConfiguration)
/-! ### the edges' list -/
def pairsOf : List Nat → List (Nat × Nat)
  | u :: v :: r => (u, v) :: pairsOf r
  | _ => []
def ltP (a b : Nat × Nat) : Prop := a.1 < b.1 ∨ (a.1 = b.1 ∧ a.2 < b.2)
instance (a b : Nat × Nat) : Decidable (ltP a b) := by unfold ltP; infer_instance
/-- from the pair before on, all is in order -/
def fitsFrom (n : Nat) : Nat × Nat → List Nat → Bool
  | p, u :: v :: r => if v ≤ u ∨ n ≤ v ∨ ¬ ltP p (u, v) then false else fitsFrom n (u, v) r
  | _, _ => true
def edgesFit (n : Nat) (es : List Nat) : Bool := decide (es.length % 2 = 0) && fitsFrom n (0, 0) es
theorem fits_nil {n : Nat} {p : Nat × Nat} : fitsFrom n p [] = true := rfl
theorem fits_bad {n u v : Nat} {p : Nat × Nat} {r : List Nat} (h : v ≤ u ∨ n ≤ v ∨ ¬ ltP p (u, v)) : fitsFrom n p (u :: v :: r) = false := if_pos h
theorem fits_good {n u v : Nat} {p : Nat × Nat} {r : List Nat} (h : ¬ (v ≤ u ∨ n ≤ v ∨ ¬ ltP p (u, v))) : fitsFrom n p (u :: v :: r) = fitsFrom n (u, v) r := if_neg h
/-- what parseEdges says of a list, given the pair before -/
theorem parse_fits (n : Nat) : ∀ (es : List Nat) (p : Nat × Nat), es.length % 2 = 0 →
    ((fitsFrom n p es = true ↔ (parseEdges n es = some (pairsOf es) ∧ ∀ q r, pairsOf es = q :: r → ltP p q)) ∧ (parseEdges n es = some (pairsOf es) ∨ parseEdges n es = none))
  | [], p, _ => ⟨⟨fun _ => ⟨rfl, fun q r e => by cases e⟩, fun _ => rfl⟩, .inl rfl⟩
  | [_], _, h => by simp at h
  | u :: v :: r, p, h => by
    have hr : r.length % 2 = 0 := by simp only [List.length_cons] at h; omega
    obtain ⟨ih, ih2⟩ := parse_fits n r (u, v) hr
    by_cases b : v ≤ u ∨ n ≤ v
    · have e : parseEdges n (u :: v :: r) = none := by unfold parseEdges; rw [if_pos b]
      refine ⟨⟨fun f => ?_, fun f => ?_⟩, .inr e⟩
      · rw [fits_bad (by rcases b with b | b <;> simp [b])] at f; cases f
      · rw [e] at f; cases f.1
    · have hl : pairsOf (u :: v :: r) = (u, v) :: pairsOf r := rfl
      have e : parseEdges n (u :: v :: r) = match parseEdges n r with
        | none => none
        | some edges => match edges with
          | [] => some [(u, v)]
          | next :: _ => if u < next.1 ∨ (u = next.1 ∧ v < next.2) then some ((u, v) :: edges) else none := by
        conv => lhs; unfold parseEdges
        rw [if_neg b]
        rfl
      have key : fitsFrom n (u, v) r = true ↔ parseEdges n (u :: v :: r) = some (pairsOf (u :: v :: r)) := by
        rw [ih, e, hl]
        rcases ih2 with q | q
        · rw [q]
          cases hp : pairsOf r with
          | nil => simp
          | cons a t =>
            simp only [Option.some.injEq, true_and]
            constructor
            · intro z
              have := z a t rfl
              exact if_pos this
            · intro z q' r' e'
              cases e'
              by_cases c : u < a.1 ∨ (u = a.1 ∧ v < a.2)
              · exact c
              · rw [if_neg c] at z; cases z
        · rw [q]; simp
      refine ⟨⟨fun f => ?_, fun f => ?_⟩, ?_⟩
      · by_cases c : ltP p (u, v)
        · rw [fits_good (by simp only [not_or, Decidable.not_not]; exact ⟨fun z => b (.inl z), fun z => b (.inr z), c⟩)] at f
          refine ⟨key.mp f, fun q t e' => ?_⟩
          rw [hl] at e'; cases e'; exact c
        · rw [fits_bad (.inr (.inr c))] at f; cases f
      · have c := f.2 (u, v) _ hl
        rw [fits_good (by simp only [not_or, Decidable.not_not]; exact ⟨fun z => b (.inl z), fun z => b (.inr z), c⟩)]
        exact key.mpr f.1
      · rw [e, hl]
        rcases ih2 with q | q
        · rw [q]
          cases hp : pairsOf r with
          | nil => exact .inl rfl
          | cons a t =>
            by_cases c : u < a.1 ∨ (u = a.1 ∧ v < a.2)
            · exact .inl (if_pos c)
            · exact .inr (if_neg c)
        · rw [q]; exact .inr rfl
theorem parse_odd (n : Nat) : ∀ (es : List Nat), es.length % 2 = 1 → parseEdges n es = none
  | [], h => by simp at h
  | [x], _ => by unfold parseEdges; rfl
  | u :: v :: r, h => by
    have hr : r.length % 2 = 1 := by simp only [List.length_cons] at h; omega
    unfold parseEdges
    rw [parse_odd n r hr]
    split <;> rfl
theorem parse_is (n : Nat) (es : List Nat) : parseEdges n es = if edgesFit n es = true then some (pairsOf es) else none := by
  by_cases h : es.length % 2 = 0
  · obtain ⟨h1, h2⟩ := parse_fits n es (0, 0) h
    have h0 : parseEdges n es = some (pairsOf es) → ∀ q r, pairsOf es = q :: r → ltP (0, 0) q := by
      intro e q r hq
      cases es with
      | nil => cases hq
      | cons u t =>
        cases t with
        | nil => cases hq
        | cons v t =>
          cases hq
          by_cases b : v ≤ u ∨ n ≤ v
          · unfold parseEdges at e; rw [if_pos b] at e; cases e
          · show 0 < u ∨ (0 = u ∧ 0 < v); omega
    have e1 : edgesFit n es = fitsFrom n (0, 0) es := by unfold edgesFit; rw [decide_eq_true h]; rfl
    rw [e1]
    by_cases f : fitsFrom n (0, 0) es = true
    · rw [if_pos f]; exact (h1.mp f).1
    · rw [if_neg f]
      rcases h2 with z | z
      · exact absurd (h1.mpr ⟨z, h0 z⟩) f
      · exact z
  · rw [parse_odd n es (by omega), if_neg (by unfold edgesFit; rw [decide_eq_false h]; simp)]
/-! ### the moves along the edges -/
def movesOf : List (Nat × Nat) → List (Nat × Nat)
  | e :: r => (e.1, e.2) :: (e.2, e.1) :: movesOf r
  | [] => []
theorem mem_movesOf {m : Nat × Nat} : ∀ {l : List (Nat × Nat)}, m ∈ movesOf l ↔ ∃ e ∈ l, m = (e.1, e.2) ∨ m = (e.2, e.1)
  | [] => by simp [movesOf]
  | e :: r => by
    simp only [movesOf, List.mem_cons, mem_movesOf (l := r)]
    constructor
    · rintro (h | h | ⟨f, hf, h⟩)
      · exact ⟨e, .inl rfl, .inl h⟩
      · exact ⟨e, .inl rfl, .inr h⟩
      · exact ⟨f, .inr hf, h⟩
    · rintro ⟨f, rfl | hf, h⟩
      · rcases h with h | h
        · exact .inl h
        · exact .inr (.inl h)
      · exact .inr (.inr ⟨f, hf, h⟩)
theorem movesOf_length : ∀ l : List (Nat × Nat), (movesOf l).length = 2 * l.length
  | [] => rfl
  | e :: r => by simp only [movesOf, List.length_cons, movesOf_length r]; omega
theorem adj_moves {g : Graph} {u v : Nat} : isAdjacent g u v = true ↔ (u, v) ∈ movesOf g.edges := by
  unfold isAdjacent
  rw [List.any_eq_true, mem_movesOf]
  constructor
  · rintro ⟨e, he, h⟩
    simp only [Bool.or_eq_true, Bool.and_eq_true, beq_iff_eq] at h
    rcases h with ⟨rfl, rfl⟩ | ⟨rfl, rfl⟩
    · exact ⟨e, he, .inl rfl⟩
    · exact ⟨e, he, .inr rfl⟩
  · rintro ⟨e, he, h⟩
    refine ⟨e, he, ?_⟩
    simp only [Bool.or_eq_true, Bool.and_eq_true, beq_iff_eq]
    rcases h with h | h
    · obtain ⟨h1, h2⟩ := Prod.mk.inj h
      exact .inl ⟨h1.symm, h2.symm⟩
    · obtain ⟨h1, h2⟩ := Prod.mk.inj h
      exact .inr ⟨h2.symm, h1.symm⟩
/-- all endpoints are vertices, and no edge is a loop -/
theorem fits_lt (n : Nat) : ∀ (es : List Nat) (p : Nat × Nat), fitsFrom n p es = true → ∀ e ∈ pairsOf es, e.1 < e.2 ∧ e.2 < n
  | [], _, _, e, h => by cases h
  | [_], _, _, e, h => by cases h
  | u :: v :: r, p, f, e, h => by
    by_cases b : v ≤ u ∨ n ≤ v ∨ ¬ ltP p (u, v)
    · rw [fits_bad b] at f; cases f
    · rw [fits_good b] at f
      rcases List.mem_cons.mp (show e ∈ (u, v) :: pairsOf r from h) with rfl | h
      · simp only [not_or] at b; show u < v ∧ v < n; omega
      · exact fits_lt n r _ f e h
theorem moves_lt {n : Nat} {es : List Nat} (h : edgesFit n es = true) {m : Nat × Nat} (hm : m ∈ movesOf (pairsOf es)) : m.1 < n ∧ m.2 < n ∧ m.1 ≠ m.2 := by
  have f : fitsFrom n (0, 0) es = true := by unfold edgesFit at h; exact (Bool.and_eq_true_iff.mp h).2
  obtain ⟨e, he, q⟩ := mem_movesOf.mp hm
  have := fits_lt n es _ f e he
  rcases q with rfl | rfl
  · show e.1 < n ∧ e.2 < n ∧ e.1 ≠ e.2; omega
  · show e.2 < n ∧ e.1 < n ∧ e.2 ≠ e.1; omega
theorem pairsOf_length : ∀ es : List Nat, (pairsOf es).length ≤ es.length / 2
  | [] => Nat.le_refl _
  | [_] => Nat.zero_le _
  | u :: v :: r => by
    have := pairsOf_length r
    show (pairsOf r).length + 1 ≤ (r.length + 1 + 1) / 2
    omega
/-! ### one level's moves -/
def succs (ms : List (Nat × Nat)) (c : List Nat) : List (List Nat) := (ms.filter fun m => decide (2 ≤ c.getD m.1 0)).map fun m => Ks577.move c m.1 m.2
/-- put at the end, if it isn't there -/
def ins (acc : List (List Nat)) (x : List Nat) : List (List Nat) := if x ∈ acc then acc else acc ++ [x]
def dd (acc l : List (List Nat)) : List (List Nat) := l.foldl ins acc
def nextL (ms : List (Nat × Nat)) (L : List (List Nat)) : List (List Nat) := dd [] (L.flatMap (succs ms))
theorem dd_append (acc l r : List (List Nat)) : dd acc (l ++ r) = dd (dd acc l) r := List.foldl_append
theorem mem_ins {acc : List (List Nat)} {x y : List Nat} : y ∈ ins acc x ↔ y ∈ acc ∨ y = x := by
  unfold ins
  split
  · rename_i h
    constructor
    · exact .inl
    · rintro (z | rfl)
      · exact z
      · exact h
  · simp
theorem mem_dd {y : List Nat} : ∀ {l acc : List (List Nat)}, y ∈ dd acc l ↔ y ∈ acc ∨ y ∈ l
  | [], acc => by simp [dd]
  | x :: r, acc => by
    show y ∈ dd (ins acc x) r ↔ _
    rw [mem_dd (l := r), mem_ins, List.mem_cons]
    constructor
    · rintro ((h | h) | h)
      · exact .inl h
      · exact .inr (.inl h)
      · exact .inr (.inr h)
    · rintro (h | h | h)
      · exact .inl (.inl h)
      · exact .inl (.inr h)
      · exact .inr h
theorem nodup_snoc {l : List (List Nat)} {x : List Nat} (h : l.Nodup) (hx : x ∉ l) : (l ++ [x]).Nodup := by
  rw [List.nodup_append]
  refine ⟨h, by simp, fun a ha b hb => ?_⟩
  rw [List.mem_singleton] at hb
  subst hb
  intro e
  subst e
  exact hx ha
theorem nodup_ins {acc : List (List Nat)} {x : List Nat} (h : acc.Nodup) : (ins acc x).Nodup := by
  unfold ins
  split
  · exact h
  · rename_i hx; exact nodup_snoc h hx
theorem nodup_dd : ∀ {l acc : List (List Nat)}, acc.Nodup → (dd acc l).Nodup
  | [], _, h => h
  | x :: r, acc, h => nodup_dd (l := r) (nodup_ins h)
theorem length_ins (acc : List (List Nat)) (x : List Nat) : (ins acc x).length ≤ acc.length + 1 := by
  unfold ins
  split
  · omega
  · simp
theorem length_dd : ∀ (l acc : List (List Nat)), (dd acc l).length ≤ acc.length + l.length
  | [], acc => by simp [dd]
  | x :: r, acc => by
    have h1 := length_ins acc x
    have h2 := length_dd r (ins acc x)
    show (dd (ins acc x) r).length ≤ _
    rw [List.length_cons]; omega
theorem succs_length (ms : List (Nat × Nat)) (c : List Nat) : (succs ms c).length ≤ ms.length := by
  unfold succs; rw [List.length_map]; exact List.length_filter_le _ _
theorem flat_length (ms : List (Nat × Nat)) : ∀ L : List (List Nat), (L.flatMap (succs ms)).length ≤ L.length * ms.length
  | [] => by simp
  | c :: r => by
    have h1 := succs_length ms c
    have h2 := flat_length ms r
    rw [List.flatMap_cons, List.length_append, List.length_cons, Nat.succ_mul]
    omega
theorem nodup_nextL (ms : List (Nat × Nat)) (L : List (List Nat)) : (nextL ms L).Nodup := nodup_dd List.nodup_nil
theorem mem_nextL {ms : List (Nat × Nat)} {L : List (List Nat)} {y : List Nat} : y ∈ nextL ms L ↔ ∃ c ∈ L, y ∈ succs ms c := by
  unfold nextL
  rw [mem_dd, List.mem_flatMap]
  simp
/-- the graph that fits -/
structure GoodG (g : Graph) : Prop where
  lt : ∀ m ∈ movesOf g.edges, m.1 < g.vertexCount ∧ m.2 < g.vertexCount ∧ m.1 ≠ m.2
theorem mem_possible {g : Graph} {c : List Nat} {m : Nat × Nat} : m ∈ possibleMoves g c ↔ m.1 < g.vertexCount ∧ m.2 < g.vertexCount ∧ canMove g c m.1 m.2 = true := by
  unfold possibleMoves
  rw [List.mem_flatMap]
  constructor
  · rintro ⟨u, hu, h⟩
    obtain ⟨v, hv, rfl⟩ := List.mem_map.mp h
    obtain ⟨h1, h2⟩ := List.mem_filter.mp hv
    exact ⟨List.mem_range.mp hu, List.mem_range.mp h1, h2⟩
  · rintro ⟨h1, h2, h3⟩
    exact ⟨m.1, List.mem_range.mpr h1, List.mem_map.mpr ⟨m.2, List.mem_filter.mpr ⟨List.mem_range.mpr h2, h3⟩, rfl⟩⟩
theorem mem_possible_good {g : Graph} (G : GoodG g) {c : List Nat} {m : Nat × Nat} : m ∈ possibleMoves g c ↔ m ∈ movesOf g.edges ∧ 2 ≤ c.getD m.1 0 := by
  rw [mem_possible]
  unfold canMove
  rw [Bool.and_eq_true, decide_eq_true_iff, adj_moves]
  constructor
  · rintro ⟨_, _, h1, h2⟩; exact ⟨h1, h2⟩
  · rintro ⟨h1, h2⟩; exact ⟨(G.lt m h1).1, (G.lt m h1).2.1, h1, h2⟩
theorem mem_succs {g : Graph} (G : GoodG g) {c y : List Nat} : y ∈ succs (movesOf g.edges) c ↔ y ∈ successors g c := by
  unfold succs successors
  rw [List.mem_map, List.mem_map]
  constructor
  · rintro ⟨m, hm, e⟩
    obtain ⟨h1, h2⟩ := List.mem_filter.mp hm
    exact ⟨m, (mem_possible_good G).mpr ⟨h1, of_decide_eq_true h2⟩, e⟩
  · rintro ⟨m, hm, e⟩
    obtain ⟨h1, h2⟩ := (mem_possible_good G).mp hm
    exact ⟨m, List.mem_filter.mpr ⟨h1, decide_eq_true h2⟩, e⟩
/-- two levels with the same members -/
def Alike (L M : List (List Nat)) : Prop := ∀ c, c ∈ L ↔ c ∈ M
theorem Alike.next {g : Graph} (G : GoodG g) {L M : List (List Nat)} (h : Alike L M) : Alike (nextL (movesOf g.edges) L) (M.flatMap (successors g)).eraseDups := fun y => by
  rw [mem_nextL, List.mem_eraseDups, List.mem_flatMap]
  constructor
  · rintro ⟨c, h1, h2⟩; exact ⟨c, (h c).mp h1, (mem_succs G).mp h2⟩
  · rintro ⟨c, h1, h2⟩; exact ⟨c, (h c).mpr h1, (mem_succs G).mpr h2⟩
theorem Alike.empty {L M : List (List Nat)} (h : Alike L M) : M.isEmpty = L.isEmpty := by
  cases L with
  | nil =>
    cases M with
    | nil => rfl
    | cons c r => exact absurd ((h c).mpr (List.mem_cons_self ..)) (by simp)
  | cons c r =>
    cases M with
    | nil => exact absurd ((h c).mp (List.mem_cons_self ..)) (by simp)
    | cons d s => rfl
/-! ### sums -/
theorem sum_set : ∀ (c : List Nat) (i x : Nat), i < c.length → (c.set i x).sum + c.getD i 0 = c.sum + x
  | [], _, _, h => by simp at h
  | a :: r, 0, x, _ => by simp [List.sum_cons]; omega
  | a :: r, i + 1, x, h => by
    have := sum_set r i x (by simpa using h)
    simp only [List.set_cons_succ, List.sum_cons, List.getD_cons_succ]
    omega
theorem move_length (c : List Nat) (u v : Nat) : (Ks577.move c u v).length = c.length := by
  unfold Ks577.move; simp
theorem move_sum {c : List Nat} {u v : Nat} (hu : u < c.length) (hv : v < c.length) (h2 : 2 ≤ c.getD u 0) : (Ks577.move c u v).sum + 1 = c.sum := by
  unfold Ks577.move Ks577.pebblesAt
  show ((c.set u (c.getD u 0 - 2)).set v ((c.set u (c.getD u 0 - 2)).getD v 0 + 1)).sum + 1 = c.sum
  have h1 := sum_set c u (c.getD u 0 - 2) hu
  have h3 := sum_set (c.set u (c.getD u 0 - 2)) v ((c.set u (c.getD u 0 - 2)).getD v 0 + 1) (by rw [List.length_set]; exact hv)
  omega
theorem getD_le_sum : ∀ (c : List Nat) (i : Nat), c.getD i 0 ≤ c.sum
  | [], i => by simp
  | a :: r, 0 => by simp [List.sum_cons]
  | a :: r, i + 1 => by
    have := getD_le_sum r i
    simp only [List.getD_cons_succ, List.sum_cons]
    omega
/-- a level: its configurations have n places and sums below f -/
def Lvl (n f : Nat) (L : List (List Nat)) : Prop := ∀ c ∈ L, c.length = n ∧ c.sum < f
theorem mem_succs_lvl {g : Graph} (G : GoodG g) {c y : List Nat} (hc : c.length = g.vertexCount) (h : y ∈ succs (movesOf g.edges) c) : y.length = g.vertexCount ∧ y.sum + 1 = c.sum := by
  unfold succs at h
  obtain ⟨m, hm, rfl⟩ := List.mem_map.mp h
  obtain ⟨h1, h2⟩ := List.mem_filter.mp hm
  obtain ⟨h3, h4, _⟩ := G.lt m h1
  exact ⟨by rw [move_length, hc], move_sum (by rw [hc]; exact h3) (by rw [hc]; exact h4) (of_decide_eq_true h2)⟩
theorem Lvl.next {g : Graph} (G : GoodG g) {f : Nat} {L : List (List Nat)} (h : Lvl g.vertexCount (f + 1) L) : Lvl g.vertexCount f (nextL (movesOf g.edges) L) := fun y hy => by
  obtain ⟨c, h1, h2⟩ := mem_nextL.mp hy
  obtain ⟨h3, h4⟩ := h c h1
  obtain ⟨h5, h6⟩ := mem_succs_lvl G h3 h2
  exact ⟨h5, by omega⟩
theorem Lvl.pos {n f : Nat} {L : List (List Nat)} (h : Lvl n f L) (hL : L ≠ []) : ∃ f', f = f' + 1 := by
  cases L with
  | nil => exact absurd rfl hL
  | cons c r =>
    have := (h c (List.mem_cons_self ..)).2
    exact ⟨f - 1, by omega⟩
theorem Lvl.one {n : Nat} {c : List Nat} (h : c.length = n) : Lvl n (c.sum + 1) [c] := fun d hd => by
  rw [List.mem_singleton] at hd
  subst hd
  exact ⟨h, Nat.lt_succ_self _⟩
/-! ### how many configurations there are -/
def allC (k : Nat) : Nat → List (List Nat)
  | 0 => [[]]
  | n + 1 => (List.range k).flatMap fun a => (allC k n).map fun c => a :: c
theorem flat_const {α β : Type} (f : α → List β) (m : Nat) : ∀ l : List α, (∀ a ∈ l, (f a).length = m) → (l.flatMap f).length = l.length * m
  | [], _ => by simp
  | a :: r, h => by
    rw [List.flatMap_cons, List.length_append, h a (List.mem_cons_self ..), flat_const f m r fun b hb => h b (List.mem_cons_of_mem _ hb), List.length_cons, Nat.succ_mul]
    omega
theorem allC_length (k : Nat) : ∀ n, (allC k n).length = k ^ n
  | 0 => rfl
  | n + 1 => by
    unfold allC
    rw [flat_const _ (k ^ n) _ (fun a _ => by rw [List.length_map, allC_length k n]), List.length_range, Nat.pow_succ, Nat.mul_comm]
theorem mem_allC {k : Nat} : ∀ {n : Nat} {c : List Nat}, c.length = n → (∀ x ∈ c, x < k) → c ∈ allC k n
  | 0, [], _, _ => by simp [allC]
  | 0, _ :: _, h, _ => by simp at h
  | _ + 1, [], h, _ => by simp at h
  | n + 1, a :: c, h, hx => by
    unfold allC
    rw [List.mem_flatMap]
    exact ⟨a, List.mem_range.mpr (hx a (List.mem_cons_self ..)), List.mem_map.mpr ⟨c, mem_allC (by simpa using h) (fun x hx' => hx x (List.mem_cons_of_mem _ hx')), rfl⟩⟩
theorem mem_le_sum : ∀ {c : List Nat} {x : Nat}, x ∈ c → x ≤ c.sum
  | a :: r, x, h => by
    rw [List.sum_cons]
    rcases List.mem_cons.mp h with rfl | h
    · omega
    · have := mem_le_sum h; omega
theorem Lvl.short {n f : Nat} {L : List (List Nat)} (h : Lvl n f L) (hn : n ≤ 5) (hs : f ≤ 13) (nd : L.Nodup) : L.length ≤ 371293 := by
  have h1 : L.length ≤ (allC 13 n).length := List.Nodup.length_le_of_subset nd fun c hc => by
    obtain ⟨h1, h2⟩ := h c hc
    exact mem_allC h1 fun x hx => by have := mem_le_sum hx; omega
  rw [allC_length] at h1
  have h2 : 13 ^ n ≤ 13 ^ 5 := Nat.pow_le_pow_right (by decide) hn
  have h3 : (13 : Nat) ^ 5 = 371293 := by decide
  omega
/-! ### the levels of the specification -/
theorem levels_nil (g : Graph) : ∀ f, levelsFrom g [] f = []
  | 0 => rfl
  | f + 1 => rfl
theorem levels_cons {g : Graph} {M : List (List Nat)} {f : Nat} (h : M.isEmpty = false) : levelsFrom g M (f + 1) = M :: levelsFrom g (M.flatMap (successors g)).eraseDups f := by
  show (if M.isEmpty = true then [] else M :: levelsFrom g (M.flatMap (successors g)).eraseDups f) = _
  rw [h]; rfl
theorem alike_nil {M : List (List Nat)} (h : Alike [] M) : M = [] := by
  cases M with
  | nil => rfl
  | cons c r => exact absurd ((h c).mpr (List.mem_cons_self ..)) (by simp)
theorem alike_cons {L M : List (List Nat)} (h : Alike L M) (hL : L ≠ []) : M.isEmpty = false := by
  rw [h.empty]
  cases L with
  | nil => exact absurd rfl hL
  | cons c r => rfl
theorem Alike.rfl' {L : List (List Nat)} : Alike L L := fun _ => Iff.rfl
/-- the greatest -/
theorem foldl_max_le : ∀ (l : List Nat) (m b : Nat), l.foldl max m ≤ b ↔ m ≤ b ∧ ∀ x ∈ l, x ≤ b
  | [], m, b => by simp
  | a :: r, m, b => by
    rw [List.foldl_cons, foldl_max_le r (max m a) b]
    constructor
    · rintro ⟨h1, h2⟩
      refine ⟨by omega, fun x hx => ?_⟩
      rcases List.mem_cons.mp hx with rfl | hx
      · omega
      · exact h2 x hx
    · rintro ⟨h1, h2⟩
      have := h2 a (List.mem_cons_self ..)
      exact ⟨by omega, fun x hx => h2 x (List.mem_cons_of_mem _ hx)⟩
theorem foldl_max_is {l : List Nat} {m x : Nat} (hx : x ∈ l) (h : ∀ y ∈ l, y ≤ x) : l.foldl max m = max m x := by
  have h1 := (foldl_max_le l m (max m x)).mpr ⟨by omega, fun y hy => by have := h y hy; omega⟩
  obtain ⟨h2, h3⟩ := (foldl_max_le l m (l.foldl max m)).mp (Nat.le_refl _)
  have h4 := h3 x hx
  omega
def maxFrom (m : Nat) (g : Graph) (M : List (List Nat)) (f t : Nat) : Nat := ((levelsFrom g M f).flatMap fun level => level.map fun d => pebblesAt d t).foldl max m
theorem max_done {m : Nat} {g : Graph} {M : List (List Nat)} {f t : Nat} (h : Alike [] M) : maxFrom m g M f t = m := by
  rw [alike_nil h]
  unfold maxFrom
  rw [levels_nil]; rfl
theorem max_turn {m x : Nat} {g : Graph} {L M : List (List Nat)} {f t : Nat} (h : Alike L M) (hL : L ≠ []) (hx : x ∈ L.map fun d => d.getD t 0) (hm : ∀ y ∈ L.map (fun d => d.getD t 0), y ≤ x) :
    maxFrom m g M (f + 1) t = maxFrom (max m x) g (M.flatMap (successors g)).eraseDups f t := by
  unfold maxFrom
  rw [levels_cons (alike_cons h hL), List.flatMap_cons, List.foldl_append]
  congr 1
  refine foldl_max_is ?_ ?_
  · obtain ⟨d, h1, h2⟩ := List.mem_map.mp hx
    exact List.mem_map.mpr ⟨d, (h d).mp h1, h2⟩
  · intro y hy
    obtain ⟨d, h1, h2⟩ := List.mem_map.mp hy
    exact hm y (List.mem_map.mpr ⟨d, (h d).mpr h1, h2⟩)
/-- the fewest moves -/
def minFrom (g : Graph) (M : List (List Nat)) (f t k : Nat) : Option Nat := (levelsFrom g M f).findIdx? fun level => level.any fun d => decide (k ≤ pebblesAt d t)
theorem min_done {g : Graph} {M : List (List Nat)} {f t k : Nat} (h : Alike [] M) : minFrom g M f t k = none := by
  rw [alike_nil h]
  unfold minFrom
  rw [levels_nil]; rfl
theorem any_alike {L M : List (List Nat)} {t k x : Nat} (h : Alike L M) (hx : x ∈ L.map fun d => d.getD t 0) (hm : ∀ y ∈ L.map (fun d => d.getD t 0), y ≤ x) :
    (M.any fun d => decide (k ≤ pebblesAt d t)) = decide (k ≤ x) := by
  by_cases c : k ≤ x
  · rw [decide_eq_true c, List.any_eq_true]
    obtain ⟨d, h1, rfl⟩ := List.mem_map.mp hx
    exact ⟨d, (h d).mp h1, decide_eq_true c⟩
  · rw [decide_eq_false c, List.any_eq_false]
    intro d hd
    have := hm _ (List.mem_map.mpr ⟨d, (h d).mpr hd, rfl⟩)
    show ¬ decide (k ≤ d.getD t 0) = true
    rw [decide_eq_true_iff]
    omega
theorem min_turn {g : Graph} {L M : List (List Nat)} {f t k x : Nat} (h : Alike L M) (hL : L ≠ []) (hx : x ∈ L.map fun d => d.getD t 0) (hm : ∀ y ∈ L.map (fun d => d.getD t 0), y ≤ x) :
    minFrom g M (f + 1) t k = if k ≤ x then some 0 else (minFrom g (M.flatMap (successors g)).eraseDups f t k).map (· + 1) := by
  unfold minFrom
  rw [levels_cons (alike_cons h hL), List.findIdx?_cons, any_alike h hx hm]
  by_cases c : k ≤ x
  · rw [if_pos (decide_eq_true c), if_pos c]
  · rw [if_neg (by rw [decide_eq_false c]; simp), if_neg c]
/-! ### what is due -/
def okN (n : Nat) : Bool := decide (1 ≤ n) && decide (n ≤ 5)
def okP (n : Nat) (ps : List Nat) : Bool := decide (ps.length = n) && decide (ps.sum ≤ 12)
def okAll (n : Nat) (es ps : List Nat) : Bool := okN n && edgesFit n es && okP n ps
theorem with_is (n : Nat) (es ps : List Nat) (F : Graph → Configuration → Ks577.Result) :
    Ks577.withConfiguration n es ps F = if okAll n es ps = true then F ⟨n, pairsOf es⟩ ps else Ks577.number (-22) := by
  unfold Ks577.withConfiguration Ks577.withGraph parseGraph okAll okN
  by_cases h : n < 1 ∨ Ks577.maxVertices < n
  · rw [if_pos h]
    have e : (decide (1 ≤ n) && decide (n ≤ 5)) = false := by
      rcases h with h | h
      · rw [decide_eq_false (by omega)]; rfl
      · rw [decide_eq_false (p := n ≤ 5) (by unfold Ks577.maxVertices at h; omega)]; simp
    rw [e]; rfl
  · have h5 : 1 ≤ n ∧ n ≤ 5 := by unfold Ks577.maxVertices at h; omega
    rw [if_neg h, parse_is, decide_eq_true h5.1, decide_eq_true h5.2]
    by_cases e : edgesFit n es = true
    · rw [if_pos e, e]
      show (if Ks577.isValidConfiguration ⟨n, pairsOf es⟩ ps = true then _ else _) = _
      have q : Ks577.isValidConfiguration ⟨n, pairsOf es⟩ ps = okP n ps := by
        unfold Ks577.isValidConfiguration okP Ks577.maxPebbles
        rfl
      rw [q]; rfl
    · rw [if_neg e]
      rw [Bool.not_eq_true] at e
      rw [e]; rfl
structure Ok (n : Nat) (es ps : List Nat) : Prop where
  n1 : 1 ≤ n
  n5 : n ≤ 5
  fit : edgesFit n es = true
  len : ps.length = n
  sum : ps.sum ≤ 12
theorem ok_of {n : Nat} {es ps : List Nat} (h : okAll n es ps = true) : Ok n es ps := by
  unfold okAll okN okP at h
  simp only [Bool.and_eq_true, decide_eq_true_eq] at h
  exact ⟨h.1.1.1, h.1.1.2, h.1.2, h.2.1, h.2.2⟩
theorem Ok.good {n : Nat} {es ps : List Nat} (h : Ok n es ps) : GoodG ⟨n, pairsOf es⟩ := ⟨fun _ hm => moves_lt h.fit hm⟩
theorem Ok.even {n : Nat} {es ps : List Nat} (h : Ok n es ps) : es.length % 2 = 0 := by
  have := h.fit
  unfold edgesFit at this
  exact of_decide_eq_true (Bool.and_eq_true_iff.mp this).1
end Peb
namespace Peb
theorem pairsOf_lenA : ∀ {es : List Nat}, (pairsOf es).length = es.length / 2
  | [] => rfl
  | [_] => by simp [pairsOf]
  | u :: v :: r => by
    have := pairsOf_lenA (es := r)
    show (pairsOf r).length + 1 = (r.length + 1 + 1) / 2
    omega
open Ks577 (Graph Configuration pebblesAt canMove isAdjacent possibleMoves successors levelsFrom levels minMoves shortestSequence)
/-! ### all moves of a graph, in the order of source and target -/
def allM (g : Graph) : List (Nat × Nat) := (List.range g.vertexCount).flatMap fun u => ((List.range g.vertexCount).filter fun v => isAdjacent g u v).map fun v => (u, v)
theorem possible_is (g : Graph) (c : List Nat) : possibleMoves g c = (allM g).filter fun m => decide (2 ≤ c.getD m.1 0) := by
  unfold possibleMoves allM
  rw [List.filter_flatMap]
  refine congrArg (fun F => (List.range g.vertexCount).flatMap F) (funext fun u => ?_)
  rw [List.filter_map, List.filter_filter]
  refine congrArg (List.map fun v => (u, v)) (List.filter_congr fun v _ => ?_)
  show (isAdjacent g u v && decide (2 ≤ pebblesAt c u)) = (decide (2 ≤ c.getD u 0) && isAdjacent g u v)
  rw [Bool.and_comm]; rfl
theorem succs_all (g : Graph) (c : List Nat) : succs (allM g) c = successors g c := by
  unfold succs successors
  rw [possible_is]
theorem mem_allM {g : Graph} {m : Nat × Nat} : m ∈ allM g ↔ m.1 < g.vertexCount ∧ m.2 < g.vertexCount ∧ isAdjacent g m.1 m.2 = true := by
  unfold allM
  rw [List.mem_flatMap]
  constructor
  · rintro ⟨u, hu, h⟩
    obtain ⟨v, hv, rfl⟩ := List.mem_map.mp h
    obtain ⟨h1, h2⟩ := List.mem_filter.mp hv
    exact ⟨List.mem_range.mp hu, List.mem_range.mp h1, h2⟩
  · rintro ⟨h1, h2, h3⟩
    exact ⟨m.1, List.mem_range.mpr h1, List.mem_map.mpr ⟨m.2, List.mem_filter.mpr ⟨List.mem_range.mpr h2, h3⟩, rfl⟩⟩
theorem mem_allM_good {g : Graph} (G : GoodG g) {m : Nat × Nat} : m ∈ allM g ↔ m ∈ movesOf g.edges := by
  rw [mem_allM, adj_moves]
  exact ⟨fun h => h.2.2, fun h => ⟨(G.lt m h).1, (G.lt m h).2.1, h⟩⟩
/-- the order of pairs -/
def Low (a b : Nat × Nat) : Prop := ¬ ltP b a
theorem low_both {a b : Nat × Nat} (h : Low a b) (h' : Low b a) : a = b := by
  unfold Low ltP at h h'
  exact Prod.ext (by omega) (by omega)
theorem perm_low : ∀ {l r : List (Nat × Nat)}, l.Perm r → l.Pairwise Low → r.Pairwise Low → l = r
  | [], r, p, _, _ => (List.nil_perm.mp p).symm
  | a :: l, [], p, _, _ => absurd p.length_eq (by simp)
  | a :: l, b :: r, p, h, h' => by
    have h1 := List.pairwise_cons.mp h
    have h2 := List.pairwise_cons.mp h'
    have e : a = b := by
      rcases List.mem_cons.mp (p.mem_iff.mp (List.mem_cons_self ..) : a ∈ b :: r) with e | m
      · exact e
      · rcases List.mem_cons.mp (p.mem_iff.mpr (List.mem_cons_self ..) : b ∈ a :: l) with e | m'
        · exact e.symm
        · exact low_both (h1.1 b m') (h2.1 a m)
    subst e
    rw [perm_low (List.Perm.cons_inv p) h1.2 h2.2]
theorem range_up (n : Nat) : (List.range n).Pairwise (· < ·) := List.pairwise_lt_range
theorem allM_up (g : Graph) : (allM g).Pairwise ltP := by
  unfold allM
  have ro : ∀ u, (((List.range g.vertexCount).filter fun v => isAdjacent g u v).map fun v => (u, v)).Pairwise ltP := fun u => by
    rw [List.pairwise_map]
    exact ((range_up _).filter _).imp fun h => .inr ⟨rfl, h⟩
  have big : ∀ l : List Nat, l.Pairwise (· < ·) → (l.flatMap fun u => ((List.range g.vertexCount).filter fun v => isAdjacent g u v).map fun v => (u, v)).Pairwise ltP := by
    intro l
    induction l with
    | nil => intro _; exact List.Pairwise.nil
    | cons u r ih =>
      intro h
      obtain ⟨h1, h2⟩ := List.pairwise_cons.mp h
      rw [List.flatMap_cons, List.pairwise_append]
      refine ⟨ro u, ih h2, fun a ha b hb => ?_⟩
      obtain ⟨v, _, rfl⟩ := List.mem_map.mp ha
      obtain ⟨w, hw, hb⟩ := List.mem_flatMap.mp hb
      obtain ⟨x, _, rfl⟩ := List.mem_map.mp hb
      exact .inl (h1 w hw)
  exact big _ (range_up _)
theorem ltP_irr (a : Nat × Nat) : ¬ ltP a a := by unfold ltP; omega
theorem up_low {l : List (Nat × Nat)} (h : l.Pairwise ltP) : l.Pairwise Low := h.imp fun {a b} h => by unfold Low; unfold ltP at *; omega
theorem up_nodup {l : List (Nat × Nat)} (h : l.Pairwise ltP) : l.Nodup := h.imp fun {a b} h e => by subst e; exact ltP_irr _ h
theorem pairs_up (n : Nat) : ∀ (es : List Nat) (p : Nat × Nat), fitsFrom n p es = true → (pairsOf es).Pairwise ltP ∧ ∀ e ∈ pairsOf es, ltP p e
  | [], _, _ => ⟨List.Pairwise.nil, fun e h => by cases h⟩
  | [_], _, _ => ⟨List.Pairwise.nil, fun e h => by cases h⟩
  | u :: v :: r, p, f => by
    by_cases b : v ≤ u ∨ n ≤ v ∨ ¬ ltP p (u, v)
    · rw [fits_bad b] at f; cases f
    · rw [fits_good b] at f
      obtain ⟨h1, h2⟩ := pairs_up n r (u, v) f
      have hp : ltP p (u, v) := by
        simp only [not_or, Decidable.not_not] at b; exact b.2.2
      have tr : ∀ a b c : Nat × Nat, ltP a b → ltP b c → ltP a c := by
        intro a b c; unfold ltP; omega
      show ((u, v) :: pairsOf r).Pairwise ltP ∧ ∀ e ∈ (u, v) :: pairsOf r, ltP p e
      refine ⟨List.pairwise_cons.mpr ⟨h2, h1⟩, fun e he => ?_⟩
      rcases List.mem_cons.mp he with rfl | he
      · exact hp
      · exact tr _ _ _ hp (h2 e he)
theorem moves_nodup : ∀ {l : List (Nat × Nat)}, l.Nodup → (∀ e ∈ l, e.1 < e.2) → (movesOf l).Nodup
  | [], _, _ => List.nodup_nil
  | e :: r, h, up => by
    obtain ⟨h1, h2⟩ := List.nodup_cons.mp h
    have ih := moves_nodup h2 fun f hf => up f (List.mem_cons_of_mem _ hf)
    have ue := up e (List.mem_cons_self ..)
    have no : ∀ m ∈ movesOf r, m ≠ (e.1, e.2) ∧ m ≠ (e.2, e.1) := by
      intro m hm
      obtain ⟨f, hf, q⟩ := mem_movesOf.mp hm
      have uf := up f (List.mem_cons_of_mem _ hf)
      have ne : f ≠ e := fun z => h1 (z ▸ hf)
      rcases q with rfl | rfl
      · refine ⟨fun z => ne ?_, fun z => ?_⟩
        · injection z with z1 z2; exact Prod.ext z1 z2
        · injection z with z1 z2; omega
      · refine ⟨fun z => ?_, fun z => ne ?_⟩
        · injection z with z1 z2; omega
        · injection z with z1 z2; exact Prod.ext z2 z1
    show ((e.1, e.2) :: (e.2, e.1) :: movesOf r).Nodup
    rw [List.nodup_cons, List.nodup_cons]
    refine ⟨fun m => ?_, fun m => (no _ m).2 rfl, ih⟩
    rcases List.mem_cons.mp m with z | m
    · injection z with z1 z2; omega
    · exact (no _ m).1 rfl
theorem moves_perm {n : Nat} {es : List Nat} (h : edgesFit n es = true) : (movesOf (pairsOf es)).Perm (allM ⟨n, pairsOf es⟩) := by
  have f : fitsFrom n (0, 0) es = true := by unfold edgesFit at h; exact (Bool.and_eq_true_iff.mp h).2
  have G : GoodG ⟨n, pairsOf es⟩ := ⟨fun _ hm => moves_lt h hm⟩
  refine (List.perm_ext_iff_of_nodup (moves_nodup (up_nodup (pairs_up n es _ f).1) fun e he => (fits_lt n es _ f e he).1) (up_nodup (allM_up _))).mpr fun m => ?_
  exact (mem_allM_good G (g := ⟨n, pairsOf es⟩)).symm
/-- sorted(moves) -/
theorem sorted_moves {n : Nat} {es : List Nat} (h : edgesFit n es = true) {ms : List (Nat × Nat)} (p : ms.Perm (movesOf (pairsOf es))) (s : ms.Pairwise Low) : ms = allM ⟨n, pairsOf es⟩ :=
  perm_low (p.trans (moves_perm h)) s (up_low (allM_up _))
theorem allM_lt {g : Graph} : ∀ m ∈ allM g, m.1 < g.vertexCount ∧ m.2 < g.vertexCount := fun m hm => ⟨(mem_allM.mp hm).1, (mem_allM.mp hm).2.1⟩
theorem allM_length {n : Nat} {es : List Nat} (h : edgesFit n es = true) (l : es.length ≤ 22) : (allM ⟨n, pairsOf es⟩).length ≤ 22 := by
  rw [← (moves_perm h).length_eq, movesOf_length, pairsOf_lenA]; omega
/-! ### the next level is the specification's -/
theorem dd_loop : ∀ (l acc : List (List Nat)), List.eraseDupsBy.loop (· == ·) l acc.reverse = dd acc l
  | [], acc => by simp [List.eraseDupsBy.loop, dd]
  | x :: r, acc => by
    unfold List.eraseDupsBy.loop
    show _ = dd (ins acc x) r
    have e : (acc.reverse.any fun b => x == b) = decide (x ∈ acc) := by
      by_cases h : x ∈ acc
      · rw [decide_eq_true h, List.any_eq_true]
        exact ⟨x, List.mem_reverse.mpr h, by simp⟩
      · rw [decide_eq_false h, List.any_eq_false]
        intro y hy z
        have z : x = y := by simpa using z
        exact h (z ▸ List.mem_reverse.mp hy)
    unfold ins
    by_cases h : x ∈ acc
    · rw [if_pos h]
      simp only [e, decide_eq_true h]
      exact dd_loop r acc
    · rw [if_neg h]
      simp only [e, decide_eq_false h]
      have := dd_loop r (acc ++ [x])
      rw [List.reverse_append] at this
      exact this
theorem dd_is (l : List (List Nat)) : dd [] l = l.eraseDups := (dd_loop l []).symm
theorem next_all (g : Graph) (L : List (List Nat)) : nextL (allM g) L = (L.flatMap (successors g)).eraseDups := by
  unfold nextL
  rw [dd_is, show succs (allM g) = successors g from funext (succs_all g)]
theorem mem_succ_lvl {g : Graph} {c y : List Nat} (hc : c.length = g.vertexCount) (h : y ∈ successors g c) : y.length = g.vertexCount ∧ y.sum + 1 = c.sum := by
  rw [← succs_all] at h
  unfold succs at h
  obtain ⟨m, hm, rfl⟩ := List.mem_map.mp h
  obtain ⟨h1, h2⟩ := List.mem_filter.mp hm
  obtain ⟨h3, h4⟩ := allM_lt m h1
  exact ⟨by rw [move_length, hc], move_sum (by rw [hc]; exact h3) (by rw [hc]; exact h4) (of_decide_eq_true h2)⟩
theorem Lvl.nextE {g : Graph} {f : Nat} {L : List (List Nat)} (h : Lvl g.vertexCount (f + 1) L) : Lvl g.vertexCount f (L.flatMap (successors g)).eraseDups := fun y hy => by
  obtain ⟨c, h1, h2⟩ := List.mem_flatMap.mp (List.mem_eraseDups.mp hy)
  obtain ⟨h3, h4⟩ := h c h1
  obtain ⟨h5, h6⟩ := mem_succ_lvl h3 h2
  exact ⟨h5, by omega⟩
theorem Lvl.nil0 {n : Nat} {L : List (List Nat)} (h : Lvl n 0 L) : L = [] := by
  cases L with
  | nil => rfl
  | cons c r => have := (h c (List.mem_cons_self ..)).2; omega
/-! ### how many moves are left -/
def hit (g : Graph) (t k : Nat) : Nat → List Nat → Bool
  | 0, c => decide (k ≤ c.getD t 0)
  | j + 1, c => (successors g c).any (hit g t k j)
theorem min_cons {g : Graph} {M : List (List Nat)} {f t k : Nat} (h : M ≠ []) : minFrom g M (f + 1) t k = if M.any (hit g t k 0) = true then some 0 else (minFrom g (M.flatMap (successors g)).eraseDups f t k).map (· + 1) := by
  unfold minFrom
  rw [levels_cons (by cases M with | nil => exact absurd rfl h | cons c r => rfl), List.findIdx?_cons]
  rfl
theorem any_next {g : Graph} {M : List (List Nat)} {t k i : Nat} : (M.flatMap (successors g)).eraseDups.any (hit g t k i) = M.any (hit g t k (i + 1)) := by
  rw [Bool.eq_iff_iff, List.any_eq_true, List.any_eq_true]
  constructor
  · rintro ⟨y, hy, e⟩
    obtain ⟨c, h1, h2⟩ := List.mem_flatMap.mp (List.mem_eraseDups.mp hy)
    exact ⟨c, h1, List.any_eq_true.mpr ⟨y, h2, e⟩⟩
  · rintro ⟨c, h1, e⟩
    obtain ⟨y, h2, e⟩ := List.any_eq_true.mp e
    exact ⟨y, List.mem_eraseDups.mpr (List.mem_flatMap.mpr ⟨c, h1, h2⟩), e⟩
theorem min_hit {g : Graph} {t k : Nat} : ∀ {f : Nat} {M : List (List Nat)}, Lvl g.vertexCount f M → ∀ j, (minFrom g M f t k = some j ↔ (M.any (hit g t k j) = true ∧ ∀ i < j, M.any (hit g t k i) = false))
  | 0, M, h, j => by
    have e : M = [] := h.nil0
    subst e
    show (none : Option Nat) = some j ↔ false = true ∧ _
    simp
  | f + 1, M, h, j => by
    by_cases e : M = []
    · subst e
      show (none : Option Nat) = some j ↔ false = true ∧ _
      simp
    rw [min_cons e]
    by_cases a : M.any (hit g t k 0) = true
    · rw [if_pos a]
      constructor
      · intro z
        obtain rfl := Option.some.inj z
        exact ⟨a, fun i hi => absurd hi (Nat.not_lt_zero i)⟩
      · rintro ⟨_, h2⟩
        cases j with
        | zero => rfl
        | succ j => have := h2 0 (Nat.succ_pos j); rw [a] at this; cases this
    · rw [if_neg a]
      have ih := fun i => min_hit (t := t) (k := k) (h.nextE) i
      have an : M.any (hit g t k 0) = false := by rw [Bool.not_eq_true] at a; exact a
      constructor
      · intro z
        obtain ⟨i, hi, rfl⟩ := Option.map_eq_some_iff.mp z
        obtain ⟨h1, h2⟩ := (ih i).mp hi
        rw [any_next] at h1
        refine ⟨h1, fun x hx => ?_⟩
        cases x with
        | zero => exact an
        | succ x => have := h2 x (by omega); rw [any_next] at this; exact this
      · rintro ⟨h1, h2⟩
        cases j with
        | zero => exact absurd h1 a
        | succ j =>
          have : minFrom g (M.flatMap (successors g)).eraseDups f t k = some j := (ih j).mpr ⟨by rw [any_next]; exact h1, fun i hi => by rw [any_next]; exact h2 (i + 1) (by omega)⟩
          rw [this]; rfl
theorem min_moves_hit {g : Graph} {t k j : Nat} {c : List Nat} (hc : c.length = g.vertexCount) : minMoves g c t k = some j ↔ hit g t k j c = true ∧ ∀ i < j, hit g t k i c = false := by
  have q := min_hit (t := t) (k := k) (Lvl.one (c := c) hc) j
  simp only [List.any_cons, List.any_nil, Bool.or_false] at q
  exact q
/-! ### a level, with the first sequence to each configuration -/
abbrev Sq := List (Nat × Nat)
def steps (ms : Sq) (p : List Nat × Sq) : List (List Nat × Sq) := (ms.filter fun m => decide (2 ≤ p.1.getD m.1 0)).map fun m => (Ks577.move p.1 m.1 m.2, p.2 ++ [m])
def insS (acc : List (List Nat × Sq)) (p : List Nat × Sq) : List (List Nat × Sq) := if p.1 ∈ acc.map (·.1) then acc else acc ++ [p]
def ddS (acc l : List (List Nat × Sq)) : List (List Nat × Sq) := l.foldl insS acc
def nextS (ms : Sq) (L : List (List Nat × Sq)) : List (List Nat × Sq) := ddS [] (L.flatMap (steps ms))
theorem ddS_append (acc l r : List (List Nat × Sq)) : ddS acc (l ++ r) = ddS (ddS acc l) r := List.foldl_append
theorem ddS_one (acc : List (List Nat × Sq)) (p : List Nat × Sq) : ddS acc [p] = insS acc p := rfl
theorem insS_keys (acc : List (List Nat × Sq)) (p : List Nat × Sq) : (insS acc p).map (·.1) = ins (acc.map (·.1)) p.1 := by
  unfold insS ins
  by_cases h : p.1 ∈ acc.map (·.1)
  · rw [if_pos h, if_pos h]
  · rw [if_neg h, if_neg h, List.map_append]; rfl
theorem ddS_keys : ∀ (l acc : List (List Nat × Sq)), (ddS acc l).map (·.1) = dd (acc.map (·.1)) (l.map (·.1))
  | [], acc => rfl
  | p :: r, acc => by
    show (ddS (insS acc p) r).map (·.1) = dd (ins (acc.map (·.1)) p.1) (r.map (·.1))
    rw [ddS_keys r, insS_keys]
theorem steps_keys (ms : Sq) (p : List Nat × Sq) : (steps ms p).map (·.1) = succs ms p.1 := by
  unfold steps succs
  rw [List.map_map]; rfl
theorem flat_keys (ms : Sq) : ∀ L : List (List Nat × Sq), (L.flatMap (steps ms)).map (·.1) = (L.map (·.1)).flatMap (succs ms)
  | [] => rfl
  | p :: r => by rw [List.flatMap_cons, List.map_append, List.map_cons, List.flatMap_cons, steps_keys, flat_keys ms r]
theorem nextS_keys (ms : Sq) (L : List (List Nat × Sq)) : (nextS ms L).map (·.1) = nextL ms (L.map (·.1)) := by
  unfold nextS nextL
  rw [ddS_keys, flat_keys]; rfl
theorem ddS_find (P : List Nat → Bool) : ∀ (l acc : List (List Nat × Sq)), (ddS acc l).find? (fun p => P p.1) = (acc ++ l).find? fun p => P p.1
  | [], acc => by rw [List.append_nil]; rfl
  | p :: r, acc => by
    show (ddS (insS acc p) r).find? (fun p => P p.1) = _
    rw [ddS_find P r]
    unfold insS
    by_cases h : p.1 ∈ acc.map (·.1)
    · rw [if_pos h, List.find?_append, List.find?_append]
      cases e : acc.find? fun p => P p.1 with
      | some q => rfl
      | none =>
        obtain ⟨q, hq, eq⟩ := List.mem_map.mp h
        have nq := List.find?_eq_none.mp e q hq
        have np : P p.1 = false := by rw [← eq]; rw [Bool.not_eq_true] at nq; exact nq
        rw [List.find?_cons, np]
    · rw [if_neg h, List.append_assoc]; rfl
/-- the first sequence that the rest of the search gives -/
def ansP (g : Graph) (t k : Nat) (L : List (List Nat × Sq)) (f : Nat) : Option Sq :=
  match minFrom g (L.map (·.1)) f t k with
  | none => none
  | some j => match L.find? fun p => hit g t k j p.1 with
    | none => none
    | some p => (shortestSequence g t k j p.1).map (p.2 ++ ·)
theorem find_flat {α β : Type} (F : α → List β) (P : β → Bool) : ∀ l : List α, (l.flatMap F).find? P = (match l.find? (fun a => (F a).any P) with | none => none | some a => (F a).find? P)
  | [] => rfl
  | a :: r => by
    rw [List.flatMap_cons, List.find?_append, List.find?_cons]
    cases e : (F a).any P with
    | true =>
      obtain ⟨b, hb, z⟩ := List.any_eq_true.mp e
      cases q : (F a).find? P with
      | none => exact absurd z (List.find?_eq_none.mp q b hb)
      | some x => simp [q]
    | false =>
      have q : (F a).find? P = none := List.find?_eq_none.mpr fun b hb => List.any_eq_false.mp e b hb
      rw [q]
      exact find_flat F P r
theorem find_map' {α β : Type} (F : α → β) (P : β → Bool) (l : List α) : (l.map F).find? P = (l.find? fun a => P (F a)).map F := by
  rw [List.find?_map]; rfl
theorem find_congr' {α : Type} {P R : α → Bool} : ∀ {l : List α}, (∀ a ∈ l, P a = R a) → l.find? P = l.find? R
  | [], _ => rfl
  | a :: r, h => by
    rw [List.find?_cons, List.find?_cons, h a (List.mem_cons_self ..), find_congr' (l := r) fun b hb => h b (List.mem_cons_of_mem _ hb)]
theorem ans_nil {g : Graph} {t k f : Nat} : ansP g t k [] f = none := by
  unfold ansP
  have e : minFrom g (([] : List (List Nat × Sq)).map (·.1)) f t k = none := by
    unfold minFrom
    show (levelsFrom g [] f).findIdx? _ = none
    rw [levels_nil]; rfl
  rw [e]
theorem any_keys {g : Graph} {t k i : Nat} (L : List (List Nat × Sq)) : (L.map (·.1)).any (hit g t k i) = L.any fun p => hit g t k i p.1 := by
  rw [List.any_map]; rfl
theorem find_some_any {α : Type} {P : α → Bool} {l : List α} (h : l.any P = true) : ∃ a, l.find? P = some a ∧ a ∈ l ∧ P a = true := by
  obtain ⟨b, hb, z⟩ := List.any_eq_true.mp h
  cases q : l.find? P with
  | none => exact absurd z (List.find?_eq_none.mp q b hb)
  | some x => exact ⟨x, rfl, List.mem_of_find?_eq_some q, List.find?_some q⟩
theorem ans_turn {g : Graph} {t k f : Nat} {L : List (List Nat × Sq)} (hL : L ≠ []) (hl : Lvl g.vertexCount (f + 1) (L.map (·.1))) :
    ansP g t k L (f + 1) = match L.find? fun p => decide (k ≤ p.1.getD t 0) with | some p => some p.2 | none => ansP g t k (nextS (allM g) L) f := by
  have hM : L.map (·.1) ≠ [] := fun e => hL (List.map_eq_nil_iff.mp e)
  have nk : (nextS (allM g) L).map (·.1) = ((L.map (·.1)).flatMap (successors g)).eraseDups := by rw [nextS_keys, next_all]
  cases e : L.find? fun p => decide (k ≤ p.1.getD t 0) with
  | some p =>
    have a : (L.map (·.1)).any (hit g t k 0) = true := by
      rw [any_keys]
      have z := List.find?_some e
      exact List.any_eq_true.mpr ⟨p, List.mem_of_find?_eq_some e, z⟩
    unfold ansP
    rw [min_cons hM, if_pos a]
    show (match L.find? (fun p => hit g t k 0 p.1) with | none => none | some p => (shortestSequence g t k 0 p.1).map (p.2 ++ ·)) = _
    have e' : L.find? (fun p => hit g t k 0 p.1) = some p := e
    rw [e']
    show some (p.2 ++ []) = some p.2
    rw [List.append_nil]
  | none =>
    have a : ¬ (L.map (·.1)).any (hit g t k 0) = true := by
      rw [any_keys, List.any_eq_true]
      rintro ⟨p, hp, z⟩
      exact List.find?_eq_none.mp e p hp z
    show ansP g t k L (f + 1) = ansP g t k (nextS (allM g) L) f
    unfold ansP
    rw [nk, min_cons hM, if_neg a]
    cases m : minFrom g ((L.map (·.1)).flatMap (successors g)).eraseDups f t k with
    | none => rfl
    | some j =>
      obtain ⟨h1, h2⟩ := (min_hit hl.nextE j).mp m
      rw [any_next, any_keys] at h1
      have h2' : ∀ i < j, ∀ p ∈ L, hit g t k (i + 1) p.1 = false := fun i hi p hp => by
        have := h2 i hi
        rw [any_next, any_keys, List.any_eq_false] at this
        have z := this p hp
        rw [Bool.not_eq_true] at z
        exact z
      show (match L.find? (fun p => hit g t k (j + 1) p.1) with | none => none | some p => (shortestSequence g t k (j + 1) p.1).map (p.2 ++ ·)) =
        (match (nextS (allM g) L).find? (fun p => hit g t k j p.1) with | none => none | some p => (shortestSequence g t k j p.1).map (p.2 ++ ·))
      unfold nextS
      rw [ddS_find (hit g t k j), List.nil_append, find_flat]
      have sp : (fun p : List Nat × Sq => (steps (allM g) p).any fun q => hit g t k j q.1) = fun p => hit g t k (j + 1) p.1 := funext fun p => by
        show _ = (successors g p.1).any (hit g t k j)
        rw [← succs_all, ← steps_keys, List.any_map]; rfl
      rw [sp]
      obtain ⟨p, fp, mp, zp⟩ := find_some_any h1
      rw [fp]
      show (shortestSequence g t k (j + 1) p.1).map (p.2 ++ ·) = (match (steps (allM g) p).find? (fun q => hit g t k j q.1) with | none => none | some p => (shortestSequence g t k j p.1).map (p.2 ++ ·))
      have ssq : shortestSequence g t k (j + 1) p.1 = match (possibleMoves g p.1).find? fun m => minMoves g (Ks577.move p.1 m.1 m.2) t k == some j with
        | none => none
        | some m => (shortestSequence g t k j (Ks577.move p.1 m.1 m.2)).map fun rest => m :: rest := rfl
      rw [ssq]
      have len : p.1.length = g.vertexCount := (hl p.1 (List.mem_map.mpr ⟨p, mp, rfl⟩)).1
      have fc : (possibleMoves g p.1).find? (fun m => minMoves g (Ks577.move p.1 m.1 m.2) t k == some j) = (possibleMoves g p.1).find? fun m => hit g t k j (Ks577.move p.1 m.1 m.2) := by
        refine find_congr' fun m hm => ?_
        have lm : (Ks577.move p.1 m.1 m.2).length = g.vertexCount := by rw [move_length]; exact len
        have hs : Ks577.move p.1 m.1 m.2 ∈ successors g p.1 := List.mem_map.mpr ⟨m, hm, rfl⟩
        rw [Bool.eq_iff_iff, beq_iff_eq, min_moves_hit lm]
        refine ⟨fun h => h.1, fun h => ⟨h, fun i hi => ?_⟩⟩
        have z := h2' i hi p mp
        have z2 : ¬ hit g t k i (Ks577.move p.1 m.1 m.2) = true := List.any_eq_false.mp z _ hs
        rw [Bool.not_eq_true] at z2
        exact z2
      rw [fc, possible_is]
      unfold steps
      rw [find_map']
      cases (List.filter (fun m => decide (2 ≤ p.1.getD m.1 0)) (allM g)).find? (fun m => hit g t k j (Ks577.move p.1 m.1 m.2)) with
      | none => rfl
      | some m =>
        show ((shortestSequence g t k j (Ks577.move p.1 m.1 m.2)).map fun rest => m :: rest).map (p.2 ++ ·) = (shortestSequence g t k j (Ks577.move p.1 m.1 m.2)).map ((p.2 ++ [m]) ++ ·)
        cases shortestSequence g t k j (Ks577.move p.1 m.1 m.2) with
        | none => rfl
        | some r => show some (p.2 ++ m :: r) = some (p.2 ++ [m] ++ r); rw [List.append_assoc]; rfl
/-- the whole search -/
theorem ans_start {g : Graph} {t k : Nat} {c : List Nat} : ansP g t k [(c, [])] (c.sum + 1) = (match minMoves g c t k with | none => none | some j => shortestSequence g t k j c) ∨ c.length ≠ g.vertexCount := by
  by_cases hc : c.length = g.vertexCount
  · left
    unfold ansP
    show (match minMoves g c t k with | none => none | some j => match List.find? (fun p : List Nat × Sq => hit g t k j p.1) [((c, []) : List Nat × Sq)] with | none => none | some p => (shortestSequence g t k j p.1).map (p.2 ++ ·)) = _
    cases m : minMoves g c t k with
    | none => rfl
    | some j =>
      obtain ⟨h1, _⟩ := (min_moves_hit hc).mp m
      show (match List.find? (fun p : List Nat × Sq => hit g t k j p.1) [((c, []) : List Nat × Sq)] with | none => none | some p => (shortestSequence g t k j p.1).map (p.2 ++ ·)) = _
      rw [List.find?_cons, h1]
      show (shortestSequence g t k j c).map ([] ++ ·) = shortestSequence g t k j c
      cases shortestSequence g t k j c <;> rfl
  · exact .inr hc
end Peb
namespace Peb
open Ks577 (Graph isAdjacent neighbourhood distance weightAt Rational)
/-! ### the distances from a target -/
/-- from u the target is at most j edges away -/
def Rch (g : Graph) (t j u : Nat) : Prop := t ∈ neighbourhood g j [u]
def stepN (g : Graph) (vs : List Nat) : List Nat := (List.range g.vertexCount).filter fun v => vs.contains v || vs.any fun u => isAdjacent g u v
theorem mem_stepN {g : Graph} {vs : List Nat} {x : Nat} : x ∈ stepN g vs ↔ x < g.vertexCount ∧ (x ∈ vs ∨ ∃ u ∈ vs, isAdjacent g u x = true) := by
  unfold stepN
  rw [List.mem_filter, List.mem_range, Bool.or_eq_true, List.contains_iff_mem, List.any_eq_true]
theorem nb_any {g : Graph} {t : Nat} : ∀ {j : Nat} {vs : List Nat}, t ∈ neighbourhood g j vs ↔ ∃ u ∈ vs, Rch g t j u
  | 0, vs => by
    unfold Rch
    show t ∈ vs ↔ ∃ u ∈ vs, t ∈ [u]
    constructor
    · intro h; exact ⟨t, h, List.mem_singleton.mpr rfl⟩
    · rintro ⟨u, hu, h⟩; rw [List.mem_singleton] at h; exact h ▸ hu
  | j + 1, vs => by
    show t ∈ neighbourhood g j (stepN g vs) ↔ ∃ u ∈ vs, t ∈ neighbourhood g j (stepN g [u])
    rw [nb_any (j := j)]
    constructor
    · rintro ⟨x, hx, r⟩
      obtain ⟨h1, h2⟩ := mem_stepN.mp hx
      rcases h2 with h2 | ⟨u, hu, a⟩
      · exact ⟨x, h2, (nb_any (j := j)).mpr ⟨x, mem_stepN.mpr ⟨h1, .inl (List.mem_singleton.mpr rfl)⟩, r⟩⟩
      · exact ⟨u, hu, (nb_any (j := j)).mpr ⟨x, mem_stepN.mpr ⟨h1, .inr ⟨u, List.mem_singleton.mpr rfl, a⟩⟩, r⟩⟩
    · rintro ⟨u, hu, r⟩
      obtain ⟨x, hx, r⟩ := (nb_any (j := j)).mp r
      obtain ⟨h1, h2⟩ := mem_stepN.mp hx
      refine ⟨x, mem_stepN.mpr ⟨h1, ?_⟩, r⟩
      rcases h2 with h2 | ⟨v, hv, a⟩
      · rw [List.mem_singleton] at h2; exact .inl (h2 ▸ hu)
      · rw [List.mem_singleton] at hv; exact .inr ⟨u, hu, hv ▸ a⟩
theorem rch_zero {g : Graph} {t u : Nat} : Rch g t 0 u ↔ u = t := by
  show t ∈ [u] ↔ u = t
  rw [List.mem_singleton]
  exact ⟨Eq.symm, Eq.symm⟩
theorem rch_succ {g : Graph} {t j u : Nat} : Rch g t (j + 1) u ↔ ∃ x, x < g.vertexCount ∧ (x = u ∨ isAdjacent g u x = true) ∧ Rch g t j x := by
  show t ∈ neighbourhood g j (stepN g [u]) ↔ _
  rw [nb_any]
  constructor
  · rintro ⟨x, hx, r⟩
    obtain ⟨h1, h2⟩ := mem_stepN.mp hx
    refine ⟨x, h1, ?_, r⟩
    rcases h2 with h2 | ⟨v, hv, a⟩
    · exact .inl (List.mem_singleton.mp h2)
    · rw [List.mem_singleton] at hv; exact .inr (hv ▸ a)
  · rintro ⟨x, h1, h2, r⟩
    refine ⟨x, mem_stepN.mpr ⟨h1, ?_⟩, r⟩
    rcases h2 with h2 | a
    · exact .inl (List.mem_singleton.mpr h2)
    · exact .inr ⟨u, List.mem_singleton.mpr rfl, a⟩
theorem rch_up {g : Graph} {t j u : Nat} (hu : u < g.vertexCount) (h : Rch g t j u) : Rch g t (j + 1) u := rch_succ.mpr ⟨u, hu, .inl rfl, h⟩
theorem rch_le {g : Graph} {t u : Nat} (hu : u < g.vertexCount) {j k : Nat} (h : Rch g t j u) (l : j ≤ k) : Rch g t k u := by
  induction k with
  | zero => rw [show j = 0 by omega] at h; exact h
  | succ k ih =>
    by_cases e : j = k + 1
    · exact e ▸ h
    · exact rch_up hu (ih (by omega))
theorem adj_sym {g : Graph} {u v : Nat} : isAdjacent g u v = true ↔ isAdjacent g v u = true := by
  unfold isAdjacent
  rw [List.any_eq_true, List.any_eq_true]
  constructor <;>
  · rintro ⟨e, he, h⟩
    rw [Bool.or_comm] at h
    exact ⟨e, he, h⟩
/-! ### one round of the walk outward -/
def fstep (r ks fu : List Nat) (m : Nat × Nat) : List Nat := if m.1 ∈ r ∧ m.2 ∉ ks ∧ m.2 ∉ fu then fu ++ [m.2] else fu
def fur (r ks : List Nat) (ms : List (Nat × Nat)) : List Nat := ms.foldl (fstep r ks) []
theorem mem_ffold {r ks : List Nat} {w : Nat} : ∀ {ms : List (Nat × Nat)} {fu : List Nat}, w ∈ ms.foldl (fstep r ks) fu ↔ w ∈ fu ∨ (w ∉ ks ∧ ∃ m ∈ ms, m.1 ∈ r ∧ m.2 = w)
  | [], fu => by simp
  | m :: ms, fu => by
    rw [List.foldl_cons, mem_ffold (ms := ms)]
    have e : w ∈ fstep r ks fu m ↔ w ∈ fu ∨ (w ∉ ks ∧ m.1 ∈ r ∧ m.2 = w) := by
      unfold fstep
      by_cases c : m.1 ∈ r ∧ m.2 ∉ ks ∧ m.2 ∉ fu
      · rw [if_pos c, List.mem_append, List.mem_singleton]
        constructor
        · rintro (h | h)
          · exact .inl h
          · exact .inr ⟨h ▸ c.2.1, c.1, h.symm⟩
        · rintro (h | ⟨_, _, h⟩)
          · exact .inl h
          · exact .inr h.symm
      · rw [if_neg c]
        constructor
        · exact .inl
        · rintro (h | ⟨h1, h2, h3⟩)
          · exact h
          · subst h3
            by_cases z : m.2 ∈ fu
            · exact z
            · exact absurd ⟨h2, h1, z⟩ c
    rw [e]
    constructor
    · rintro ((h | ⟨h1, h2, h3⟩) | ⟨h1, x, hx, h2⟩)
      · exact .inl h
      · exact .inr ⟨h1, m, List.mem_cons_self .., h2, h3⟩
      · exact .inr ⟨h1, x, List.mem_cons_of_mem _ hx, h2⟩
    · rintro (h | ⟨h1, x, hx, h2⟩)
      · exact .inl (.inl h)
      · rcases List.mem_cons.mp hx with rfl | hx
        · exact .inl (.inr ⟨h1, h2⟩)
        · exact .inr ⟨h1, x, hx, h2⟩
theorem nodup_ffold {r ks : List Nat} : ∀ {ms : List (Nat × Nat)} {fu : List Nat}, fu.Nodup → (ms.foldl (fstep r ks) fu).Nodup
  | [], _, h => h
  | m :: ms, fu, h => by
    rw [List.foldl_cons]
    refine nodup_ffold (ms := ms) ?_
    unfold fstep
    by_cases c : m.1 ∈ r ∧ m.2 ∉ ks ∧ m.2 ∉ fu
    · rw [if_pos c, List.nodup_append]
      refine ⟨h, by simp, fun a ha b hb => ?_⟩
      rw [List.mem_singleton] at hb
      subst hb
      intro e
      subst e
      exact c.2.2 ha
    · rw [if_neg c]; exact h
theorem length_ffold {r ks : List Nat} : ∀ {ms : List (Nat × Nat)} {fu : List Nat}, (ms.foldl (fstep r ks) fu).length ≤ fu.length + ms.length
  | [], _ => by simp
  | m :: ms, fu => by
    have h := length_ffold (r := r) (ks := ks) (ms := ms) (fu := fstep r ks fu m)
    have h2 : (fstep r ks fu m).length ≤ fu.length + 1 := by
      unfold fstep
      by_cases c : m.1 ∈ r ∧ m.2 ∉ ks ∧ m.2 ∉ fu
      · rw [if_pos c, List.length_append, List.length_singleton]; exact Nat.le_refl _
      · rw [if_neg c]; omega
    rw [List.foldl_cons, List.length_cons]; omega
theorem mem_fur {r ks : List Nat} {ms : List (Nat × Nat)} {w : Nat} : w ∈ fur r ks ms ↔ w ∉ ks ∧ ∃ m ∈ ms, m.1 ∈ r ∧ m.2 = w := by
  unfold fur
  rw [mem_ffold]
  simp
theorem fur_length (r ks : List Nat) (ms : List (Nat × Nat)) : (fur r ks ms).length ≤ ms.length := by
  have := length_ffold (r := r) (ks := ks) (ms := ms) (fu := [])
  rw [List.length_nil, Nat.zero_add] at this
  exact this
theorem fur_more {r ks : List Nat} {ms : List (Nat × Nat)} {j : Nat} {m : Nat × Nat} (h : ms[j]? = some m) : fur r ks (ms.take (j + 1)) = fstep r ks (fur r ks (ms.take j)) m := by
  unfold fur
  rw [List.take_add_one, h, Option.toList_some, List.foldl_append]; rfl
/-- the distances found so far: all up to k, and r those at k -/
structure Bfs (g : Graph) (t k : Nat) (ds : List (Nat × Nat)) (r : List Nat) : Prop where
  key : ∀ u, u ∈ ds.map (·.1) ↔ u < g.vertexCount ∧ Rch g t k u
  val : ∀ p ∈ ds, Rch g t p.2 p.1 ∧ (∀ i < p.2, ¬ Rch g t i p.1) ∧ p.2 ≤ k
  nd : (ds.map (·.1)).Nodup
  rch : ∀ u, u ∈ r ↔ (u, k) ∈ ds
  len : k ≤ ds.length
  len1 : r ≠ [] → k + 1 ≤ ds.length
theorem Bfs.lt {g : Graph} {t k : Nat} {ds : List (Nat × Nat)} {r : List Nat} (B : Bfs g t k ds r) {p : Nat × Nat} (h : p ∈ ds) : p.1 < g.vertexCount := ((B.key p.1).mp (List.mem_map.mpr ⟨p, h, rfl⟩)).1
theorem Bfs.start {g : Graph} {t : Nat} (h : t < g.vertexCount) : Bfs g t 0 [(t, 0)] [t] := by
  refine ⟨fun u => ?_, fun p hp => ?_, by simp, fun u => by simp, Nat.zero_le _, fun _ => Nat.le_refl _⟩
  · rw [rch_zero]
    show u ∈ [t] ↔ _
    rw [List.mem_singleton]
    exact ⟨fun e => ⟨e ▸ h, e⟩, fun e => e.2⟩
  · rw [List.mem_singleton.mp hp]
    exact ⟨rch_zero.mpr rfl, fun i hi => absurd hi (Nat.not_lt_zero i), Nat.le_refl _⟩
theorem Bfs.next {g : Graph} {t k : Nat} {ds : List (Nat × Nat)} {r : List Nat} (B : Bfs g t k ds r) (hr : r ≠ []) :
    Bfs g t (k + 1) (ds ++ (fur r (ds.map (·.1)) (allM g)).map fun w => (w, k + 1)) (fur r (ds.map (·.1)) (allM g)) := by
  have mf : ∀ w, w ∈ fur r (ds.map (·.1)) (allM g) ↔ w ∉ ds.map (·.1) ∧ ∃ v, v ∈ r ∧ v < g.vertexCount ∧ w < g.vertexCount ∧ isAdjacent g v w = true := fun w => by
    rw [mem_fur]
    constructor
    · rintro ⟨h1, m, hm, h2, h3⟩
      obtain ⟨a1, a2, a3⟩ := mem_allM.mp hm
      exact ⟨h1, m.1, h2, a1, h3 ▸ a2, h3 ▸ a3⟩
    · rintro ⟨h1, v, h2, h3, h4, h5⟩
      exact ⟨h1, (v, w), mem_allM.mpr ⟨h3, h4, h5⟩, h2, rfl⟩
  have kn : ∀ u, (u ∈ ds.map (·.1) ∨ u ∈ fur r (ds.map (·.1)) (allM g)) ↔ u < g.vertexCount ∧ Rch g t (k + 1) u := fun u => by
    constructor
    · rintro (h | h)
      · obtain ⟨h1, h2⟩ := (B.key u).mp h
        exact ⟨h1, rch_up h1 h2⟩
      · obtain ⟨_, v, h2, h3, h4, h5⟩ := (mf u).mp h
        have hv := (B.val _ ((B.rch v).mp h2)).1
        exact ⟨h4, rch_succ.mpr ⟨v, h3, .inr (adj_sym.mp h5), hv⟩⟩
    · rintro ⟨hu, h⟩
      by_cases c : Rch g t k u
      · exact .inl ((B.key u).mpr ⟨hu, c⟩)
      · obtain ⟨x, hx, hxu, rx⟩ := rch_succ.mp h
        rcases hxu with e | a
        · exact absurd (e ▸ rx) c
        · have hk := (B.key x).mpr ⟨hx, rx⟩
          obtain ⟨p, hp, e⟩ := List.mem_map.mp hk
          obtain ⟨v1, v2, v3⟩ := B.val p hp
          have e : p.1 = x := e
          have pk : p.2 = k := by
            by_cases z : p.2 = k
            · exact z
            · exact absurd (rch_le hu (rch_succ.mpr ⟨x, hx, .inr a, e ▸ v1⟩) (by omega : p.2 + 1 ≤ k)) c
          have xr : x ∈ r := (B.rch x).mpr (by rw [← e, ← pk]; exact hp)
          exact .inr ((mf u).mpr ⟨fun z => c ((B.key u).mp z).2, x, xr, hx, hu, adj_sym.mp a⟩)
  have mk : (ds ++ (fur r (ds.map (·.1)) (allM g)).map fun w => (w, k + 1)).map (·.1) = ds.map (·.1) ++ fur r (ds.map (·.1)) (allM g) := by
    rw [List.map_append, List.map_map]
    exact congrArg _ ((List.map_congr_left fun _ _ => rfl).trans (List.map_id _))
  refine ⟨fun u => ?_, fun p hp => ?_, ?_, fun u => ?_, ?_, fun h => ?_⟩
  · rw [mk, List.mem_append]; exact kn u
  · rcases List.mem_append.mp hp with h | h
    · obtain ⟨h1, h2, h3⟩ := B.val p h
      exact ⟨h1, h2, by omega⟩
    · obtain ⟨w, hw, rfl⟩ := List.mem_map.mp h
      obtain ⟨w1, w2⟩ := (kn w).mp (.inr hw)
      refine ⟨w2, fun i hi z => ?_, Nat.le_refl _⟩
      have hi : i < k + 1 := hi
      exact ((mf w).mp hw).1 ((B.key w).mpr ⟨w1, rch_le w1 z (by omega)⟩)
  · rw [mk, List.nodup_append]
    refine ⟨B.nd, nodup_ffold List.nodup_nil, fun a ha b hb e => ?_⟩
    subst e
    exact ((mf a).mp hb).1 ha
  · rw [List.mem_append]
    constructor
    · intro h; exact .inr (List.mem_map.mpr ⟨u, h, rfl⟩)
    · rintro (h | h)
      · have := (B.val _ h).2.2
        have this : k + 1 ≤ k := this
        omega
      · obtain ⟨w, hw, e⟩ := List.mem_map.mp h
        have e : w = u := (Prod.mk.inj e).1
        exact e ▸ hw
  · have := B.len1 hr
    rw [List.length_append]; omega
  · have := B.len1 hr
    rw [List.length_append, List.length_map]
    have : 0 < (fur r (ds.map (·.1)) (allM g)).length := List.length_pos_iff.mpr h
    omega
theorem Bfs.room {g : Graph} {t k : Nat} {ds : List (Nat × Nat)} {r : List Nat} (B : Bfs g t k ds r) : ds.length ≤ g.vertexCount := by
  have h : (ds.map (·.1)).length ≤ (List.range g.vertexCount).length := List.Nodup.length_le_of_subset B.nd fun u hu => List.mem_range.mpr ((B.key u).mp hu).1
  rw [List.length_map, List.length_range] at h
  exact h
theorem dist_some {g : Graph} {t u d : Nat} (h : Rch g t d u) (no : ∀ i < d, ¬ Rch g t i u) (l : d < g.vertexCount) : distance g u t = some d := by
  unfold distance
  rw [List.find?_range_eq_some]
  refine ⟨List.contains_iff_mem.mpr h, List.mem_range.mpr l, fun j hj => ?_⟩
  have := no j hj
  rw [Bool.not_eq_true', ← Bool.not_eq_true, List.contains_iff_mem]
  exact this
theorem dist_none {g : Graph} {t u : Nat} (no : ∀ i < g.vertexCount, ¬ Rch g t i u) : distance g u t = none := by
  unfold distance
  rw [List.find?_eq_none]
  intro j hj
  rw [List.contains_iff_mem]
  exact no j (List.mem_range.mp hj)
theorem dist_lt {g : Graph} {t u d : Nat} (h : distance g u t = some d) : d < g.vertexCount := List.mem_range.mp (List.mem_of_find?_eq_some h)
/-- the walk is over: these are the distances -/
theorem Bfs.done {g : Graph} {t k : Nat} {ds : List (Nat × Nat)} (B : Bfs g t k ds []) : (∀ p ∈ ds, distance g p.1 t = some p.2) ∧ ∀ u < g.vertexCount, u ∉ ds.map (·.1) → distance g u t = none := by
  have less : ∀ p ∈ ds, p.2 < k := fun p hp => by
    have h1 := (B.val p hp).2.2
    by_cases z : p.2 = k
    · have : p.1 ∈ ([] : List Nat) := (B.rch p.1).mpr (by rw [← z]; exact hp)
      cases this
    · omega
  refine ⟨fun p hp => ?_, fun u hu no => ?_⟩
  · obtain ⟨h1, h2, _⟩ := B.val p hp
    have := less p hp
    have := B.len
    have := B.room
    exact dist_some h1 h2 (by omega)
  · have st : ∀ j, ∀ x < g.vertexCount, Rch g t (k + j) x → Rch g t k x := by
      intro j
      induction j with
      | zero => intro x _ h; exact h
      | succ j ih =>
        intro x hx h
        obtain ⟨y, hy, a, ry⟩ := rch_succ.mp (show Rch g t (k + j + 1) x from h)
        have ry := ih y hy ry
        rcases a with e | a
        · exact e ▸ ry
        · obtain ⟨p, hp, e⟩ := List.mem_map.mp ((B.key y).mpr ⟨hy, ry⟩)
          have e : p.1 = y := e
          have l := less p hp
          exact rch_le hx (rch_succ.mpr ⟨y, hy, .inr a, e ▸ (B.val p hp).1⟩) (by omega : p.2 + 1 ≤ k)
    refine dist_none fun i _ h => no ((B.key u).mpr ⟨hu, ?_⟩)
    by_cases z : i ≤ k
    · exact rch_le hu h z
    · exact st (i - k) u hu (by rw [show k + (i - k) = i by omega]; exact h)
/-! ### fractions -/
theorem make_is {a p : Nat} (hp : 0 < p) : Rational.make ((a : Nat) : Int) p = ⟨((a / Nat.gcd a p : Nat) : Int), p / Nat.gcd a p⟩ := by
  unfold Rational.make
  rw [if_neg (by omega)]
  rfl
theorem make_mul {a p k : Nat} (hp : 0 < p) (hk : 0 < k) : Rational.make ((a * k : Nat) : Int) (p * k) = Rational.make ((a : Nat) : Int) p := by
  rw [make_is (Nat.mul_pos hp hk), make_is hp, Nat.gcd_mul_right, Nat.mul_div_mul_right _ _ hk, Nat.mul_div_mul_right _ _ hk]
theorem add_make {a p b q : Nat} (hp : 0 < p) (hq : 0 < q) : Rational.add (Rational.make ((a : Nat) : Int) p) (Rational.make ((b : Nat) : Int) q) = Rational.make ((a * q + b * p : Nat) : Int) (p * q) := by
  rw [make_is hp, make_is hq]
  have g1 : 0 < Nat.gcd a p := Nat.gcd_pos_of_pos_right _ hp
  have g2 : 0 < Nat.gcd b q := Nat.gcd_pos_of_pos_right _ hq
  have ea := Nat.div_mul_cancel (Nat.gcd_dvd_left a p)
  have ep := Nat.div_mul_cancel (Nat.gcd_dvd_right a p)
  have eb := Nat.div_mul_cancel (Nat.gcd_dvd_left b q)
  have eq := Nat.div_mul_cancel (Nat.gcd_dvd_right b q)
  generalize Nat.gcd a p = x at *
  generalize Nat.gcd b q = y at *
  generalize a / x = a' at *
  generalize p / x = p' at *
  generalize b / y = b' at *
  generalize q / y = q' at *
  subst ea ep eb eq
  have hp' : 0 < p' := Nat.pos_of_mul_pos_right hp
  have hq' : 0 < q' := Nat.pos_of_mul_pos_right hq
  have e : Rational.add ⟨((a' : Nat) : Int), p'⟩ ⟨((b' : Nat) : Int), q'⟩ = Rational.make ((a' * q' + b' * p' : Nat) : Int) (p' * q') := rfl
  rw [e, ← make_mul (Nat.mul_pos hp' hq') (Nat.mul_pos g1 g2)]
  have e1 : (a' * q' + b' * p') * (x * y) = a' * x * (q' * y) + b' * y * (p' * x) := by
    rw [Nat.add_mul]
    have : a' * q' * (x * y) = a' * x * (q' * y) := by
      rw [Nat.mul_assoc, Nat.mul_assoc, Nat.mul_left_comm q' x y]
    have h2 : b' * p' * (x * y) = b' * y * (p' * x) := by
      rw [Nat.mul_comm x y, Nat.mul_assoc, Nat.mul_assoc, Nat.mul_left_comm p' y x]
    rw [this, h2]
  have e2 : p' * q' * (x * y) = p' * x * (q' * y) := by
    rw [Nat.mul_assoc, Nat.mul_assoc, Nat.mul_left_comm q' x y]
  rw [e1, e2]
/-- parts of a pebble at u -/
def wOne (g : Graph) (c : List Nat) (t u : Nat) : Nat := match distance g u t with | none => 0 | some d => c.getD u 0 * (16 / 2 ^ d)
theorem pow_16 : ∀ d, d ≤ 4 → 16 / 2 ^ d * 2 ^ d = 16
  | 0, _ => rfl
  | 1, _ => rfl
  | 2, _ => rfl
  | 3, _ => rfl
  | 4, _ => rfl
  | d + 5, h => by omega
theorem weight_from {g : Graph} {c : List Nat} {t : Nat} (h5 : g.vertexCount ≤ 5) : ∀ (l : List Nat) (a : Nat), l.foldl (fun total u => match distance g u t with
    | none => total
    | some d => total + Rational.make (Ks577.pebblesAt c u : Int) (2 ^ d)) (Rational.make ((a : Nat) : Int) 16) = Rational.make ((a + (l.map (wOne g c t)).sum : Nat) : Int) 16
  | [], a => rfl
  | u :: r, a => by
    rw [List.foldl_cons, List.map_cons, List.sum_cons]
    cases e : distance g u t with
    | none =>
      have w : wOne g c t u = 0 := by unfold wOne; rw [e]
      rw [w, Nat.zero_add]
      exact weight_from h5 r a
    | some d =>
      have w : wOne g c t u = c.getD u 0 * (16 / 2 ^ d) := by unfold wOne; rw [e]
      have l := dist_lt e
      have s : Rational.make ((a : Nat) : Int) 16 + Rational.make (Ks577.pebblesAt c u : Int) (2 ^ d) = Rational.make ((a + c.getD u 0 * (16 / 2 ^ d) : Nat) : Int) 16 := by
        show Rational.add (Rational.make ((a : Nat) : Int) 16) (Rational.make ((c.getD u 0 : Nat) : Int) (2 ^ d)) = _
        rw [add_make (by decide) (Nat.pow_pos (by decide)), ← make_mul (a := a + c.getD u 0 * (16 / 2 ^ d)) (p := 16) (k := 2 ^ d) (by decide) (Nat.pow_pos (by decide)), Nat.add_mul, Nat.mul_assoc (c.getD u 0), pow_16 d (by omega)]
      rw [w, ← Nat.add_assoc]
      show r.foldl _ (Rational.make ((a : Nat) : Int) 16 + Rational.make (Ks577.pebblesAt c u : Int) (2 ^ d)) = _
      rw [s]
      exact weight_from h5 r _
theorem weight_is {g : Graph} {c : List Nat} {t : Nat} (h5 : g.vertexCount ≤ 5) : weightAt g c t = Rational.make ((((List.range g.vertexCount).map (wOne g c t)).sum : Nat) : Int) 16 := by
  have := weight_from (g := g) (c := c) (t := t) h5 (List.range g.vertexCount) 0
  rw [Nat.zero_add] at this
  exact this
theorem filter_sum {F : Nat → Nat} {P : Nat → Bool} : ∀ {l : List Nat}, (∀ x ∈ l, P x = false → F x = 0) → ((l.filter P).map F).sum = (l.map F).sum
  | [], _ => rfl
  | x :: r, h => by
    have ih := filter_sum (l := r) fun y hy => h y (List.mem_cons_of_mem _ hy)
    rw [List.filter_cons, List.map_cons, List.sum_cons]
    cases e : P x with
    | true => rw [if_pos rfl, List.map_cons, List.sum_cons, ih]
    | false => rw [if_neg (by decide), ih, h x (List.mem_cons_self ..) e, Nat.zero_add]
theorem parts_is {g : Graph} {c : List Nat} {t k : Nat} {ds : List (Nat × Nat)} (B : Bfs g t k ds []) : (ds.map fun p => c.getD p.1 0 * (16 / 2 ^ p.2)).sum = ((List.range g.vertexCount).map (wOne g c t)).sum := by
  obtain ⟨h1, h2⟩ := B.done
  have e : (ds.map fun p => c.getD p.1 0 * (16 / 2 ^ p.2)) = (ds.map (·.1)).map (wOne g c t) := by
    rw [List.map_map]
    refine List.map_congr_left fun p hp => ?_
    show _ = wOne g c t p.1
    unfold wOne
    rw [h1 p hp]
  have pm : (ds.map (·.1)).Perm ((List.range g.vertexCount).filter fun u => decide (u ∈ ds.map (·.1))) := by
    refine (List.perm_ext_iff_of_nodup B.nd (List.nodup_range.filter _)).mpr fun u => ?_
    rw [List.mem_filter, List.mem_range, decide_eq_true_iff]
    exact ⟨fun h => ⟨((B.key u).mp h).1, h⟩, fun h => h.2⟩
  rw [e, (pm.map (wOne g c t)).sum_nat]
  refine filter_sum fun u hu hn => ?_
  unfold wOne
  rw [h2 u (List.mem_range.mp hu) (of_decide_eq_false hn)]
/-- halving both: the fraction stays -/
theorem make_half {a b : Nat} (hb : 0 < b) : Rational.make ((2 * a : Nat) : Int) (2 * b) = Rational.make ((a : Nat) : Int) b := by
  rw [Nat.mul_comm 2 a, Nat.mul_comm 2 b]
  exact make_mul hb (by decide)
/-- lowest terms, if the denominator is a power of two -/
theorem make_low {a e : Nat} (h : e = 0 ∨ a % 2 = 1) : Rational.make ((a : Nat) : Int) (2 ^ e) = ⟨((a : Nat) : Int), 2 ^ e⟩ := by
  have g : Nat.gcd a (2 ^ e) = 1 := by
    rcases h with h | h
    · subst h; exact Nat.gcd_one_right a
    · have c : Nat.Coprime a 2 := by
        show Nat.gcd a 2 = 1
        rw [Nat.gcd_comm, Nat.gcd_rec, h]; decide
      exact Nat.Coprime.pow_right e c
  rw [make_is (Nat.pow_pos (by decide)), g, Nat.div_one, Nat.div_one]
end Peb
namespace Peb
open PySem PySem.Spec PyProof.Rows L2
def top (i : Nat) : Stmt := PySem.Challenge.pw_halvedpebbles_s05_weight_at.main.body.getD i (.Pass ⟨0, 0, 0, 0⟩)
abbrev sEdges : Stmt := top 4
abbrev sPebbles : Stmt := top 5
abbrev sLimits : Stmt := top 6
abbrev sTarget : Stmt := top 7
abbrev sMoves : Stmt := top 8
abbrev sDist : Stmt := top 9
abbrev sParts : Stmt := top 10
abbrev sTerms : Stmt := top 11
abbrev sWeight : Stmt := top 12
/-! ### dicts whose keys are tuples: a display of one pair, setdefault, a walk over items -/
section
variable {X : Cx}
/-- {k: v} -/
def tOne (tk tv : TE) : TE := fun σ H Q => ∀ p, H p = none → tk σ (upd H p (.dT [])) fun x H1 => tv σ H1 fun y H2 =>
  H2 p = some (.dT []) ∧ ∃ (b : Addr) (ks : List L2.Key), x = .ref b ∧ H2 b = some (.tup (ks.map kV)) ∧ Q (.ref p) (upd H2 p (.dT [(ks, y)]))
theorem pe_one1 {k v : Expr} {tk tv : TE} {pos : Pos} (hu : X.A.units + 1 < cLine) (hk : PE X k tk) (hv : PE X v tv) : PE X (.Dict [some k] [v] pos) (tOne tk tv) := by
  refine ⟨fun pp s σ H Q I q => ?_⟩
  have fr := I.hok.fresh (Nat.le_refl s.heap.objs.size)
  have J := I.laid (o := .dT []) (a := s.heap.objs.size) (t' := s.toks) (h' := s.heap.push { cls := .type "dict", data := .dict #[] }) (fun _ _ z => Heap.get?_push_of_some _ z) (Nat.le_refl _) (dt_empty s.heap I.big)
  rw [arm_eval_Dict, zip_pairTrees [some k] [v] X.env pos rfl rfl, dictDisplay_pairs _ (by simp [pairTrees]) (by simp [pairTrees])]
  refine wpAny_bind (wpAny_standAt (wpAny_bind (wpAny_subDictH (knd := tupleKind (mixKind X.prog X.w)) (Q := fun d s' => wpAny (model X.prog X.w) X.A (pure (Value.ref d)) (EP X pp σ Q) X.xe s') (by show X.A.units < cLine; omega) (by simp [pairTrees]) ?_)))
  refine pairTrees_cons_walk (thn (hk.run pp _ σ _ _ J (q _ fr)) fun u r1 ⟨x, H1, I1, rx, q1⟩ => thn (hv.run pp r1 σ H1 _ I1 q1) fun r s2 ⟨y, H2, I2, ry, e, b, ks, ex, eb, q2⟩ => pairTrees_nil_walk ?_)
  subst ex
  cases (show u = Value.ref b from rx)
  obtain ⟨z, hd, ents, rel, dd⟩ := dt_of I2.hok e
  cases rel
  refine ⟨[(ks, b, r)], ⟨rfl, rfl, key_of I2.hok eb, trivial⟩, dd, fun h' tk' dd' hsb => wpAny_pure ⟨.ref s.heap.objs.size, _, ?_, rfl, q2⟩⟩
  obtain ⟨o, es, ep, ho, h2, h3, h4, _, h5⟩ := dd'
  refine d_write I2 (by rw [e]; trivial) hsb ⟨o, ho⟩ ⟨by show 1 ≤ sizeLine; decide, hd, [(ks, b, r)], .cons ⟨rfl, ?_, ry⟩ .nil, o, es, ep, ho, h2, h3, h4, h5⟩
  rw [upd_ne (ne_of eb e (fun z => nomatch z))]
  exact eb
/-- d.setdefault(y, z) -/
def tSetT (td ty tz : TE) : TE := fun σ H Q => td σ H fun x H1 => ∃ a, x = .ref a ∧ IsD H1 a ∧ ty σ H1 fun y H2 => tz σ H2 fun z H3 =>
  ∃ (kvs : List (List L2.Key × V)) (k : List L2.Key) (b : Addr), H3 a = some (.dT kvs) ∧ y = .ref b ∧ H3 b = some (.tup (k.map kV)) ∧ kvs.length < sizeLine ∧
    (∀ v, valV kvs k = some v → Q v H3) ∧ (valV kvs k = none → Q z (upd H3 a (.dT (putK kvs k z))))
theorem setT_call {pp : List (Addr × Obj)} {σ : L2.St} {H : Hp} {s : Shared} {a b : Addr} {r : Value} {z : V} {k : List L2.Key} {kvs : List (List L2.Key × V)} {Q : V → Hp → Prop} (hu : X.A.units + 1 < cLine) (I : Inv X pp σ H s)
    (ea : H a = some (.dT kvs)) (eb : H b = some (.tup (k.map kV))) (rz : RelV z r) (hl : kvs.length < sizeLine) (q1 : ∀ v, valV kvs k = some v → Q v H) (q2 : valV kvs k = none → Q z (upd H a (.dT (putK kvs k z)))) :
    wpAny (model X.prog X.w) X.A (call (.builtin "dict.setdefault") [.ref a, .ref b, r]) (EP X pp σ Q) X.xe s := by
  obtain ⟨hz, hd, ents, rel, dd⟩ := dt_of I.hok ea
  refine call_meetsIn PySem.F.slot_dict_setdefault dd.typeIs PySem.F.entry_dict_setdefault (PySem.F.args_dict_setdefault_3 _ _ _) (meetsH_dict_setdefault (tupleKind (mixKind X.prog X.w)) a b hd r)
    ⟨tupleKind_room_in1 hu, k, ents, key_of I.hok eb, dd, by rw [← Paired.length rel]; exact hz, fun p hp => ?_, fun hn h' dd' hsb => ?_⟩
  · have t := rel.val k
    rw [hp] at t
    cases e : valV kvs k with
    | none => rw [e] at t; exact (show False from t).elim
    | some v =>
      rw [e] at t
      show EP X pp σ Q p.2 _
      exact ⟨v, H, I.tok _, t, q1 v e⟩
  · have t := rel.val k
    rw [hn] at t
    cases e : valV kvs k with
    | some v => rw [e] at t; exact (show False from t).elim
    | none =>
      have big := length_putK kvs k z
      obtain ⟨o, es, ep, ho, h2, h3, h4, _, h5⟩ := dd'
      show EP X pp σ Q r _
      refine ⟨z, upd H a (.dT (putK kvs k z)), d_write (t' := s.toks + _) I (by rw [ea]; trivial) hsb ⟨o, ho⟩ ⟨by omega, hd, _, (rel.put k eb rz).keeps fun c ys ec => ?_, o, es, ep, ho, h2, h3, h4, h5⟩, rz, q2 e⟩
      rw [upd_ne (ne_of ec ea (fun z => nomatch z))]
      exact ec
theorem pe_setT {o e f : Expr} {td ty tz : TE} {apos cpos : Pos} (hu : X.A.units + 1 < cLine) (ho : PE X o td) (he : PE X e ty) (hf : PE X f tz) (m : M2 X o "setdefault" apos e f cpos) :
    PE X (.Call (.Attribute o "setdefault" apos) [e, f] [] cpos) (tSetT td ty tz) := by
  refine ⟨fun pp s σ H Q I h => ?_⟩
  refine wpAny_Call_method m.base m.few m.line PySem.F.plainAttrs_dict PySem.F.slot_dict_setdefault PySem.F.type_dict_setdefault
    (thn (ho.run pp s σ H _ I h) fun u r1 ⟨x, H1, I1, rx, a, ex, d, q1⟩ => ?_)
  subst ex
  cases (show u = Value.ref a from rx)
  obtain ⟨t1, t2, _⟩ := isD_at I1 d
  refine ⟨t1, t2, ?_⟩
  rw [m.trees]
  refine Calls.callWith_builtin rfl (Calls.evalArgs_plain (Calls.spliced_cons (thn (he.run pp r1 σ H1 _ I1 q1) fun u2 s2 ⟨y, H2, I2, ry, q2⟩ =>
    Calls.spliced_cons (thn (hf.run pp s2 σ H2 _ I2 q2) fun r s3 ⟨z, H3, I3, rz, kvs, k, b, ea, ey, eb, hl, q3, q4⟩ => Calls.spliced_nil ?_))))
  subst ey
  cases (show u2 = Value.ref b from ry)
  exact setT_call hu I3 ea eb rz hl q3 q4
end
/-! the pairs of a locked dict, each in a tuple of its own -/
def ItT (d : Addr) (o : Obj) (kvs : List (List L2.Key × V)) : It :=
  ⟨fun i H => H d = some (.frz o (.dT kvs)) ∧ i < kvs.length, fun i H x H' => ∃ T q k v, kvs[i]? = some (k, v) ∧ x = .ref T ∧ H T = none ∧ H q = some (.tup (k.map kV)) ∧ H' = upd H T (.tup [.ref q, v]),
    fun i H => H d = some (.frz o (.dT kvs)) ∧ kvs.length ≤ i⟩
theorem frzE {X : Cx} {pp : List (Addr × Obj)} {σ : L2.St} {H : Hp} {s : Shared} {d : Addr} {o : Obj} {kvs : List (List L2.Key × V)} (I : Inv X pp σ H s) (h : H d = some (.frz o (.dT kvs))) :
    (d == sysModules) = false ∧ ∃ (es : Array DictEntry) (ep : Nat), o.data = .dict es ep ∧ es.size = kvs.length ∧ DT.Raw s.heap d es ep ∧
      ∀ (i : Nat) (k : List L2.Key) (v : V), kvs[i]? = some (k, v) → ∃ (en : DictEntry) (q : Addr), es[i]? = some en ∧ en.key = .ref q ∧ H q = some (.tup (k.map kV)) ∧ RelV v en.val := by
  obtain ⟨hd, z, hsb, ents, pr, o', es, ep, ho, hx, hes, he, _⟩ := I.hok d _ h
  rw [hd] at ho
  cases ho
  have n1 := size_of_entries he
  have n2 : kvs.length = ents.length := Paired.length pr
  refine ⟨hsb, es, ep, hes, by omega, ⟨o, hd, hx, hes⟩, fun i k v e => ?_⟩
  obtain ⟨b, hb, e1, e2, e3⟩ := paired_get pr e
  have q := entry_at he i
  rw [hb] at q
  exact ⟨_, b.2.1, q, rfl, e2, e3⟩
theorem turnT {P : Program} {w : World} {K : PySem.W.Frag} {d : Addr} {o : Obj} {es : Array DictEntry} {ep : Nat} {kvs : List (List L2.Key × V)} {elts : List Expr} {kk : Nat} {tpos : Pos} (it : Addr) (hod : o.data = .dict es ep) :
    Turn P w K (.Tuple elts kk tpos) (ItT d o kvs) [it] it (fun i h => ∃ ok ov, IsItemIter h it d i kvs.length ep ok ov) where
  mem := by simp
  obj := fun i h ⟨ok, ov, e⟩ b hb => by
    rw [List.mem_singleton] at hb
    subst hb
    exact ⟨_, e, fun v z => nomatch z⟩
  keep := fun i h h' ⟨ok, ov, e⟩ k => ⟨ok, ov, k it (List.mem_singleton.mpr rfl) _ e⟩
  item := by
    intro X hP hw hK hc i pp s σ H E I hf ⟨ok, ov, he⟩ ⟨hd, hi⟩
    subst hP hw hK
    obtain ⟨hsb, es', ep', hes, hsz, raw, ent⟩ := frzE I hd
    obtain ⟨rfl, rfl⟩ := dict_ep hod hes
    obtain ⟨⟨k, v⟩, hat⟩ : ∃ p, kvs[i]? = some p := ⟨kvs[i], List.getElem?_eq_getElem hi⟩
    obtain ⟨en, q, hen, hkey, hq, hval⟩ := ent i k v hat
    have below : it < s.heap.objs.size := Heap.lt_size he
    rw [← hsz] at he
    have hie : i < es'.size := by omega
    have een : es'[i] = en := by rw [Array.getElem?_eq_getElem hie] at hen; exact Option.some.inj hen
    refine DT.nextI he raw hie fun h' ho hT hz hk => ?_
    rw [een, hkey] at ho hT
    refine ⟨_, rfl, wpAny_letOwnedTupleGo_items (s := { s with heap := h' }) ho fun h'' he' sb => ?_⟩
    have hT2 := (sb.2 _ (Nat.ne_of_gt below)).trans hT
    have J : Inv X pp σ (upd H s.heap.objs.size (.tup [.ref q, v])) { s with heap := h'' } :=
      I.turnedNew (t' := s.toks) (ch := [it]) (fun b ob hb e => (sb.2 b (fun z => hb (by simp [z]))).trans (hk b ob (fun z => hb (by simp [z])) e)) hf (Nat.le_refl _)
        ⟨by show 2 ≤ sizeLine; decide, [.ref q, en.val], .cons rfl (.cons hval .nil), _, hT2, rfl, _, rfl⟩
    refine ⟨.ref s.heap.objs.size, _, J, rfl, ⟨_, q, k, v, hat, rfl, I.hok.fresh (Nat.le_refl _), hq, rfl⟩, ⟨_, _, by rw [← hsz]; exact he'⟩, fun b hb => ?_⟩
    rw [List.mem_singleton] at hb
    rw [hb, upd_ne (Nat.ne_of_lt below)]
    exact (hf it (by simp)).1
  done := by
    intro X hP hw hK hc i pp s σ H E I hf ⟨ok, ov, he⟩ ⟨hd, hi⟩
    subst hP hw hK
    obtain ⟨f0, f1, f2, f3, f4, g5⟩ := hf it (by simp)
    obtain ⟨hsb, es', ep', hes, hsz, raw, ent⟩ := frzE I hd
    obtain ⟨rfl, rfl⟩ := dict_ep hod hes
    rw [← hsz] at he
    exact DT.endI (I.ok.hd hc) he raw (by omega) fun h' eb => ⟨rfl, I.turned (t' := s.toks) (fun b ob hb e => eb b ob hb e) f0 f1 f3 f4 g5⟩
  self := fun A i s Q E ⟨_, _, e⟩ h => PySem.W.kcp_self e h
/-- for k, v in d.items() -/
def iPairsT (td : TE) : TI := fun σ H R => td σ H fun x H1 => ∃ d o kvs, x = .ref d ∧ H1 d = some (.frz o (.dT kvs)) ∧ R (ItT d o kvs) H1
theorem pi_pairsT {X : Cx} {e : Expr} {td : TE} {apos cpos tpos : Pos} {elts : List Expr} {kk : Nat} (he : PE X e td) (hb : attributeBase e "items" X.env (eval e X.env) = eval e X.env := by rfl) (hl : (apos.endLine == cpos.line) = true := by rfl) :
    PI X (.Tuple elts kk tpos) (.Call (.Attribute e "items" apos) [] [] cpos) (iPairsT td) := by
  refine ⟨fun pp s σ H R I h => ?_⟩
  refine wpAny_Call_method (id := "dict.items") (T := "dict") hb rfl hl F.plainAttrs_dict F.slot_dict_items F.type_dict_items
    (thn (he.run pp s σ H _ I h) fun u r1 ⟨x, H1, I1, rx, d, o, kvs, ex, hd, q⟩ => ?_)
  subst ex
  cases (show u = Value.ref d from rx)
  obtain ⟨hsb, es, ep, hes, hsz, raw, _⟩ := frzE I1 hd
  refine ⟨raw.typeIs, fun b z => ?_, ?_⟩
  · cases z
    obtain ⟨ob, e1, e2, _⟩ := raw
    exact ⟨ob, e1, e2.2.1⟩
  have J : Inv X pp σ H1 { r1 with heap := r1.heap.push { cls := .type "dict_items", data := .fields #[.ref d] } } := I1.kept (t' := r1.toks) fun b ob z => Heap.get?_push_of_some _ z
  have fin : wpAny (model X.prog X.w) X.A (pyIter (.ref r1.heap.objs.size)) (PIE X pp σ (.Tuple elts kk tpos) R) X.xe { r1 with heap := r1.heap.push { cls := .type "dict_items", data := .fields #[.ref d] } } := by
    refine DT.iterI ⟨_, Heap.get?_push_size _ rfl, rfl, rfl⟩ (raw.push _) (pi_one (tk := r1.toks) J _ (turnT _ hes) ⟨.none, .none, ?_⟩ q)
    rw [← hsz]
    exact Heap.get?_push_size _ rfl
  show wpAny _ _ (callWith cpos (.builtin "dict.items") [.ref d] [] []) _ X.xe r1
  exact method_meetsIn F.slot_dict_items F.entry_dict_items rfl (PySem.evalArgs_none ⟨rfl, raw.typeIs, F.args_dict_items_1 _, _, DT.meetsItems hsb, ⟨raw, fin⟩⟩)
/-- naturals as ints -/
def iN (l : List Nat) : List Int := l.map fun k : Nat => (k : Int)
theorem iN_get {l : List Nat} {i x : Nat} (h : l[i]? = some x) : ((iN l).map V.int)[i]? = some (.int (x : Int)) := by
  unfold iN
  rw [List.getElem?_map, List.getElem?_map, h]
  rfl
theorem iN_length (l : List Nat) : ((iN l).map V.int).length = l.length := by unfold iN; rw [List.length_map, List.length_map]
theorem rg2 {n : Nat} (h : n ≤ 1000) (e : n % 2 = 0) : RgC 0 (n : Int) 2 (n / 2) := by
  have h1 : Builtin.Range.rangeSize 0 (n : Int) 2 = ((n / 2 : Nat) : Int) := by
    unfold Builtin.Range.rangeSize
    rw [if_pos (by decide)]
    split <;> omega
  have f : ∀ z : Int, 0 ≤ z → z ≤ 2000 → Builtin.Range.rangeFitsLong z = true := fun z h0 h2 => by
    unfold Builtin.Range.rangeFitsLong
    rw [Bool.and_eq_true, decide_eq_true_iff, decide_eq_true_iff]
    constructor
    · exact Int.le_trans (by decide) h0
    · exact Int.lt_of_le_of_lt h2 (by decide)
  have f1 := f 0 (by omega) (by omega)
  have f2 := f n (by omega) (by omega)
  have f3 := f 2 (by omega) (by omega)
  have f4 := f ((n / 2 : Nat) : Int) (by omega) (by omega)
  have f5 := f ((n : Int) + (2 - 1)) (by omega) (by omega)
  refine ⟨by decide, by decide, ?_, h1⟩
  unfold Builtin.Range.small
  rw [h1, if_pos (by decide), f1, f2, f3, f4, f5]
  simp
theorem odd_len (es : List Nat) : (!decide (V.int (((((iN es).map V.int).length : Nat) : Int) % 2) = V.int 0)) = decide (es.length % 2 ≠ 0) := by
  rw [iN_length]
  by_cases z : es.length % 2 = 0
  · rw [show ((es.length : Int) % 2) = 0 by omega, decide_eq_false (by omega : ¬ es.length % 2 ≠ 0)]; rfl
  · rw [show ((es.length : Int) % 2) = 1 by omega, decide_eq_true (by omega : es.length % 2 ≠ 0)]; rfl
theorem small2 : (2 : Nat) ≤ sizeLine := by decide
/-- (u, v) <= (p, q), as Python compares tuples -/
theorem lex2 (u v p q : Nat) : Ob.lexAt (fun j => decide (([(u : Int), (v : Int)] : List Int).getD j 0 = ([(p : Int), (q : Int)] : List Int).getD j 0)) (fun j => decide (([(u : Int), (v : Int)] : List Int).getD j 0 ≤ ([(p : Int), (q : Int)] : List Int).getD j 0))
    (decide (([(u : Int), (v : Int)] : List Int).length ≤ ([(p : Int), (q : Int)] : List Int).length)) 0 (min ([(u : Int), (v : Int)] : List Int).length ([(p : Int), (q : Int)] : List Int).length) = decide (¬ ltP (p, q) (u, v)) := by
  show (if decide ((u : Int) = (p : Int)) = true then (if decide ((v : Int) = (q : Int)) = true then decide (2 ≤ 2) else decide ((v : Int) ≤ (q : Int))) else decide ((u : Int) ≤ (p : Int))) = _
  unfold ltP
  show _ = decide (¬ (p < u ∨ (p = u ∧ q < v)))
  by_cases h1 : u = p
  · subst h1
    rw [if_pos (decide_eq_true rfl)]
    by_cases h2 : v = q
    · subst h2
      rw [if_pos (decide_eq_true rfl), decide_eq_true (by decide), decide_eq_true (by omega)]
    · rw [if_neg (by rw [decide_eq_true_iff]; omega)]
      by_cases h3 : v < q
      · rw [decide_eq_true (by omega), decide_eq_true (by omega)]
      · rw [decide_eq_false (by omega), decide_eq_false (by omega)]
  · rw [if_neg (by rw [decide_eq_true_iff]; omega)]
    by_cases h3 : u < p
    · rw [decide_eq_true (by omega), decide_eq_true (by omega)]
    · rw [decide_eq_false (by omega), decide_eq_false (by omega)]
theorem same_upd {H : Hp} {p : Addr} {o : HO} (h : H p = none) : Same H (upd H p o) := fun b x e => by
  rw [upd_ne (ne_of_none e h)]
  exact e
theorem iN_sum : ∀ l : List Nat, (iN l).sum = ((l.sum : Nat) : Int)
  | [] => rfl
  | a :: r => by
    show ((a : Int) :: iN r).sum = (((a :: r).sum : Nat) : Int)
    rw [List.sum_cons, List.sum_cons, iN_sum r]
    omega
theorem eq_int (a b : Nat) : decide (V.int (a : Int) = V.int (b : Int)) = decide (a = b) := by
  by_cases e : a = b
  · subst e; rw [decide_eq_true rfl, decide_eq_true rfl]
  · rw [decide_eq_false e, decide_eq_false (fun z => e (by injection z with z; omega))]
theorem ne_zero (i : Int) : (!decide (V.int i = V.int 0)) = decide (i ≠ 0) := by
  by_cases e : i = 0
  · subst e; rfl
  · rw [decide_eq_true e, decide_eq_false (fun z => e (by injection z))]; rfl
/-! ### pairs of lists -/
theorem pd_get {α β : Type} {F : α → β → Prop} : ∀ {l : List α} {r : List β} {i : Nat} {a : α}, Paired F l r → l[i]? = some a → ∃ b, r[i]? = some b ∧ F a b
  | _, _, _, _, .nil, h => by simp at h
  | _, _, 0, _, .cons q _, h => by
    obtain rfl := Option.some.inj h
    exact ⟨_, rfl, q⟩
  | _, _, i + 1, _, .cons _ q, h => pd_get (i := i) q h
theorem pd_len {α β : Type} {F : α → β → Prop} : ∀ {l : List α} {r : List β}, Paired F l r → l.length = r.length
  | _, _, .nil => rfl
  | _, _, .cons _ q => congrArg (· + 1) (pd_len q)
theorem pd_mono {α β : Type} {F G : α → β → Prop} (f : ∀ a b, F a b → G a b) : ∀ {l : List α} {r : List β}, Paired F l r → Paired G l r
  | _, _, .nil => .nil
  | _, _, .cons h q => .cons (f _ _ h) (pd_mono f q)
theorem pd_app {α β : Type} {F : α → β → Prop} {l' : List α} {r' : List β} (h' : Paired F l' r') : ∀ {l : List α} {r : List β}, Paired F l r → Paired F (l ++ l') (r ++ r')
  | _, _, .nil => h'
  | _, _, .cons h q => .cons h (pd_app h' q)
theorem ref_get {bs : List Addr} {i : Nat} {x : V} (h : (bs.map V.ref)[i]? = some x) : ∃ b, bs[i]? = some b ∧ x = .ref b := by
  rw [List.getElem?_map] at h
  cases e : bs[i]? with
  | none => rw [e] at h; cases h
  | some b => rw [e] at h; exact ⟨b, rfl, (Option.some.inj h).symm⟩
theorem take_more {α : Type} {l : List α} {i : Nat} {x : α} (h : l[i]? = some x) : l.take (i + 1) = l.take i ++ [x] := by
  rw [List.take_add_one, h]; rfl
/-! ### what lies at an address -/
def ConfAt (H : Hp) (b : Addr) (c : List Nat) : Prop := H b = some (.tup ((iN c).map V.int))
def LvlAt (H : Hp) (a : Addr) (L : List (List Nat)) : Prop := ∃ bs : List Addr, H a = some (.lst (bs.map V.ref)) ∧ Paired (ConfAt H) bs L
def MoveAt (H : Hp) (b : Addr) (m : Nat × Nat) : Prop := H b = some (.tup [.int (m.1 : Int), .int (m.2 : Int)])
def MovesAt (H : Hp) (a : Addr) (ms : List (Nat × Nat)) : Prop := ∃ bs : List Addr, H a = some (.lst (bs.map V.ref)) ∧ Paired (MoveAt H) bs ms
theorem LvlAt.same {H H' : Hp} {a : Addr} {L : List (List Nat)} (s : Same H H') (h : LvlAt H a L) : LvlAt H' a L := by
  obtain ⟨bs, h1, h2⟩ := h
  exact ⟨bs, s _ _ h1, pd_mono (fun _ _ z => s _ _ z) h2⟩
theorem MovesAt.same {H H' : Hp} {a : Addr} {ms : List (Nat × Nat)} (s : Same H H') (h : MovesAt H a ms) : MovesAt H' a ms := by
  obtain ⟨bs, h1, h2⟩ := h
  exact ⟨bs, s _ _ h1, pd_mono (fun _ _ z => s _ _ z) h2⟩
theorem movesOf_append (l r : List (Nat × Nat)) : movesOf (l ++ r) = movesOf l ++ movesOf r := by
  induction l with
  | nil => rfl
  | cons e t ih => simp only [List.cons_append, movesOf, ih]
theorem pairsOf_get : ∀ {es : List Nat} {i u v : Nat}, es[2 * i]? = some u → es[2 * i + 1]? = some v → (pairsOf es)[i]? = some (u, v)
  | [], i, u, v, h, _ => by simp at h
  | [x], i, u, v, _, h => by simp at h
  | a :: b :: r, 0, u, v, h, h' => by
    obtain rfl := Option.some.inj h
    obtain rfl := Option.some.inj h'
    rfl
  | a :: b :: r, i + 1, u, v, h, h' => by
    show (pairsOf r)[i]? = some (u, v)
    exact pairsOf_get (es := r) (by simpa [show 2 * (i + 1) = 2 * i + 1 + 1 by omega] using h) (by simpa [show 2 * (i + 1) = 2 * i + 1 + 1 by omega] using h')
theorem pairsOf_len : ∀ {es : List Nat}, (pairsOf es).length = es.length / 2
  | [] => rfl
  | [_] => by simp [pairsOf]
  | u :: v :: r => by
    have := pairsOf_len (es := r)
    show (pairsOf r).length + 1 = (r.length + 1 + 1) / 2
    omega
theorem iN_set (l : List Nat) (i x : Nat) (z : Int) (h : z = (x : Int)) : ((iN l).map V.int).set i (.int z) = (iN (l.set i x)).map V.int := by
  subst h
  unfold iN
  rw [List.map_set, List.map_set]
theorem ixN_at {n j : Nat} (h : j < n) : ixN n (j : Int) = some j := by
  unfold ixN
  rw [if_pos (Int.natCast_nonneg j), if_pos (by omega)]
  rfl
theorem getD_get {l : List Nat} {i : Nat} (h : i < l.length) : l[i]? = some (l.getD i 0) := by
  rw [List.getElem?_eq_getElem h, List.getD_eq_getElem?_getD, List.getElem?_eq_getElem h]; rfl
/-! ### keys -/
def keyN (c : List Nat) : List L2.Key := (iN c).map Sum.inl
theorem keyN_kV (c : List Nat) : (keyN c).map kV = (iN c).map V.int := by
  unfold keyN
  rw [List.map_map]
  rfl
theorem iN_inj : ∀ {a b : List Nat}, iN a = iN b → a = b
  | [], [], _ => rfl
  | [], _ :: _, h => by cases h
  | _ :: _, [], h => by cases h
  | x :: a, y :: b, h => by
    have h' : (x : Int) :: iN a = (y : Int) :: iN b := h
    injection h' with h1 h2
    rw [iN_inj h2, Int.ofNat.inj h1]
theorem keyN_inj {a b : List Nat} (h : keyN a = keyN b) : a = b := by
  refine iN_inj ?_
  have h2 : (keyN a).map kV = (keyN b).map kV := by rw [h]
  rw [keyN_kV, keyN_kV] at h2
  generalize iN a = x at h2
  generalize iN b = y at h2
  induction x generalizing y with
  | nil => cases y with
    | nil => rfl
    | cons _ _ => cases h2
  | cons p r ih => cases y with
    | nil => cases h2
    | cons q t =>
      simp only [List.map_cons, List.cons.injEq, V.int.injEq] at h2
      rw [h2.1, ih t h2.2]
/-- d[key] = v, by the keys alone -/
theorem putK_keys {kvs : List (List L2.Key × V)} {acc : List (List Nat)} {y : List Nat} {v : V} (h : kvs.map (·.1) = acc.map keyN) : (putK kvs (keyN y) v).map (·.1) = (ins acc y).map keyN := by
  have e : (kvs.any fun kv => decide (kv.1 = keyN y)) = decide (y ∈ acc) := by
    by_cases z : y ∈ acc
    · rw [decide_eq_true z, List.any_eq_true]
      have hm : keyN y ∈ kvs.map (·.1) := by rw [h]; exact List.mem_map.mpr ⟨y, z, rfl⟩
      obtain ⟨p, hp, e⟩ := List.mem_map.mp hm
      exact ⟨p, hp, decide_eq_true e⟩
    · rw [decide_eq_false z, List.any_eq_false]
      intro p hp q
      have hm : p.1 ∈ kvs.map (·.1) := List.mem_map.mpr ⟨p, hp, rfl⟩
      rw [h] at hm
      obtain ⟨c, hc, e⟩ := List.mem_map.mp hm
      have e2 : keyN c = keyN y := e.trans (of_decide_eq_true q)
      exact z (keyN_inj e2 ▸ hc)
  unfold putK ins
  rw [e]
  by_cases z : y ∈ acc
  · rw [if_pos (decide_eq_true z), if_pos z, ← h, List.map_map]
    refine List.map_congr_left fun kv _ => ?_
    show (if kv.1 = keyN y then (kv.1, v) else kv).1 = kv.1
    split <;> rfl
  · rw [if_neg (by rw [decide_eq_true_iff]; exact z), if_neg z, List.map_append, List.map_append, h]
    rfl
theorem isKeys_conf {H : Hp} : ∀ {kvs : List (List L2.Key × V)} {bs : List Addr} {M : List (List Nat)}, IsKeys H kvs bs → kvs.map (·.1) = M.map keyN → Paired (ConfAt H) bs M
  | _, _, [], .nil, _ => .nil
  | _, _, _ :: _, .nil, h => by cases h
  | _, _, [], .cons _ _, h => by cases h
  | _, _, c :: M, .cons q r, h => by
    simp only [List.map_cons, List.cons.injEq] at h
    refine .cons ?_ (isKeys_conf r h.2)
    unfold ConfAt
    rw [q, h.1, keyN_kV]
theorem succs_more {ms : List (Nat × Nat)} {j : Nat} {m : Nat × Nat} (h : ms[j]? = some m) (c : List Nat) : succs (ms.take (j + 1)) c = if 2 ≤ c.getD m.1 0 then succs (ms.take j) c ++ [Ks577.move c m.1 m.2] else succs (ms.take j) c := by
  unfold succs
  rw [take_more h, List.filter_append, List.map_append]
  by_cases z : 2 ≤ c.getD m.1 0
  · rw [if_pos z, List.filter_cons, if_pos (decide_eq_true z)]; rfl
  · rw [if_neg z, List.filter_cons, if_neg (by rw [decide_eq_true_iff]; exact z)]
    simp
theorem dd_one (acc : List (List Nat)) (y : List Nat) : dd acc [y] = ins acc y := rfl
theorem dd_length_at (ms : List (Nat × Nat)) (L : List (List Nat)) (c : List Nat) {i j : Nat} (hi : i < L.length) (hj : j < ms.length) :
    (dd (dd [] ((L.take i).flatMap (succs ms))) (succs (ms.take j) c)).length < L.length * ms.length := by
  have h1 := length_dd (succs (ms.take j) c) (dd [] ((L.take i).flatMap (succs ms)))
  have h2 := length_dd ((L.take i).flatMap (succs ms)) []
  have h3 := flat_length ms (L.take i)
  have h4 := succs_length (ms.take j) c
  rw [List.length_take] at h3 h4
  have h5 : (i + 1) * ms.length ≤ L.length * ms.length := Nat.mul_le_mul_right _ hi
  have h6 : min i L.length = i := by omega
  rw [h6] at h3
  rw [Nat.succ_mul] at h5
  have h7 : ([] : List (List Nat)).length = 0 := rfl
  omega
theorem walk_pairsT {d : Addr} {o : Obj} {kvs : List (List L2.Key × V)} : Walk (ItT d o kvs) kvs.length (fun H => H d = some (.frz o (.dT kvs)))
    (fun i H x H' => ∃ T q k v, kvs[i]? = some (k, v) ∧ x = .ref T ∧ H T = none ∧ H q = some (.tup (k.map kV)) ∧ H' = upd H T (.tup [.ref q, v])) :=
  ⟨fun _ _ h g => ⟨g, h⟩, fun _ g => ⟨g, Nat.le_refl _⟩, fun _ _ _ _ _ _ y => y⟩
/-! ### levels as they lie: a dict, its keys configurations, its values sequences -/
def flatN (s : Sq) : List Nat := s.flatMap fun m => [m.1, m.2]
theorem flatN_length : ∀ s : Sq, (flatN s).length = 2 * s.length
  | [] => rfl
  | m :: r => by
    have := flatN_length r
    show (m.1 :: m.2 :: flatN r).length = _
    rw [List.length_cons, List.length_cons, List.length_cons]; omega
def SeqAt (H : Hp) (v : V) (s : Sq) : Prop := ∃ q, v = .ref q ∧ H q = some (.tup ((iN (flatN s)).map V.int))
def EntAt (H : Hp) (kv : List L2.Key × V) (p : List Nat × Sq) : Prop := kv.1 = keyN p.1 ∧ SeqAt H kv.2 p.2
def Lv (H : Hp) (a : Addr) (L : List (List Nat × Sq)) : Prop := ∃ kvs, H a = some (.dT kvs) ∧ Paired (EntAt H) kvs L
/-- the tuples stay -/
def Tups (H H' : Hp) : Prop := ∀ b xs, H b = some (.tup xs) → H' b = some (.tup xs)
theorem Tups.of {H H' : Hp} (s : Same H H') : Tups H H' := fun b xs e => s b _ e
theorem Tups.trans {H H' H'' : Hp} (s : Tups H H') (t : Tups H' H'') : Tups H H'' := fun b xs e => t b _ (s b _ e)
theorem Tups.upd {H : Hp} {a : Addr} {o : HO} (h : ∀ xs, H a ≠ some (.tup xs)) : Tups H (upd H a o) := fun b xs e => by
  rw [upd_ne (fun z => h xs (by rw [← z]; exact e))]; exact e
theorem EntAt.tups {H H' : Hp} (t : Tups H H') (kv : List L2.Key × V) (p : List Nat × Sq) (h : EntAt H kv p) : EntAt H' kv p := by
  obtain ⟨h1, q, h2, h3⟩ := h
  exact ⟨h1, q, h2, t _ _ h3⟩
theorem Lv.same {H H' : Hp} {a : Addr} {L : List (List Nat × Sq)} (s : Same H H') (h : Lv H a L) : Lv H' a L := by
  obtain ⟨kvs, h1, h2⟩ := h
  exact ⟨kvs, s _ _ h1, pd_mono (EntAt.tups (Tups.of s)) h2⟩
theorem ent_none {H : Hp} {c : List Nat} : ∀ {kvs : List (List L2.Key × V)} {L : List (List Nat × Sq)}, Paired (EntAt H) kvs L → (valV kvs (keyN c) = none ↔ c ∉ L.map (·.1))
  | _, _, .nil => by simp [valV_nil]
  | kv :: r, p :: L, .cons q t => by
    rw [List.map_cons, List.mem_cons]
    by_cases e : c = p.1
    · rw [valV_pos (by rw [q.1, e])]
      simp [e]
    · rw [valV_neg (by rw [q.1]; exact fun z => e (keyN_inj z).symm), ent_none t]
      simp [e]
theorem ent_put {H : Hp} {c : List Nat} {s : Sq} {v : V} {kvs : List (List L2.Key × V)} {L : List (List Nat × Sq)} (n : valV kvs (keyN c) = none) (hv : SeqAt H v s) (h : Paired (EntAt H) kvs L) :
    Paired (EntAt H) (putK kvs (keyN c) v) (insS L (c, s)) := by
  rw [putK_new v n]
  unfold insS
  rw [if_neg ((ent_none h).mp n)]
  exact pd_app (.cons ⟨rfl, hv⟩ .nil) h
theorem ent_stay {H : Hp} {c : List Nat} {s : Sq} {w : V} {kvs : List (List L2.Key × V)} {L : List (List Nat × Sq)} (n : valV kvs (keyN c) = some w) (h : Paired (EntAt H) kvs L) : insS L (c, s) = L := by
  unfold insS
  refine if_pos ?_
  by_cases z : c ∈ L.map (·.1)
  · exact z
  · have := (ent_none h).mpr z
    rw [n] at this; cases this
theorem steps_more {ms : Sq} {j : Nat} {m : Nat × Nat} (h : ms[j]? = some m) (p : List Nat × Sq) : steps (ms.take (j + 1)) p = if 2 ≤ p.1.getD m.1 0 then steps (ms.take j) p ++ [(Ks577.move p.1 m.1 m.2, p.2 ++ [m])] else steps (ms.take j) p := by
  unfold steps
  rw [take_more h, List.filter_append, List.map_append]
  by_cases z : 2 ≤ p.1.getD m.1 0
  · rw [if_pos z, List.filter_cons, if_pos (decide_eq_true z)]; rfl
  · rw [if_neg z, List.filter_cons, if_neg (by rw [decide_eq_true_iff]; exact z)]
    simp
theorem ddS_length_at (ms : Sq) (L : List (List Nat × Sq)) (p : List Nat × Sq) {i j : Nat} (hi : i < L.length) (hj : j < ms.length) :
    (ddS (ddS [] ((L.take i).flatMap (steps ms))) (steps (ms.take j) p)).length < L.length * ms.length := by
  have q := dd_length_at ms (L.map (·.1)) p.1 (i := i) (j := j) (by rw [List.length_map]; exact hi) hj
  rw [List.length_map] at q
  have e : (ddS (ddS [] ((L.take i).flatMap (steps ms))) (steps (ms.take j) p)).map (·.1) = dd (dd [] (((L.map (·.1)).take i).flatMap (succs ms))) (succs (ms.take j) p.1) := by
    rw [ddS_keys, ddS_keys, flat_keys, steps_keys, List.map_take]; rfl
  have := congrArg List.length e
  rw [List.length_map] at this
  omega
theorem mem_ddS {x : List Nat × Sq} : ∀ {l acc : List (List Nat × Sq)}, x ∈ ddS acc l → x ∈ acc ∨ x ∈ l
  | [], acc, h => .inl h
  | p :: r, acc, h => by
    rcases mem_ddS (l := r) (acc := insS acc p) h with h | h
    · unfold insS at h
      by_cases z : p.1 ∈ acc.map (·.1)
      · rw [if_pos z] at h; exact .inl h
      · rw [if_neg z] at h
        rcases List.mem_append.mp h with h | h
        · exact .inl h
        · exact .inr (by rw [List.mem_singleton.mp h]; exact List.mem_cons_self ..)
    · exact .inr (List.mem_cons_of_mem _ h)
/-- a level of the search: its configurations, and as many moves behind each as were made -/
structure LvOk (n g e : Nat) (L : List (List Nat × Sq)) : Prop where
  lvl : Lvl n g (L.map (·.1))
  nd : (L.map (·.1)).Nodup
  len : ∀ p ∈ L, p.2.length + g = e
theorem LvOk.next {G : Ks577.Graph} {g e : Nat} {L : List (List Nat × Sq)} (h : LvOk G.vertexCount (g + 1) e L) : LvOk G.vertexCount g e (nextS (allM G) L) := by
  refine ⟨?_, ?_, fun p hp => ?_⟩
  · rw [nextS_keys, next_all]; exact h.lvl.nextE
  · rw [nextS_keys]; exact nodup_nextL _ _
  · rcases mem_ddS hp with z | z
    · cases z
    · obtain ⟨q, hq, z⟩ := List.mem_flatMap.mp z
      obtain ⟨m, _, rfl⟩ := List.mem_map.mp z
      have := h.len q hq
      show (q.2 ++ [m]).length + g = e
      rw [List.length_append, List.length_singleton]; omega
theorem LvOk.start {n : Nat} {c : List Nat} (h : c.length = n) : LvOk n (c.sum + 1) (c.sum + 1) [(c, [])] := by
  refine ⟨Lvl.one h, List.nodup_cons.mpr ⟨by simp, List.nodup_nil⟩, fun p hp => ?_⟩
  rw [List.mem_singleton.mp hp]
  show 0 + _ = _
  omega
theorem LvOk.short {n g e : Nat} {L : List (List Nat × Sq)} (h : LvOk n g e L) (hn : n ≤ 5) (hg : g ≤ 13) : L.length ≤ 371293 := by
  have := h.lvl.short hn hg h.nd
  rw [List.length_map] at this
  exact this
theorem LvOk.pos {n g e : Nat} {L : List (List Nat × Sq)} (h : LvOk n g e L) (hL : L ≠ []) : ∃ g', g = g' + 1 := h.lvl.pos fun z => hL (List.map_eq_nil_iff.mp z)
theorem LvOk.at {n g e : Nat} {L : List (List Nat × Sq)} (h : LvOk n g e L) {p : List Nat × Sq} (hp : p ∈ L) : p.1.length = n := (h.lvl p.1 (List.mem_map.mpr ⟨p, hp, rfl⟩)).1
theorem none_of {H H' : Hp} {a : Addr} (s : Same H H') (h : H' a = none) : H a = none := by
  cases e : H a with
  | none => rfl
  | some x => rw [s _ _ e] at h; cases h
/-- {tuple(pebbles): ()} -/
theorem lv_start {H : Hp} {d l t : Addr} {ps : List Nat} (nd : H d = none) (nl : upd H d (.dT []) l = none) (nt : upd (upd H d (.dT [])) l (.tup ((iN ps).map V.int)) t = none) :
    (upd (upd (upd H d (.dT [])) l (.tup ((iN ps).map V.int))) t (.tup [])) d = some (.dT []) ∧ (upd (upd (upd H d (.dT [])) l (.tup ((iN ps).map V.int))) t (.tup [])) l = some (.tup ((keyN ps).map kV)) ∧
    Same H (upd (upd (upd (upd H d (.dT [])) l (.tup ((iN ps).map V.int))) t (.tup [])) d (.dT [(keyN ps, .ref t)])) ∧
    Lv (upd (upd (upd (upd H d (.dT [])) l (.tup ((iN ps).map V.int))) t (.tup [])) d (.dT [(keyN ps, .ref t)])) d [(ps, [])] := by
  have dl : d ≠ l := ne_of_none (H := upd H d (.dT [])) upd_same nl
  have h1 : (upd (upd H d (.dT [])) l (.tup ((iN ps).map V.int))) d = some (.dT []) := by rw [upd_ne dl, upd_same]
  have dt : d ≠ t := ne_of_none h1 nt
  have lt : l ≠ t := ne_of_none (H := upd (upd H d (.dT [])) l (.tup ((iN ps).map V.int))) upd_same nt
  refine ⟨by rw [upd_ne dt]; exact h1, by rw [upd_ne lt, upd_same, keyN_kV], fun b x e => ?_, [(keyN ps, .ref t)], upd_same, .cons ⟨rfl, t, rfl, ?_⟩ .nil⟩
  · have e1 : (upd H d (.dT [])) b = some x := by rw [upd_ne (ne_of_none e nd)]; exact e
    have e2 : (upd (upd H d (.dT [])) l (.tup ((iN ps).map V.int))) b = some x := by rw [upd_ne (ne_of_none e1 nl)]; exact e1
    rw [upd_ne (ne_of_none e nd), upd_ne (ne_of_none e2 nt)]
    exact e2
  · rw [upd_ne dt.symm, upd_same]; rfl
theorem upd_back {H : Hp} {a : Addr} {o : HO} (h : H a = some o) : upd H a o = H := funext fun b => by
  by_cases e : b = a
  · rw [e, upd_same, h]
  · rw [upd_ne e]
theorem scEdges : FnScope ["vertex_count", "edges", "previous", "k", "pair"] ["vertex_count", "edges"] (defScope sEdges) := ⟨rfl, rfl, rfl, by decide +kernel, rfl, by decide +kernel, by decide +kernel⟩
section
variable {P : Program} {w : World} {K : PySem.W.Frag} {mg : Str → Option Value} {base : Heap}
def spEdges (K : PySem.W.Frag) : Sp := fun vs H Q _ => ∃ (a : Addr) (n : Nat) (es : List Nat), vs = [.int (n : Int), .ref a] ∧ SqL K H a ((iN es).map V.int) ∧ es.length ≤ 1000 ∧
  ∀ H', Same H H' → Q (.bl (edgesFit n es)) H'
theorem ok_edges {f : Addr} {fd : FuncData} {k : Nat} (F : Fun K "edges_fit" "edges_fit" sEdges f fd) (ml : mg "len" = none) (mr : mg "range" = none) : FnOk P w K mg base CX0 (k + 1) f fd ["vertex_count", "edges"] (spEdges K) := by
  refine F.ok scEdges (fun vs H Q E h => ?_) (fun cdv A outer s H vs Q E hr h => ?_)
  · obtain ⟨a, n, es, rfl, _⟩ := h
    rfl
  · obtain ⟨a, n, es, rfl, hS, hlen, q⟩ := h
    have hu1 := hu_of hr
    refine ⟨_, pss_cons (ps_if (pt_cmpR op_ne (pe_op op_mod (pe_callB call_len_seq (by rfl) ml PySem.boot_len (pa_cons (pv 1) pa_nil)) pe_int) pe_int (nomark _)) (pss_one (ps_ret pe_bl)) pss_nil)
      (pss_cons (ps_set (i := 2) scEdges.nd rfl (.inl rfl) (pe_tup (pa_cons pe_int (pa_cons pe_int pa_nil))))
      (pss_cons (ps_for PassesOwn.never rfl (pi_range3 rfl mr (pa_cons pe_int (pa_cons (pe_callB call_len_seq (by rfl) ml PySem.boot_len (pa_cons (pv 1) pa_nil)) (pa_cons pe_int pa_nil)))) (pg_name (i := 3) scEdges.nd rfl (.inl rfl))
        (pss_cons (ps_set (i := 4) scEdges.nd rfl (.inl rfl) (pe_tup (pa_cons (pe_ix ix_list (pv 1) (pv 3) (fun _ _ => rfl)) (pa_cons (pe_ix ix_list (pv 1) (pe_op op_add (pv 3) pe_int) (fun _ _ => rfl)) pa_nil))))
        (pss_cons (ps_if (PW.pt (pw_or (pt_cmpR op_ge (pe_ix ix_tup (pv 4) pe_int (fun _ _ => rfl)) (pe_ix ix_tup (pv 4) pe_int (fun _ _ => rfl)) (nomark _))
            (pw_or (pt_cmpR op_ge (pe_ix ix_tup (pv 4) pe_int (fun _ _ => rfl)) (pv 0) (nomark _)) (pw_or1 (pt_cmpR (op_leT hr.units0) (pv 4) (pv 2) (nomark _))))))
            (pss_one (ps_ret pe_bl)) pss_nil)
        (pss_one (ps_set (i := 2) scEdges.nd rfl (.inl rfl) (pv 4))))))
      (pss_one (ps_ret pe_bl)))), ?_⟩
    -- if len(edges) % 2 != 0
    refine ⟨.ref a, rfl, a, _, rfl, .inl hS, _, _, rfl, rfl, (by show (0 : Int) < 2; decide), rfl, _, rfl, ite2 (fun e => ?_) (fun e => ?_)⟩
    · have e1 : es.length % 2 ≠ 0 := of_decide_eq_true ((odd_len es).symm.trans e)
      have e2 : edgesFit n es = false := by unfold edgesFit; rw [decide_eq_false e1]; rfl
      have := q H (Same.refl H)
      rw [e2] at this
      exact this
    · have e1 : es.length % 2 = 0 := by
        by_cases z : es.length % 2 = 0
        · exact z
        · exact absurd ((odd_len es).trans (decide_eq_true z)) e
      have e2 : edgesFit n es = fitsFrom n (0, 0) es := by unfold edgesFit; rw [decide_eq_true e1]; rfl
      rw [e2] at q
      -- previous = (0, 0)
      refine ⟨small2, fun o no => ?_⟩
      have s1 : Same H (upd H o (.tup [.int 0, .int 0])) := same_upd no
      -- for k in range(0, len(edges), 2)
      refine ⟨.ref a, rfl, a, _, rfl, .inl (s1.seq hS), 0, _, 2, es.length / 2, rfl, by rw [iN_length]; exact rg2 hlen e1,
        for_rangeC (lo := 0) (c := 2) (n := es.length / 2) (fun i σ H3 => ∃ pr p1 p2 y3 y4, σ = [some (.int (n : Int)), some (.ref a), some (.ref pr), y3, y4] ∧ Same H H3 ∧ H3 pr = some (.tup [.int ((p1 : Nat) : Int), .int ((p2 : Nat) : Int)]) ∧ fitsFrom n (0, 0) es = fitsFrom n (p1, p2) (es.drop (2 * i)))
          ⟨o, 0, 0, none, none, rfl, s1, upd_same, rfl⟩ ?_ ?_⟩
      · rintro i σ H3 hi ⟨pr, p1, p2, y3, y4, rfl, s3, hp, hf⟩
        have h0 : 2 * i < es.length := by omega
        have h1 : 2 * i + 1 < es.length := by omega
        have g0 : es[2 * i]? = some es[2 * i] := List.getElem?_eq_getElem h0
        have g1 : es[2 * i + 1]? = some es[2 * i + 1] := List.getElem?_eq_getElem h1
        generalize es[2 * i] = u at g0
        generalize es[2 * i + 1] = v at g1
        have hd : es.drop (2 * i) = u :: v :: es.drop (2 * (i + 1)) := by
          rw [List.drop_eq_getElem_cons h0, List.drop_eq_getElem_cons h1, show 2 * i + 1 + 1 = 2 * (i + 1) by omega]
          rw [List.getElem?_eq_getElem h0] at g0
          rw [List.getElem?_eq_getElem h1] at g1
          rw [Option.some.inj g0, Option.some.inj g1]
        have hS3 := s3.seq hS
        -- pair = (edges[k], edges[k + 1])
        refine ⟨.ref a, rfl, _, rfl, a, _, _, _, rfl, rfl, hS3, at_of (by show (0 : Int) + (i : Int) * 2 = ((2 * i : Nat) : Int); omega) (iN_get g0), .ref a, rfl, _, rfl, _, _, rfl, rfl, a, _, _, _, rfl, rfl, hS3, at_of (by show (0 : Int) + (i : Int) * 2 + 1 = ((2 * i + 1 : Nat) : Int); omega) (iN_get g1), small2, fun t nt => ?_⟩
        have s4 : Same H3 (upd H3 t (.tup [.int (u : Int), .int (v : Int)])) := same_upd nt
        have hT : SqT K (upd H3 t (.tup [.int (u : Int), .int (v : Int)])) t [.int (u : Int), .int (v : Int)] := SqT.of upd_same
        have hP : SqT K (upd H3 t (.tup [.int (u : Int), .int (v : Int)])) pr [.int (p1 : Int), .int (p2 : Int)] := SqT.of (s4 _ _ hp)
        have bad : (v ≤ u ∨ n ≤ v ∨ ¬ ltP (p1, p2) (u, v)) → Q (.bl false) (upd H3 t (.tup [.int (u : Int), .int (v : Int)])) := fun z => by
          have := q _ (s3.trans s4)
          rw [hf, hd, fits_bad z] at this
          exact this
        -- pair[0] >= pair[1]
        refine ⟨.ref t, rfl, t, _, 0, .int (u : Int), rfl, rfl, hT, rfl, .ref t, rfl, t, _, 1, .int (v : Int), rfl, rfl, hT, rfl, _, _, rfl, rfl, _, rfl, ite2 (fun c1 => ?_) (fun c1 => ?_)⟩
        · rw [decide_eq_true_iff] at c1
          exact iteT (bad (.inl (by omega)))
        rw [decide_eq_true_iff] at c1
        -- pair[1] >= vertex_count
        refine ⟨.ref t, rfl, t, _, 1, .int (v : Int), rfl, rfl, hT, rfl, _, rfl, _, _, rfl, rfl, _, rfl, ite2 (fun c2 => ?_) (fun c2 => ?_)⟩
        · rw [decide_eq_true_iff] at c2
          exact iteT (bad (.inr (.inl (by omega))))
        rw [decide_eq_true_iff] at c2
        -- pair <= previous
        refine ⟨.ref t, rfl, .ref pr, rfl, t, pr, [(u : Int), (v : Int)], [(p1 : Int), (p2 : Int)], rfl, rfl, hT, hP, _, rfl, ?_⟩
        rw [lex2]
        refine ite2 (fun c3 => ?_) (fun c3 => ?_)
        · exact bad (.inr (.inr (of_decide_eq_true c3)))
        rw [decide_eq_true_iff] at c3
        refine ⟨_, rfl, t, u, v, _, _, rfl, s3.trans s4, upd_same, ?_⟩
        rw [hf, hd, fits_good]
        simp only [not_or]
        exact ⟨by omega, by omega, c3⟩
      · rintro σ H3 ⟨pr, p1, p2, y3, y4, rfl, s3, hp, hf⟩
        have := q H3 s3
        rw [hf, show 2 * (es.length / 2) = es.length by omega, List.drop_length] at this
        exact this
end
theorem scPebbles : FnScope ["vertex_count", "pebbles"] ["vertex_count", "pebbles"] (defScope sPebbles) := ⟨rfl, rfl, rfl, by decide +kernel, rfl, by decide +kernel, by decide +kernel⟩
section
variable {P : Program} {w : World} {K : PySem.W.Frag} {mg : Str → Option Value} {base : Heap}
/-! ### pebbles_fit -/
def spPebbles (K : PySem.W.Frag) : Sp := fun vs H Q _ => ∃ (a : Addr) (n : Nat) (ps : List Nat), vs = [.int (n : Int), .ref a] ∧ SqL K H a ((iN ps).map V.int) ∧ Q (.bl (okP n ps)) H
theorem ok_pebbles {f : Addr} {fd : FuncData} {k : Nat} {t : Tok} (F : Fun K "pebbles_fit" "pebbles_fit" sPebbles f fd) (ml : mg "len" = none) (ms : mg "sum" = none) (mP : mg "MAX_PEBBLES" = some (.int 12 t)) : FnOk P w K mg base CX0 (k + 1) f fd ["vertex_count", "pebbles"] (spPebbles K) := by
  refine F.ok scPebbles (fun vs H Q E h => ?_) (fun cdv A outer s H vs Q E hr h => ?_)
  · obtain ⟨a, n, ps, rfl, _⟩ := h
    rfl
  · obtain ⟨a, n, ps, rfl, hS, q⟩ := h
    refine ⟨_, pss_one (ps_ret (pe_and (pe_cmpR op_eq (pe_callB call_len_seq (by rfl) ml PySem.boot_len (pa_cons (pv 1) pa_nil)) (pv 0) (nomark _))
      (pe_one (pe_cmpR op_le (pe_callB (cr_sum rfl) (by rfl) ms PyProof.Rows.boot_sum (pa_cons (pv 1) pa_nil)) (pe_glob (v := .int 12) rfl mP ⟨_, rfl⟩) (nomark _))))), ?_⟩
    refine ⟨.ref a, rfl, a, _, rfl, .inl hS, _, rfl, rfl, _, rfl, ?_⟩
    rw [iN_length, eq_int]
    unfold okP at q
    refine ite2 (fun e => ?_) (fun e => ?_)
    · rw [e, Bool.true_and] at q
      refine ⟨.ref a, rfl, a, iN ps, rfl, hS, _, _, rfl, rfl, ?_⟩
      show Q (.bl (decide ((iN ps).sum ≤ 12))) H
      have e2 : decide ((iN ps).sum ≤ 12) = decide (ps.sum ≤ 12) := by
        rw [iN_sum]
        by_cases z : ps.sum ≤ 12
        · rw [decide_eq_true z, decide_eq_true (by omega)]
        · rw [decide_eq_false z, decide_eq_false (by omega)]
      rw [e2]
      exact q
    · rw [Bool.not_eq_true] at e
      rw [e, Bool.false_and] at q
      exact q
end
theorem scLimits : FnScope ["vertex_count", "edges", "pebbles"] ["vertex_count", "edges", "pebbles"] (defScope sLimits) := ⟨rfl, rfl, rfl, by decide +kernel, rfl, by decide +kernel, by decide +kernel⟩
/-- the first error of the limits -/
def limErr (n : Nat) (es ps : List Nat) : Int := if okAll n es ps = true then 0 else -22
section
variable {P : Program} {w : World} {K : PySem.W.Frag} {mg : Str → Option Value} {base : Heap}
/-! ### limits_error -/
def spLimits (K : PySem.W.Frag) : Sp := fun vs H Q _ => ∃ (a b : Addr) (n : Nat) (es ps : List Nat), vs = [.int (n : Int), .ref a, .ref b] ∧ SqL K H a ((iN es).map V.int) ∧ es.length ≤ 1000 ∧ SqL K H b ((iN ps).map V.int) ∧
  ∀ H', Same H H' → Q (.int (limErr n es ps)) H'
theorem ok_limits {f fE fP : Addr} {fd fdE fdP : FuncData} {k : Nat} {t : Tok} (F : Fun K "limits_error" "limits_error" sLimits f fd)
    (GE : FnOk P w K mg base CX0 (k + 1) fE fdE ["vertex_count", "edges"] (spEdges K)) (kE : PySem.W.keepIn K (.ref fE) = true) (bE : Binds K fdE ["vertex_count", "edges"] []) (gE : mg "edges_fit" = some (.ref fE))
    (GP : FnOk P w K mg base CX0 (k + 1) fP fdP ["vertex_count", "pebbles"] (spPebbles K)) (kP : PySem.W.keepIn K (.ref fP) = true) (bP : Binds K fdP ["vertex_count", "pebbles"] []) (gP : mg "pebbles_fit" = some (.ref fP))
    (mV : mg "MAX_VERTICES" = some (.int 5 t)) : FnOk P w K mg base CX0 (k + 2) f fd ["vertex_count", "edges", "pebbles"] (spLimits K) := by
  refine F.ok scLimits (fun vs H Q E h => ?_) (fun cdv A outer s H vs Q E hr h => ?_)
  · obtain ⟨a, b, n, es, ps, rfl, _⟩ := h
    rfl
  · obtain ⟨a, b, n, es, ps, rfl, hS, hlen, hT, q⟩ := h
    refine ⟨_, pss_cons (ps_if (PW.pt (pw_or (pt_cmpR op_lt (pv 0) pe_int (nomark _)) (pw_or1 (pt_cmpR op_gt (pv 0) (pe_glob (v := .int 5) rfl mV ⟨_, rfl⟩) (nomark _))))) (pss_one (ps_ret (pe_un un_neg pe_int))) pss_nil)
      (pss_cons (ps_if (pt_not (pt_val (pe_call GE hr (by rfl) gE kE bE .nil pass0 (pa_cons (pv 0) (pa_cons (pv 1) pa_nil))))) (pss_one (ps_ret (pe_un un_neg pe_int))) pss_nil)
      (pss_cons (ps_if (pt_not (pt_val (pe_call GP hr (by rfl) gP kP bP .nil pass0 (pa_cons (pv 0) (pa_cons (pv 2) pa_nil))))) (pss_one (ps_ret (pe_un un_neg pe_int))) pss_nil)
      (pss_one (ps_ret pe_int)))), ?_⟩
    have bad : okAll n es ps = false → ∀ H', Same H H' → Q (.int (-22)) H' := fun z H' s' => by
      have := q H' s'
      unfold limErr at this
      rw [if_neg (by rw [z]; exact Bool.false_ne_true)] at this
      exact this
    -- vertex_count < 1
    refine ⟨_, rfl, _, _, rfl, rfl, _, rfl, ite2 (fun c1 => ?_) (fun c1 => ?_)⟩
    · rw [decide_eq_true_iff] at c1
      refine iteT ⟨_, rfl, bad ?_ H (Same.refl H)⟩
      unfold okAll okN
      rw [decide_eq_false (by omega : ¬ 1 ≤ n)]; rfl
    rw [decide_eq_true_iff] at c1
    refine ⟨_, rfl, _, _, rfl, rfl, _, rfl, ite2 (fun c2 => ?_) (fun c2 => ?_)⟩
    · rw [decide_eq_true_iff] at c2
      refine ⟨_, rfl, bad ?_ H (Same.refl H)⟩
      unfold okAll okN
      rw [decide_eq_false (by omega : ¬ n ≤ 5), Bool.and_false]; rfl
    rw [decide_eq_true_iff] at c2
    have hn : okN n = true := by
      unfold okN
      rw [decide_eq_true (by omega : 1 ≤ n), decide_eq_true (by omega : n ≤ 5)]; rfl
    -- not edges_fit(..)
    refine ⟨_, rfl, _, rfl, a, n, es, rfl, hS, hlen, fun H1 s1 => ⟨_, rfl, ite2 (fun c3 => ?_) (fun c3 => ?_)⟩⟩
    · rw [Bool.not_eq_true'] at c3
      refine ⟨_, rfl, bad ?_ H1 s1⟩
      unfold okAll
      rw [c3, Bool.and_false]; rfl
    rw [Bool.not_eq_true', Bool.not_eq_false] at c3
    -- not pebbles_fit(..)
    refine ⟨_, rfl, _, rfl, b, n, ps, rfl, s1.seq hT, _, rfl, ite2 (fun c4 => ?_) (fun c4 => ?_)⟩
    · rw [Bool.not_eq_true'] at c4
      refine ⟨_, rfl, bad ?_ H1 s1⟩
      unfold okAll
      rw [c4, Bool.and_false]
    rw [Bool.not_eq_true', Bool.not_eq_false] at c4
    have := q H1 s1
    unfold limErr okAll at this
    rw [hn, c3, c4] at this
    exact this
end
theorem lim_ok {n : Nat} {es ps : List Nat} (h : limErr n es ps = 0) : Ok n es ps := by
  unfold limErr at h
  by_cases c : okAll n es ps = true
  · exact ok_of c
  · rw [if_neg c] at h; cases h
theorem lim_due (n : Nat) (es ps : List Nat) (F : Ks577.Graph → Ks577.Configuration → Ks577.Result) :
    Ks577Neutral.integers (Ks577.withConfiguration n es ps F) = if limErr n es ps = 0 then Ks577Neutral.integers (F ⟨n, pairsOf es⟩ ps) else [limErr n es ps] := by
  rw [with_is]
  unfold limErr
  by_cases c : okAll n es ps = true
  · rw [if_pos c, if_pos c, if_pos rfl]
  · rw [if_neg c, if_neg c, if_neg (by decide)]; rfl
theorem scTarget : FnScope ["vertex_count", "target", "edges", "pebbles", "error"] ["vertex_count", "target", "edges", "pebbles"] (defScope sTarget) := ⟨rfl, rfl, rfl, by decide +kernel, rfl, by decide +kernel, by decide +kernel⟩
def tgtErr (n t : Nat) (es ps : List Nat) : Int := if okAll n es ps = true then (if n ≤ t then -2 else 0) else -22
section
variable {P : Program} {w : World} {K : PySem.W.Frag} {mg : Str → Option Value} {base : Heap}
/-! ### target_error -/
def spTarget (K : PySem.W.Frag) : Sp := fun vs H Q _ => ∃ (a b : Addr) (n t : Nat) (es ps : List Nat), vs = [.int (n : Int), .int (t : Int), .ref a, .ref b] ∧ SqL K H a ((iN es).map V.int) ∧ es.length ≤ 1000 ∧ SqL K H b ((iN ps).map V.int) ∧
  ∀ H', Same H H' → Q (.int (tgtErr n t es ps)) H'
theorem ok_target {f fL : Addr} {fd fdL : FuncData} {k : Nat} (F : Fun K "target_error" "target_error" sTarget f fd)
    (GL : FnOk P w K mg base CX0 (k + 2) fL fdL ["vertex_count", "edges", "pebbles"] (spLimits K)) (kL : PySem.W.keepIn K (.ref fL) = true) (bL : Binds K fdL ["vertex_count", "edges", "pebbles"] []) (gL : mg "limits_error" = some (.ref fL)) :
    FnOk P w K mg base CX0 (k + 3) f fd ["vertex_count", "target", "edges", "pebbles"] (spTarget K) := by
  refine F.ok scTarget (fun vs H Q E h => ?_) (fun cdv A outer s H vs Q E hr h => ?_)
  · obtain ⟨a, b, n, t, es, ps, rfl, _⟩ := h
    rfl
  · obtain ⟨a, b, n, t, es, ps, rfl, hS, hlen, hT, q⟩ := h
    refine ⟨_, pss_cons (ps_set (i := 4) scTarget.nd rfl (.inl rfl) (pe_call GL hr (by rfl) gL kL bL .nil pass0 (pa_cons (pv 0) (pa_cons (pv 2) (pa_cons (pv 3) pa_nil)))))
      (pss_cons (ps_if (pt_cmpR op_ne (pv 4) pe_int (nomark _)) (pss_one (ps_ret (pv 4))) pss_nil)
      (pss_cons (ps_if (pt_cmpR op_ge (pv 1) (pv 0) (nomark _)) (pss_one (ps_ret (pe_un un_neg pe_int))) pss_nil)
      (pss_one (ps_ret pe_int)))), ?_⟩
    refine ⟨_, rfl, _, rfl, _, rfl, a, b, n, es, ps, rfl, hS, hlen, hT, fun H1 s1 => ?_⟩
    refine ⟨_, rfl, rfl, _, rfl, ?_⟩
    rw [ne_zero]
    have q1 := q H1 s1
    unfold tgtErr at q1
    by_cases c : okAll n es ps = true
    · have e : limErr n es ps = 0 := if_pos c
      rw [if_pos c] at q1
      rw [e]
      refine iteF ?_
      refine ⟨_, rfl, _, rfl, _, _, rfl, rfl, _, rfl, ite2 (fun c2 => ?_) (fun c2 => ?_)⟩
      · rw [decide_eq_true_iff] at c2
        rw [if_pos (by omega)] at q1
        exact ⟨_, rfl, q1⟩
      · rw [decide_eq_true_iff] at c2
        rw [if_neg (by omega)] at q1
        exact q1
    · have e : limErr n es ps = -22 := if_neg c
      rw [if_neg c] at q1
      rw [e]
      exact iteT ⟨_, rfl, q1⟩
end
theorem tgt_ok {n t : Nat} {es ps : List Nat} (h : tgtErr n t es ps = 0) : Ok n es ps ∧ t < n := by
  unfold tgtErr at h
  by_cases c : okAll n es ps = true
  · rw [if_pos c] at h
    by_cases z : n ≤ t
    · rw [if_pos z] at h; cases h
    · exact ⟨ok_of c, by omega⟩
  · rw [if_neg c] at h; cases h
theorem tgt_due (n t : Nat) (es ps : List Nat) (F : Ks577.Graph → Ks577.Configuration → Ks577.Result) :
    Ks577Neutral.integers (Ks577.withConfiguration n es ps fun g c => if n ≤ t then Ks577.number (-2) else F g c) = if tgtErr n t es ps = 0 then Ks577Neutral.integers (F ⟨n, pairsOf es⟩ ps) else [tgtErr n t es ps] := by
  rw [with_is]
  unfold tgtErr
  by_cases c : okAll n es ps = true
  · rw [if_pos c, if_pos c]
    by_cases z : n ≤ t
    · rw [if_pos z, if_pos z, if_neg (by decide)]; rfl
    · rw [if_neg z, if_neg z, if_pos rfl]
  · rw [if_neg c, if_neg c, if_neg (by decide)]; rfl
theorem fit_even {n : Nat} {es : List Nat} (h : edgesFit n es = true) : es.length % 2 = 0 := by
  unfold edgesFit at h
  exact of_decide_eq_true (Bool.and_eq_true_iff.mp h).1
/-! ### sorted: a list of pairs -/
def kOf (H : Hp) : V → Int × Int
  | .ref t => match H t with
    | some (.tup [.int i, .int j]) => (i, j)
    | _ => (0, 0)
  | _ => (0, 0)
theorem kOf_at {H : Hp} {b : Addr} {m : Nat × Nat} (h : MoveAt H b m) : kOf H (.ref b) = ((m.1 : Int), (m.2 : Int)) := by
  unfold MoveAt at h
  show (match H b with | some (.tup [.int i, .int j]) => (i, j) | _ => ((0, 0) : Int × Int)) = _
  rw [h]
def mvN (H : Hp) (b : Addr) : Nat × Nat := ((kOf H (.ref b)).1.toNat, (kOf H (.ref b)).2.toNat)
theorem mvN_at {H : Hp} {b : Addr} {m : Nat × Nat} (h : MoveAt H b m) : mvN H b = m := by
  unfold mvN
  rw [kOf_at h]; rfl
theorem pd_mem {α β : Type} {F : α → β → Prop} : ∀ {l : List α} {r : List β}, Paired F l r → ∀ {a : α}, a ∈ l → ∃ b, b ∈ r ∧ F a b
  | _, _, .nil, _, h => by cases h
  | _, _, .cons q t, _, h => by
    rcases List.mem_cons.mp h with rfl | h
    · exact ⟨_, List.mem_cons_self .., q⟩
    · obtain ⟨b, hb, z⟩ := pd_mem t h
      exact ⟨b, List.mem_cons_of_mem _ hb, z⟩
theorem pd_mvN {H : Hp} : ∀ {bs : List Addr} {ms : List (Nat × Nat)}, Paired (MoveAt H) bs ms → ms = bs.map (mvN H)
  | _, _, .nil => rfl
  | _, _, .cons q t => by rw [List.map_cons, mvN_at q, ← pd_mvN t]
theorem pd_of {H : Hp} : ∀ {cs : List Addr}, (∀ b ∈ cs, ∃ m, MoveAt H b m) → Paired (MoveAt H) cs (cs.map (mvN H))
  | [], _ => .nil
  | b :: r, h => by
    obtain ⟨m, hm⟩ := h b (List.mem_cons_self ..)
    refine .cons ?_ (pd_of fun c hc => h c (List.mem_cons_of_mem _ hc))
    rw [mvN_at hm]; exact hm
def backA : V → Addr
  | .ref b => b
  | _ => 0
theorem sorted_pairs {H : Hp} {bs : List Addr} {ms : List (Nat × Nat)} {ys : List V} (hp : Paired (MoveAt H) bs ms) (p : ys.Perm (bs.map V.ref)) (s : ys.Pairwise fun x y => SrtO.lexB (kOf H y) (kOf H x) = false) :
    ∃ cs ms', ys = cs.map V.ref ∧ Paired (MoveAt H) cs ms' ∧ ms'.Perm ms ∧ ms'.Pairwise Low := by
  have e : ys = (ys.map backA).map V.ref := by
    rw [List.map_map]
    refine (List.map_id _).symm.trans (List.map_congr_left fun y hy => ?_)
    obtain ⟨b, _, rfl⟩ := List.mem_map.mp (p.mem_iff.mp hy)
    rfl
  have pb : (ys.map backA).Perm bs := by
    have := p.map backA
    rw [List.map_map] at this
    have e2 : bs.map (backA ∘ V.ref) = bs := (List.map_congr_left fun b _ => rfl).trans (List.map_id bs)
    rw [e2] at this
    exact this
  generalize ys.map backA = cs at e pb
  subst e
  have at_ : ∀ b ∈ cs, ∃ m, MoveAt H b m := fun b hb => by
    obtain ⟨m, _, z⟩ := pd_mem hp (pb.mem_iff.mp hb)
    exact ⟨m, z⟩
  refine ⟨cs, cs.map (mvN H), rfl, pd_of at_, ?_, ?_⟩
  · rw [pd_mvN hp]; exact pb.map _
  · rw [List.pairwise_map] at s ⊢
    refine List.Pairwise.imp_of_mem (fun {x y} hx hy h => ?_) s
    obtain ⟨m, hm⟩ := at_ x hx
    obtain ⟨m', hm'⟩ := at_ y hy
    rw [kOf_at hm, kOf_at hm', SrtO.lexB_no] at h
    rw [mvN_at hm, mvN_at hm']
    unfold Low ltP
    simp only at h
    omega
theorem scMoves : FnScope ["edges", "moves", "k"] ["edges"] (defScope sMoves) := ⟨rfl, rfl, rfl, by decide +kernel, rfl, by decide +kernel, by decide +kernel⟩
section
variable {P : Program} {w : World} {K : PySem.W.Frag} {mg : Str → Option Value} {base : Heap}
/-! ### moves_along -/
def spMoves (K : PySem.W.Frag) : Sp := fun vs H Q _ => ∃ (a : Addr) (n : Nat) (es : List Nat), vs = [.ref a] ∧ SqL K H a ((iN es).map V.int) ∧ es.length ≤ 1000 ∧ edgesFit n es = true ∧
  ∀ H' p, Same H H' → MovesAt H' p (allM ⟨n, pairsOf es⟩) → Q (.ref p) H'
theorem ok_moves {f : Addr} {fd : FuncData} {k : Nat} (F : Fun K "moves_along" "moves_along" sMoves f fd) (ml : mg "len" = none) (mr : mg "range" = none) (mS : mg "sorted" = none) : FnOk P w K mg base CX0 (k + 1) f fd ["edges"] (spMoves K) := by
  refine F.ok scMoves (fun vs H Q E h => ?_) (fun cdv A outer s H vs Q E hr h => ?_)
  · obtain ⟨a, n, es, rfl, _⟩ := h
    rfl
  · obtain ⟨a, n, es, rfl, hS, hlen, hfit, q⟩ := h
    have hev := fit_even hfit
    refine ⟨_, pss_cons (ps_set (i := 1) scMoves.nd rfl (.inl rfl) (pe_lst pa_nil))
      (pss_cons (ps_for PassesOwn.never rfl (pi_range3 rfl mr (pa_cons pe_int (pa_cons (pe_callB call_len_seq (by rfl) ml PySem.boot_len (pa_cons (pv 0) pa_nil)) (pa_cons pe_int pa_nil)))) (pg_name (i := 2) scMoves.nd rfl (.inl rfl))
        (pss_cons (ps_expr (pe_bm PySem.F.plainAttrs_list PySem.F.slot_list_append PySem.F.type_list_append mt_append (pv 1) (pa_cons
            (pe_tup (pa_cons (pe_ix ix_list (pv 0) (pv 2) (fun _ _ => rfl)) (pa_cons (pe_ix ix_list (pv 0) (pe_op op_add (pv 2) pe_int) (fun _ _ => rfl)) pa_nil))) pa_nil)))
        (pss_one (ps_expr (pe_bm PySem.F.plainAttrs_list PySem.F.slot_list_append PySem.F.type_list_append mt_append (pv 1) (pa_cons
            (pe_tup (pa_cons (pe_ix ix_list (pv 0) (pe_op op_add (pv 2) pe_int) (fun _ _ => rfl)) (pa_cons (pe_ix ix_list (pv 0) (pv 2) (fun _ _ => rfl)) pa_nil))) pa_nil))))))
      (pss_one (ps_ret (pe_callB cr_sortedPO (by rfl) mS PyProof.Rows.boot_sorted (pa_cons (pv 1) pa_nil))))), ?_⟩
    -- moves = []
    refine ⟨Nat.zero_le _, fun o no => ?_⟩
    have s1 : Same H (upd H o (.lst [])) := same_upd no
    -- for k in range(0, len(edges), 2)
    refine ⟨.ref a, rfl, a, _, rfl, .inl (s1.seq hS), 0, _, 2, es.length / 2, rfl, by rw [iN_length]; exact rg2 hlen hev,
      for_rangeC (lo := 0) (c := 2) (n := es.length / 2) (fun i σ H3 => ∃ y2, σ = [some (.ref a), some (.ref o), y2] ∧ Same H H3 ∧ MovesAt H3 o (movesOf ((pairsOf es).take i)))
        ⟨none, rfl, s1, [], upd_same, .nil⟩ ?_ ?_⟩
    · rintro i σ H3 hi ⟨y2, rfl, s3, bs, hb, hp⟩
      have h0 : 2 * i < es.length := by omega
      have h1 : 2 * i + 1 < es.length := by omega
      have g0 : es[2 * i]? = some es[2 * i] := List.getElem?_eq_getElem h0
      have g1 : es[2 * i + 1]? = some es[2 * i + 1] := List.getElem?_eq_getElem h1
      generalize es[2 * i] = u at g0
      generalize es[2 * i + 1] = v at g1
      have gp := pairsOf_get g0 g1
      have lbs : bs.length = 2 * i := by
        rw [pd_len hp, movesOf_length, List.length_take, pairsOf_len]; omega
      have k0 : atI ((iN es).map V.int) ((0 : Int) + (i : Int) * 2) = some (.int (u : Int)) := at_of (by omega : (0 : Int) + (i : Int) * 2 = ((2 * i : Nat) : Int)) (iN_get g0)
      have k1 : atI ((iN es).map V.int) ((0 : Int) + (i : Int) * 2 + 1) = some (.int (v : Int)) := at_of (by omega : (0 : Int) + (i : Int) * 2 + 1 = ((2 * i + 1 : Nat) : Int)) (iN_get g1)
      have hS3 := s3.seq hS
      -- moves.append((edges[k], edges[k + 1]))
      refine ⟨.ref o, rfl, .inl ⟨rfl, _, .inl (.inl hb)⟩, .ref a, rfl, _, rfl, a, _, _, _, rfl, rfl, hS3, k0, .ref a, rfl, _, rfl, _, _, rfl, rfl, a, _, _, _, rfl, rfl, hS3, k1, small2, fun t nt => ?_⟩
      have s4 : Same H3 (upd H3 t (.tup [.int (u : Int), .int (v : Int)])) := same_upd nt
      refine ⟨o, _, _, rfl, rfl, s4 _ _ hb, small1000 (by rw [List.length_map]; omega), ?_⟩
      generalize e5 : upd (upd H3 t (.tup [.int (u : Int), .int (v : Int)])) o (.lst (bs.map V.ref ++ [.ref t])) = H5
      have o5 : H5 o = some (.lst ((bs ++ [t]).map V.ref)) := by rw [← e5, upd_same, List.map_append]; rfl
      have q5 : ∀ b x, H3 b = some x → b ≠ o → H5 b = some x := fun b x z n => by rw [← e5, upd_ne n]; exact s4 _ _ z
      have t5 : H5 t = some (.tup [.int (u : Int), .int (v : Int)]) := by
        rw [← e5, upd_ne (ne_of_none hb nt).symm, upd_same]
      have hS5 : SqL K H5 a ((iN es).map V.int) := by
        have s5 : Same H H5 := fun b x z => q5 b x (s3 _ _ z) (ne_of_none z no)
        exact s5.seq hS
      -- moves.append((edges[k + 1], edges[k]))
      refine ⟨.ref o, rfl, .inl ⟨rfl, _, .inl (.inl o5)⟩, .ref a, rfl, _, rfl, _, _, rfl, rfl, a, _, _, _, rfl, rfl, hS5, k1, .ref a, rfl, _, rfl, a, _, _, _, rfl, rfl, hS5, k0, small2, fun t' nt' => ?_⟩
      have s6 : Same H5 (upd H5 t' (.tup [.int (v : Int), .int (u : Int)])) := same_upd nt'
      refine ⟨o, _, _, rfl, rfl, s6 _ _ o5, small1000 (by rw [List.length_map, List.length_append, List.length_singleton]; omega), ?_⟩
      have nto : t' ≠ o := (ne_of_none o5 nt').symm
      have q7 : ∀ b x, H5 b = some x → b ≠ o → (upd (upd H5 t' (.tup [.int (v : Int), .int (u : Int)])) o (.lst ((bs ++ [t]).map V.ref ++ [.ref t']))) b = some x := fun b x z n => by rw [upd_ne n]; exact s6 _ _ z
      refine ⟨some (.int ((0 : Int) + (i : Int) * 2)), rfl, fun b x z => q7 b x (q5 b x (s3 _ _ z) (ne_of_none z no)) (ne_of_none z no), bs ++ [t] ++ [t'], ?_, ?_⟩
      · rw [upd_same, List.map_append (l₁ := bs ++ [t])]; rfl
      · rw [take_more gp, movesOf_append, List.append_assoc]
        refine pd_app (.cons ?_ (.cons ?_ .nil)) (pd_mono (fun b m z => ?_) hp)
        · show _ = some (HO.tup [.int (u : Int), .int (v : Int)])
          exact q7 t _ t5 (ne_of_none hb nt).symm
        · show _ = some (HO.tup [.int (v : Int), .int (u : Int)])
          rw [upd_ne nto, upd_same]
        · have z : H3 b = some (.tup [.int (m.1 : Int), .int (m.2 : Int)]) := z
          have nb : b ≠ o := ne_of z hb (by intro e; cases e)
          exact q7 b _ (q5 b _ z nb) nb
    · rintro σ H3 ⟨y2, rfl, s3, hm⟩
      rw [List.take_of_length_le (by rw [pairsOf_len]; exact Nat.le_refl _)] at hm
      obtain ⟨bs, hb, hp⟩ := hm
      -- return sorted(moves)
      refine ⟨.ref o, rfl, o, bs.map V.ref, kOf H3, rfl, SqL.of hb, fun x hx => ?_, fun ys p srt stb np => ?_⟩
      · obtain ⟨b, hb', rfl⟩ := List.mem_map.mp hx
        obtain ⟨m, _, hm⟩ := pd_mem hp hb'
        refine ⟨b, rfl, ?_⟩
        rw [kOf_at hm]
        exact hm
      · obtain ⟨cs, ms, rfl, pm, perm, low⟩ := sorted_pairs hp stb.perm srt
        refine q _ p (s3.trans (same_upd np)) ?_
        rw [← sorted_moves hfit perm low]
        exact ⟨cs, upd_same, pd_mono (fun b m z => same_upd np _ _ z) pm⟩
end
theorem scDist : FnScope ["target", "edges", "moves", "distances", "reached", "further", "vertex", "neighbour"] ["target", "edges"] (defScope sDist) := ⟨rfl, rfl, rfl, by decide +kernel, rfl, by decide +kernel, by decide +kernel⟩
/-! ### a dict of whole numbers -/
def dkv (ds : List (Nat × Nat)) : List (L2.Key × V) := ds.map fun p => (Sum.inl (p.1 : Int), V.int (p.2 : Int))
theorem inl_inj {a b : Nat} (h : (Sum.inl (a : Int) : L2.Key) = Sum.inl (b : Int)) : a = b := by
  injection h with h
  omega
theorem dkv_none {w : Nat} : ∀ {ds : List (Nat × Nat)}, valV (dkv ds) (Sum.inl (w : Int)) = none ↔ w ∉ ds.map (·.1)
  | [] => by
    rw [show dkv [] = [] from rfl, valV_nil]; simp
  | p :: r => by
    show valV ((Sum.inl (p.1 : Int), V.int (p.2 : Int)) :: dkv r) (Sum.inl (w : Int)) = none ↔ _
    rw [List.map_cons, List.mem_cons]
    by_cases e : w = p.1
    · rw [valV_pos (by rw [e])]
      simp [e]
    · rw [valV_neg (fun z => e (inl_inj z).symm), dkv_none (ds := r)]
      simp [e]
theorem dkv_some {w d : Nat} {xs : List (Nat × Nat)} : ∀ {ds : List (Nat × Nat)}, (ds.map (·.1)).Nodup → (w, d) ∈ ds → valV (dkv (ds ++ xs)) (Sum.inl (w : Int)) = some (.int (d : Int))
  | p :: r, nd, h => by
    show valV ((Sum.inl (p.1 : Int), V.int (p.2 : Int)) :: dkv (r ++ xs)) (Sum.inl (w : Int)) = _
    have nd : (p.1 :: r.map (·.1)).Nodup := nd
    obtain ⟨n1, n2⟩ := List.nodup_cons.mp nd
    rcases List.mem_cons.mp h with e | h
    · rw [valV_pos (by rw [← e]), ← e]
    · rw [valV_neg (fun z => n1 (by
        have := inl_inj z
        rw [this]
        exact List.mem_map.mpr ⟨_, h, rfl⟩)), dkv_some n2 h]
theorem dkv_put {w d : Nat} {ds : List (Nat × Nat)} (h : valV (dkv ds) (Sum.inl (w : Int)) = none) : putK (dkv ds) (Sum.inl (w : Int)) (.int (d : Int)) = dkv (ds ++ [(w, d)]) := by
  rw [putK_new _ h]
  unfold dkv
  rw [List.map_append]; rfl
theorem dkv_length (ds : List (Nat × Nat)) : (dkv ds).length = ds.length := List.length_map _
theorem inV_nat (x : Nat) (r : List Nat) : inV (.int (x : Int)) ((iN r).map V.int) = decide (x ∈ r) := by
  unfold inV iN
  rw [Bool.eq_iff_iff, decide_eq_true_iff, List.any_eq_true]
  constructor
  · rintro ⟨y, hy, e⟩
    rw [List.map_map] at hy
    obtain ⟨z, hz, rfl⟩ := List.mem_map.mp hy
    have e : ((z : Int) == (x : Int)) = true := e
    have e := beq_iff_eq.mp e
    have : z = x := by omega
    exact this ▸ hz
  · intro h
    refine ⟨.int (x : Int), List.mem_map.mpr ⟨(x : Int), List.mem_map.mpr ⟨x, h, rfl⟩, rfl⟩, ?_⟩
    show ((x : Int) == (x : Int)) = true
    exact beq_self_eq_true _
theorem flat_nat (r : List Nat) : ((iN r).map V.int).all flatV = true := by
  rw [List.all_eq_true]
  intro v hv
  obtain ⟨i, _, rfl⟩ := List.mem_map.mp hv
  rfl
theorem opt_none {o : Option V} : (!o.isSome) = true ↔ o = none := by cases o <;> simp
section
variable {P : Program} {w : World} {K : PySem.W.Frag} {mg : Str → Option Value} {base : Heap}
/-! ### distances_to -/
def spDist (K : PySem.W.Frag) : Sp := fun vs H Q _ => ∃ (a : Addr) (n t : Nat) (es : List Nat), vs = [.int (t : Int), .ref a] ∧ SqL K H a ((iN es).map V.int) ∧ es.length ≤ 22 ∧ edgesFit n es = true ∧ n ≤ 5 ∧ t < n ∧
  ∀ H' d k ds, Same H H' → H d = none → H' d = some (.dK (dkv ds)) → Bfs ⟨n, pairsOf es⟩ t k ds [] → Q (.ref d) H'
theorem ok_dist {f fM : Addr} {fd fdM : FuncData} (F : Fun K "distances_to" "distances_to" sDist f fd)
    (GM : FnOk P w K mg base CX0 1 fM fdM ["edges"] (spMoves K)) (kM : PySem.W.keepIn K (.ref fM) = true) (bM : Binds K fdM ["edges"] []) (gM : mg "moves_along" = some (.ref fM))
    (ml : mg "len" = none) : FnOk P w K mg base CX0 2 f fd ["target", "edges"] (spDist K) := by
  refine F.ok scDist (fun vs H Q E h => ?_) (fun cdv A outer s H vs Q E hr h => ?_)
  · obtain ⟨a, n, t, es, rfl, _⟩ := h
    rfl
  · obtain ⟨a, n, t, es, rfl, hS, hlen, hfit, n5, tn, q⟩ := h
    refine ⟨_, pss_cons (ps_set (i := 2) scDist.nd rfl (.inl rfl) (pe_call GM hr (by rfl) gM kM bM .nil pass0 (pa_cons (pv 1) pa_nil)))
      (pss_cons (ps_set (i := 3) scDist.nd rfl (.inl rfl) (pe_disp (pps_cons (pv 0) pe_int pps_nil) (by rfl) (by rfl) (fun z => by cases z) (by decide)))
      (pss_cons (ps_set (i := 4) scDist.nd rfl (.inl rfl) (pe_lst (pa_cons (pv 0) pa_nil)))
      (pss_cons (ps_while PassesOwn.never (pt_cmpR op_gt (pe_callB call_len_seq (by rfl) ml PySem.boot_len (pa_cons (pv 4) pa_nil)) pe_int (nomark _))
        (pss_cons (ps_set (i := 5) scDist.nd rfl (.inl rfl) (pe_lst pa_nil))
        (pss_cons (ps_for PassesOwn.never rfl (pi_list (pv 2)) (pg_tup rfl (pgs_cons (pg_name (i := 6) scDist.nd rfl (.inl rfl)) (pgs_cons (pg_name (i := 7) scDist.nd rfl (.inl rfl)) pgs_nil)))
          (pss_one (ps_if (PW.pt (pw_and (pt_cmpR op_in_seq (pv 6) (pv 4) (by rfl)) (pw_and1 (pt_cmp (pc_dnotin (hu_of hr) (pv 7) (pv 3))))))
            (pss_cons (ps_dput (hu_of hr) (pv 3) (pv 7) (pe_op op_add (pe_dget (hu_of hr) (pv 3) (pv 6) (fun _ _ => rfl)) pe_int) rfl)
            (pss_one (ps_expr (pe_bm PySem.F.plainAttrs_list PySem.F.slot_list_append PySem.F.type_list_append mt_append (pv 5) (pa_cons (pv 7) pa_nil))))) pss_nil)))
        (pss_one (ps_set (i := 4) scDist.nd rfl (.inl rfl) (pv 5))))))
      (pss_one (ps_ret (pv 3)))))), ?_⟩
    -- moves = moves_along(edges)
    refine ⟨.ref a, rfl, a, n, es, rfl, hS, by omega, hfit, fun H2 mv s2 hmv => ?_⟩
    -- distances = {target: 0}
    refine fun d nd => ⟨_, rfl, upd_same, [(Sum.inl (t : Int), .int 0)], rfl, (by show 1 ≤ 15; decide), ?_⟩
    rw [upd_upd]
    have nd0 : H d = none := none_of s2 nd
    have s3 : Same H2 (upd H2 d (.dK (mergeK [] [(Sum.inl (t : Int), .int 0)]))) := same_upd nd
    have hd3 : (upd H2 d (.dK (mergeK [] [(Sum.inl (t : Int), .int 0)]))) d = some (.dK (dkv [(t, 0)])) := upd_same
    generalize upd H2 d (.dK (mergeK [] [(Sum.inl (t : Int), .int 0)])) = H3 at s3 hd3
    have hmv3 := hmv.same s3
    have s03 := s2.trans s3
    -- reached = [target]
    refine ⟨_, rfl, (by show 1 ≤ sizeLine; decide), fun rl nrl => ?_⟩
    have s4 : Same H3 (upd H3 rl (.lst [.int (t : Int)])) := same_upd nrl
    have hr4 : (upd H3 rl (.lst [.int (t : Int)])) rl = some (.lst ((iN [t]).map V.int)) := upd_same
    have hd4 := s4 _ _ hd3
    have hmv4 := hmv3.same s4
    have s04 := s03.trans s4
    generalize upd H3 rl (.lst [.int (t : Int)]) = H4 at hr4 hd4 hmv4 s04
    clear s4 nrl hd3 hmv3 s03 s3
    have lm := allM_length (n := n) hfit hlen
    -- while len(reached) > 0
    refine ⟨fun g σ H5 => ∃ k r rl ds y5 y6 y7, σ = [some (.int (t : Int)), some (.ref a), some (.ref mv), some (.ref d), some (.ref rl), y5, y6, y7] ∧ Same H H5 ∧ H5 d = some (.dK (dkv ds)) ∧ H5 rl = some (.lst ((iN r).map V.int)) ∧
      MovesAt H5 mv (allM ⟨n, pairsOf es⟩) ∧ Bfs ⟨n, pairsOf es⟩ t k ds r ∧ k + g = n,
      ⟨n, 0, [t], rl, [(t, 0)], none, none, none, rfl, s04, hd4, hr4, hmv4, Bfs.start tn, Nat.zero_add n⟩, ?_⟩
    clear hr4 hd4 hmv4 s04
    rintro g σ H5 ⟨k, r, rl, ds, y5, y6, y7, rfl, s5, hd5, hr5, hM5, B, kg⟩
    refine ⟨.ref rl, rfl, rl, _, rfl, .inl (SqL.of hr5), _, _, rfl, rfl, _, rfl, ite2 (fun z => ?_) (fun z => ?_)⟩
    · rw [decide_eq_true_iff, iN_length] at z
      have ne : r ≠ [] := fun e => by rw [e] at z; simp at z
      have l1 := B.len1 ne
      have l2 : ds.length ≤ n := B.room
      obtain ⟨g', rfl⟩ : ∃ g', g = g' + 1 := ⟨g - 1, by omega⟩
      refine ⟨fun σ' H' => ∃ k r rl ds y5 y6 y7, σ' = [some (.int (t : Int)), some (.ref a), some (.ref mv), some (.ref d), some (.ref rl), y5, y6, y7] ∧ Same H H' ∧ H' d = some (.dK (dkv ds)) ∧ H' rl = some (.lst ((iN r).map V.int)) ∧
        MovesAt H' mv (allM ⟨n, pairsOf es⟩) ∧ Bfs ⟨n, pairsOf es⟩ t k ds r ∧ k + g' = n, fun σ' H' h => ⟨g', Nat.lt_succ_self _, h⟩, ?_⟩
      -- further = []
      refine ⟨Nat.zero_le _, fun fl nfl => ?_⟩
      have s6 : Same H5 (upd H5 fl (.lst [])) := same_upd nfl
      have nfl0 : H fl = none := none_of s5 nfl
      have fd : fl ≠ d := (ne_of_none hd5 nfl).symm
      have frl : fl ≠ rl := (ne_of_none hr5 nfl).symm
      have rd : rl ≠ d := ne_of hr5 hd5 (fun z => nomatch z)
      obtain ⟨cs, hcs, pcs⟩ := hM5
      have md : mv ≠ d := ne_of hcs hd5 (fun z => nomatch z)
      have mf : fl ≠ mv := (ne_of_none hcs nfl).symm
      -- for vertex, neighbour in moves
      refine ⟨_, rfl, mv, rfl, ⟨_, SqL.of (s6 _ _ hcs)⟩, for_list (K := K) (a := mv) (xs := cs.map V.ref)
        (fun j σ H6 => ∃ y6 y7, σ = [some (.int (t : Int)), some (.ref a), some (.ref mv), some (.ref d), some (.ref rl), some (.ref fl), y6, y7] ∧ (∀ b x, H5 b = some x → b ≠ d → H6 b = some x) ∧ Same H H6 ∧
          H6 d = some (.dK (dkv (ds ++ (fur r (ds.map (·.1)) ((allM ⟨n, pairsOf es⟩).take j)).map fun w => (w, k + 1)))) ∧ H6 fl = some (.lst ((iN (fur r (ds.map (·.1)) ((allM ⟨n, pairsOf es⟩).take j))).map V.int)))
        ⟨y6, y7, rfl, fun b x e _ => s6 _ _ e, s5.trans s6, ?_, upd_same⟩ (fun j σ H6 _ ⟨_, _, _, k6, _⟩ => SqL.of (k6 _ _ hcs md)) ?_ ?_⟩
      · have e0 : (ds ++ (fur r (ds.map (·.1)) ((allM ⟨n, pairsOf es⟩).take 0)).map fun w => (w, k + 1)) = ds := List.append_nil _
        rw [e0]
        exact s6 _ _ hd5
      · rintro j x σ H6 hj ⟨y6', y7', rfl, k6, s06, hd6, hf6⟩
        obtain ⟨b, gb, rfl⟩ := ref_get hj
        obtain ⟨m, gm, hm⟩ := pd_get pcs gb
        have hm : MoveAt H5 b m := hm
        have jl : j < (allM ⟨n, pairsOf es⟩).length := (List.getElem?_eq_some_iff.mp gm).1
        have hm6 : MoveAt H6 b m := k6 _ _ hm (ne_of hm hd5 (fun z => nomatch z))
        have hr6 := k6 _ _ hr5 rd
        have fm := fur_more (r := r) (ks := ds.map (·.1)) gm
        have fle := fur_length r (ds.map (·.1)) ((allM ⟨n, pairsOf es⟩).take j)
        rw [List.length_take] at fle
        rw [fm]
        generalize fur r (ds.map (·.1)) ((allM ⟨n, pairsOf es⟩).take j) = fu at hd6 hf6 fle
        have ek : (ds ++ fu.map fun w => (w, k + 1)).map (·.1) = ds.map (·.1) ++ fu := by
          rw [List.map_append, List.map_map]
          exact congrArg _ ((List.map_congr_left fun _ _ => rfl).trans (List.map_id _))
        have el : (ds ++ fu.map fun w => (w, k + 1)).length = ds.length + fu.length := by rw [List.length_append, List.length_map]
        refine ⟨b, [.int (m.1 : Int), .int (m.2 : Int)], rfl, SqT.of hm6, rfl, _, _, rfl, _, _, rfl, rfl, ?_⟩
        -- vertex in reached
        refine ⟨_, rfl, _, rfl, rl, _, rfl, .inl (SqL.of hr6), rfl, flat_nat r, _, rfl, ?_⟩
        show if inV (.int (m.1 : Int)) ((iN r).map V.int) = true then _ else _
        rw [inV_nat]
        refine ite2 (fun c1 => ?_) (fun c1 => ?_)
        · have c1 := of_decide_eq_true c1
          -- neighbour not in distances
          refine ⟨_, rfl, _, rfl, d, _, rfl, DGet.k (k := Sum.inl (m.2 : Int)) hd6, _, rfl, ite2 (fun c2 => ?_) (fun c2 => ?_)⟩
          · have c2 := opt_none.mp c2
            have nk : m.2 ∉ ds.map (·.1) ++ fu := by rw [← ek]; exact dkv_none.mp c2
            have cond : m.1 ∈ r ∧ m.2 ∉ ds.map (·.1) ∧ m.2 ∉ fu := ⟨c1, fun z => nk (List.mem_append_left _ z), fun z => nk (List.mem_append_right _ z)⟩
            have ef : fstep r (ds.map (·.1)) fu m = fu ++ [m.2] := if_pos cond
            have v1 : valV (dkv (ds ++ fu.map fun w => (w, k + 1))) (Sum.inl (m.1 : Int)) = some (.int (k : Int)) := dkv_some B.nd ((B.rch m.1).mp c1)
            -- distances[neighbour] = distances[vertex] + 1
            refine ⟨_, rfl, _, rfl, d, .int (k : Int), rfl, by rw [← v1]; exact DGet.k (k := Sum.inl (m.1 : Int)) hd6, _, _, rfl, rfl, _, rfl, _, rfl, d, _, rfl, DPut.k (k := Sum.inl (m.2 : Int)) hd6 (by rw [dkv_length, el, sizeLine_eq]; omega), ?_⟩
            have ep : putK (dkv (ds ++ fu.map fun w => (w, k + 1))) (Sum.inl (m.2 : Int)) (.int ((k : Int) + 1)) = dkv (ds ++ (fu ++ [m.2]).map fun w => (w, k + 1)) := by
              rw [show (k : Int) + 1 = ((k + 1 : Nat) : Int) from rfl, dkv_put c2, List.map_append, List.append_assoc]; rfl
            have hd7 : (upd H6 d (.dK (putK (dkv (ds ++ fu.map fun w => (w, k + 1))) (Sum.inl (m.2 : Int)) (.int ((k : Int) + 1))))) d = some (.dK (dkv (ds ++ (fu ++ [m.2]).map fun w => (w, k + 1)))) := by rw [upd_same, ep]
            have k7 : ∀ b x, H6 b = some x → b ≠ d → (upd H6 d (.dK (putK (dkv (ds ++ fu.map fun w => (w, k + 1))) (Sum.inl (m.2 : Int)) (.int ((k : Int) + 1))))) b = some x := fun b x e n => by rw [upd_ne n]; exact e
            have s07 : Same H (upd H6 d (.dK (putK (dkv (ds ++ fu.map fun w => (w, k + 1))) (Sum.inl (m.2 : Int)) (.int ((k : Int) + 1))))) := fun b x e => k7 _ _ (s06 _ _ e) (ne_of_none e nd0)
            have hf7 := k7 _ _ hf6 fd
            have sf : ((iN fu).map V.int).length < sizeLine := small1000 (by rw [iN_length]; omega)
            -- further.append(neighbour)
            refine ⟨.ref fl, rfl, .inl ⟨rfl, _, .inl (.inl hf7)⟩, _, rfl, fl, _, _, rfl, rfl, hf7, sf, ?_⟩
            rw [ef]
            refine ⟨_, _, rfl, fun b x e n => ?_, fun b x e => ?_, ?_, ?_⟩
            · rw [upd_ne (ne_of_none e nfl)]; exact k7 _ _ (k6 _ _ e n) n
            · rw [upd_ne (ne_of_none e nfl0)]; exact s07 _ _ e
            · rw [upd_ne fd.symm]; exact hd7
            · rw [upd_same]
              unfold iN
              rw [List.map_append, List.map_append]; rfl
          · have nn : ¬ (m.1 ∈ r ∧ m.2 ∉ ds.map (·.1) ∧ m.2 ∉ fu) := fun z => c2 (opt_none.mpr (dkv_none.mpr (by
              rw [ek]
              intro y
              rcases List.mem_append.mp y with y | y
              · exact z.2.1 y
              · exact z.2.2 y)))
            have ef : fstep r (ds.map (·.1)) fu m = fu := if_neg nn
            rw [ef]
            exact ⟨_, _, rfl, k6, s06, hd6, hf6⟩
        · have nn : ¬ (m.1 ∈ r ∧ m.2 ∉ ds.map (·.1) ∧ m.2 ∉ fu) := fun z => c1 (decide_eq_true z.1)
          have ef : fstep r (ds.map (·.1)) fu m = fu := if_neg nn
          rw [ef]
          exact iteF ⟨_, _, rfl, k6, s06, hd6, hf6⟩
      · rintro σ H6 ⟨y6', y7', rfl, k6, s06, hd6, hf6⟩
        rw [List.length_map, pd_len pcs, List.take_length] at hd6 hf6
        -- reached = further
        exact ⟨_, rfl, k + 1, _, fl, _, _, _, _, rfl, s06, hd6, hf6, ⟨cs, k6 _ _ hcs md, pd_mono (fun b m z => k6 _ _ z (ne_of (show H5 b = some (.tup _) from z) hd5 (fun y => nomatch y))) pcs⟩, B.next ne, by omega⟩
    · have r0 : r = [] := by
        rw [decide_eq_true_iff, iN_length] at z
        cases r with
        | nil => rfl
        | cons c r => rw [List.length_cons] at z; omega
      subst r0
      exact ⟨_, rfl, q _ d k ds s5 nd0 hd5 B⟩
end
theorem scParts : FnScope ["target", "edges", "pebbles", "parts", "vertex", "distance"] ["target", "edges", "pebbles"] (defScope sParts) := ⟨rfl, rfl, rfl, by decide +kernel, rfl, by decide +kernel, by decide +kernel⟩
/-! ### a new dict, locked from when it is there -/
def tFrz (t : TE) : TE := fun σ H Q => t σ H fun x H1 => ∃ d u, x = .ref d ∧ H1 d = some u ∧ Mut (some u) ∧ ∀ od, Q x (upd H1 d (.frz od u))
theorem pe_frz {X : Cx} {e : Expr} {t : TE} (h : PE X e t) : PE X e (tFrz t) := by
  refine ⟨fun pins s σ H Q I hw => thn (h.run pins s σ H _ I hw) fun v s1 ⟨x, H1, I2, r, d, u, ex, hd, mu, q⟩ => ?_⟩
  obtain ⟨od, I3⟩ := I2.lock hd mu
  exact ⟨x, _, I3, r, q od⟩
theorem shr_nat (d : Nat) : (16 : Int) / 2 ^ ((d : Nat) : Int).toNat = ((16 / 2 ^ d : Nat) : Int) := by
  rw [Int.toNat_natCast, Int.natCast_ediv, Int.natCast_pow]; rfl
section
variable {P : Program} {w : World} {K : PySem.W.Frag} {mg : Str → Option Value} {base : Heap}
/-! ### weight_in_parts -/
def spParts (K : PySem.W.Frag) : Sp := fun vs H Q _ => ∃ (a b : Addr) (n t : Nat) (es ps : List Nat), vs = [.int (t : Int), .ref a, .ref b] ∧ SqL K H a ((iN es).map V.int) ∧ es.length ≤ 22 ∧ SqL K H b ((iN ps).map V.int) ∧ Ok n es ps ∧ t < n ∧
  ∀ H', Same H H' → Q (.int ((((List.range n).map (wOne ⟨n, pairsOf es⟩ ps t)).sum : Nat) : Int)) H'
theorem ok_parts {f fD : Addr} {fd fdD : FuncData} {tk : Tok} (F : Fun K "weight_in_parts" "weight_in_parts" sParts f fd)
    (GD : FnOk P w K mg base CX0 2 fD fdD ["target", "edges"] (spDist K)) (kD : PySem.W.keepIn K (.ref fD) = true) (bD : Binds K fdD ["target", "edges"] []) (gD : mg "distances_to" = some (.ref fD))
    (mP : mg "PARTS_OF_A_PEBBLE" = some (.int 16 tk)) : FnOk P w K mg base CX0 3 f fd ["target", "edges", "pebbles"] (spParts K) := by
  refine F.ok scParts (fun vs H Q E h => ?_) (fun cdv A outer s H vs Q E hr h => ?_)
  · obtain ⟨a, b, n, t, es, ps, rfl, _⟩ := h
    rfl
  · obtain ⟨a, b, n, t, es, ps, rfl, hS, hlen, hT, ok, tn, q⟩ := h
    refine ⟨_, pss_cons (ps_set (i := 3) scParts.nd rfl (.inl rfl) pe_int)
      (pss_cons (ps_for PassesOwn.never rfl (pi_items (pe_frz (pe_call GD hr (by rfl) gD kD bD .nil pass0 (pa_cons (pv 0) (pa_cons (pv 1) pa_nil)))))
          (pg_tup rfl (pgs_cons (pg_name (i := 4) scParts.nd rfl (.inl rfl)) (pgs_cons (pg_name (i := 5) scParts.nd rfl (.inl rfl)) pgs_nil)))
        (pss_one (ps_set (i := 3) scParts.nd rfl (.inl rfl) (pe_op op_add (pv 3) (pe_op op_mul (pe_ix ix_list (pv 2) (pv 4) (fun _ _ => rfl)) (pe_op op_shr (pe_glob (v := .int 16) rfl mP ⟨_, rfl⟩) (pv 5)))))))
      (pss_one (ps_ret (pv 3)))), ?_⟩
    have n5 := ok.n5
    -- for vertex, distance in distances_to(target, edges).items()
    refine ⟨_, rfl, .ref a, rfl, a, n, t, es, rfl, hS, hlen, ok.fit, n5, tn, fun H2 d k ds s2 nd hd B => ⟨d, .dK (dkv ds), rfl, hd, trivial, fun od => ⟨d, od, dkv ds, rfl, upd_same, for_it walk_items
      (fun j σ H3 => ∃ y4 y5, σ = [some (.int (t : Int)), some (.ref a), some (.ref b), some (.int ((((ds.take j).map fun p => ps.getD p.1 0 * (16 / 2 ^ p.2)).sum : Nat) : Int)), y4, y5] ∧ Same H H3 ∧ H3 d = some (.frz od (.dK (dkv ds))))
      ⟨none, none, rfl, fun x o e => by rw [upd_ne (ne_of_none e nd)]; exact s2 _ _ e, upd_same⟩ (fun j σ H3 _ ⟨_, _, _, _, h⟩ => h) ?_ ?_⟩⟩⟩
    · rintro j x σ H3 H4 hj ⟨y4, y5, rfl, s3, hd3⟩ ⟨T, x1, x2, rfl, nT, rfl, hx1, hx2⟩
      rw [dkv_length] at hj
      have gp : ds[j]? = some ds[j] := List.getElem?_eq_getElem hj
      have mp : ds[j] ∈ ds := List.getElem_mem hj
      generalize ds[j] = p at gp mp
      have gk : (dkv ds)[j]? = some (Sum.inl (p.1 : Int), V.int (p.2 : Int)) := by
        unfold dkv
        rw [List.getElem?_map, gp]; rfl
      have hx1 : Option.map (fun kv : L2.Key × V => kV kv.1) (dkv ds)[j]? = some x1 := hx1
      have hx2 : Option.map Prod.snd (dkv ds)[j]? = some x2 := hx2
      rw [gk] at hx1 hx2
      have hx1 : V.int (p.1 : Int) = x1 := Option.some.inj hx1
      have hx2 : V.int (p.2 : Int) = x2 := Option.some.inj hx2
      subst hx1 hx2
      have s4 : Same H3 (upd H3 T (.tup [.int (p.1 : Int), .int (p.2 : Int)])) := same_upd nT
      have pl : p.1 < ps.length := by rw [ok.len]; exact B.lt mp
      have p12 : ps.getD p.1 0 ≤ 12 := Nat.le_trans (getD_le_sum ps p.1) ok.sum
      refine ⟨T, [.int (p.1 : Int), .int (p.2 : Int)], rfl, SqT.of upd_same, rfl, _, _, rfl, _, _, rfl, rfl, ?_⟩
      -- parts = parts + pebbles[vertex] * (PARTS_OF_A_PEBBLE >> distance)
      refine ⟨_, rfl, .ref b, rfl, _, rfl, b, _, _, _, rfl, rfl, (s3.trans s4).seq hT, at_of rfl (iN_get (getD_get pl)), _, rfl, _, _, rfl, rfl, Int.natCast_nonneg _, _, _, rfl, rfl, .inl ⟨?_, ?_⟩, _, _, rfl, rfl, ?_⟩
      · show -(2 ^ 64) < ((ps.getD p.1 0 : Nat) : Int)
        exact Int.lt_of_lt_of_le (by decide) (Int.natCast_nonneg _)
      · show ((ps.getD p.1 0 : Nat) : Int) < 2 ^ 64
        exact Int.lt_of_le_of_lt (by omega : ((ps.getD p.1 0 : Nat) : Int) ≤ 12) (by decide)
      · refine ⟨some (.int (p.1 : Int)), some (.int (p.2 : Int)), ?_, s3.trans s4, s4 _ _ hd3⟩
        have e1 : ((((ds.take j).map fun p => ps.getD p.1 0 * (16 / 2 ^ p.2)).sum : Nat) : Int) + ((ps.getD p.1 0 : Nat) : Int) * ((16 : Int) / 2 ^ ((p.2 : Nat) : Int).toNat) = ((((ds.take (j + 1)).map fun p => ps.getD p.1 0 * (16 / 2 ^ p.2)).sum : Nat) : Int) := by
          rw [shr_nat, ← Int.natCast_mul, ← Int.natCast_add, take_more gp, List.map_append, List.sum_append, List.map_singleton, List.sum_singleton]
        rw [← e1]
        rfl
    · rintro σ H3 ⟨y4, y5, rfl, s3, hd3⟩
      refine ⟨_, rfl, ?_⟩
      rw [dkv_length, List.take_length, parts_is B]
      exact q H3 s3
end
theorem scTerms : FnScope ["numerator", "denominator"] ["numerator", "denominator"] (defScope sTerms) := ⟨rfl, rfl, rfl, by decide +kernel, rfl, by decide +kernel, by decide +kernel⟩
theorem two_pow_gt {g : Nat} (h : (((2 ^ g : Nat) : Nat) : Int) > 1) : ∃ g', g = g' + 1 := by
  cases g with
  | zero => exact absurd h (by decide)
  | succ g => exact ⟨g, rfl⟩
theorem two_pow_le {g : Nat} (h : ¬ (((2 ^ g : Nat) : Nat) : Int) > 1) : g = 0 := by
  cases g with
  | zero => rfl
  | succ g =>
    have : 1 ≤ 2 ^ g := Nat.one_le_two_pow
    have e : 2 ^ (g + 1) = 2 * 2 ^ g := by rw [Nat.pow_succ, Nat.mul_comm]
    rw [e] at h
    omega
section
variable {P : Program} {w : World} {K : PySem.W.Frag} {mg : Str → Option Value} {base : Heap}
/-! ### lowest_terms -/
def spTerms : Sp := fun vs H Q _ => ∃ (a e : Nat), vs = [.int (a : Int), .int ((2 ^ e : Nat) : Int)] ∧
  ∀ H' p, Same H H' → H' p = some (.lst [.int (Ks577.Rational.make (a : Int) (2 ^ e)).num, .int ((Ks577.Rational.make (a : Int) (2 ^ e)).den : Int)]) → Q (.ref p) H'
theorem ok_terms {f : Addr} {fd : FuncData} {k : Nat} (F : Fun K "lowest_terms" "lowest_terms" sTerms f fd) : FnOk P w K mg base CX0 (k + 1) f fd ["numerator", "denominator"] spTerms := by
  refine F.ok scTerms (fun vs H Q E h => ?_) (fun cdv A outer s H vs Q E hr h => ?_)
  · obtain ⟨a, e, rfl, _⟩ := h
    rfl
  · obtain ⟨a, e, rfl, q⟩ := h
    refine ⟨_, pss_cons (ps_while PassesOwn.never (PW.pt (pw_and (pt_cmpR op_gt (pv 1) pe_int (nomark _)) (pw_and1 (pt_cmpR op_eq (pe_op op_mod (pv 0) pe_int) pe_int (nomark _)))))
        (pss_cons (ps_set (i := 0) scTerms.nd rfl (.inl rfl) (pe_op op_fdiv (pv 0) pe_int))
        (pss_one (ps_set (i := 1) scTerms.nd rfl (.inl rfl) (pe_op op_fdiv (pv 1) pe_int)))))
      (pss_one (ps_ret (pe_lst (pa_cons (pv 0) (pa_cons (pv 1) pa_nil))))), ?_⟩
    -- while denominator > 1 and numerator % 2 == 0
    refine ⟨fun g σ H5 => ∃ x : Nat, σ = [some (.int (x : Int)), some (.int ((2 ^ g : Nat) : Int))] ∧ H5 = H ∧ Ks577.Rational.make (x : Int) (2 ^ g) = Ks577.Rational.make (a : Int) (2 ^ e), ⟨e, a, rfl, rfl, rfl⟩, ?_⟩
    rintro g σ H5 ⟨x, rfl, rfl, em⟩
    have out : (g = 0 ∨ x % 2 = 1) → ∀ p, H5 p = none → Q (.ref p) (upd H5 p (.lst [.int (x : Int), .int ((2 ^ g : Nat) : Int)])) := fun c p np => by
      refine q _ p (same_upd np) ?_
      rw [upd_same, ← em, make_low c]
    refine ⟨_, rfl, _, _, rfl, rfl, _, rfl, ite2 (fun c1 => ?_) (fun c1 => ?_)⟩
    · rw [decide_eq_true_iff] at c1
      obtain ⟨g', rfl⟩ := two_pow_gt c1
      refine ⟨_, rfl, _, _, rfl, rfl, (by show (0 : Int) < 2; decide), rfl, _, rfl, ite2 (fun c2 => ?_) (fun c2 => ?_)⟩
      · have c2 : (x : Int) % 2 = 0 := by
          have := of_decide_eq_true c2
          injection this
        obtain ⟨y, rfl⟩ : ∃ y, x = 2 * y := ⟨x / 2, by omega⟩
        refine ⟨fun σ' H' => ∃ x : Nat, σ' = [some (.int (x : Int)), some (.int ((2 ^ g' : Nat) : Int))] ∧ H' = H5 ∧ Ks577.Rational.make (x : Int) (2 ^ g') = Ks577.Rational.make (a : Int) (2 ^ e), fun σ' H' h => ⟨g', Nat.lt_succ_self _, h⟩, ?_⟩
        -- numerator = numerator // 2; denominator = denominator // 2
        refine ⟨_, rfl, _, _, rfl, rfl, ⟨by decide, by decide⟩, _, rfl, _, _, rfl, rfl, ⟨by decide, by decide⟩, y, ?_, rfl, ?_⟩
        · have e2 : 2 ^ (g' + 1) = 2 * 2 ^ g' := by rw [Nat.pow_succ, Nat.mul_comm]
          have e3 : ((2 * y : Nat) : Int) / 2 = (y : Int) := by omega
          have e4 : ((2 ^ (g' + 1) : Nat) : Int) / 2 = ((2 ^ g' : Nat) : Int) := by rw [e2]; omega
          show [some (V.int (((2 * y : Nat) : Int) / 2)), some (V.int (((2 ^ (g' + 1) : Nat) : Int) / 2))] = _
          rw [e3, e4]
        · rw [← em, Nat.pow_succ, Nat.mul_comm (2 ^ g') 2, make_half (Nat.pow_pos (by decide))]
      · have c2 : x % 2 = 1 := by
          have : ¬ (x : Int) % 2 = 0 := fun z => c2 (by
            show decide (V.int ((x : Int) % 2) = V.int 0) = true
            rw [z]; rfl)
          omega
        exact ⟨_, rfl, _, rfl, (by show 2 ≤ sizeLine; decide), out (.inr c2)⟩
    · rw [decide_eq_true_iff] at c1
      have g0 := two_pow_le c1
      exact iteF ⟨_, rfl, _, rfl, (by show 2 ≤ sizeLine; decide), out (.inl g0)⟩
end
theorem scWeight : FnScope ["vertex_count", "target", "edges", "pebbles", "error"] ["vertex_count", "target", "edges", "pebbles"] (defScope sWeight) := ⟨rfl, rfl, rfl, by decide +kernel, rfl, by decide +kernel, by decide +kernel⟩
def dueWeight (n t : Nat) (es ps : List Nat) : List Int := Ks577Neutral.integers (Ks577.answer (.weightAt n t es ps))
section
variable {P : Program} {w : World} {K : PySem.W.Frag} {mg : Str → Option Value} {base : Heap}
/-! ### weight_at -/
def spWeight (K : PySem.W.Frag) : Sp := fun vs H Q _ => ∃ (a b : Addr) (n t : Nat) (es ps : List Nat), vs = [.int (n : Int), .int (t : Int), .ref a, .ref b] ∧ SqL K H a ((iN es).map V.int) ∧ es.length ≤ 22 ∧ SqL K H b ((iN ps).map V.int) ∧
  ∀ H' p, Same H H' → H' p = some (.lst ((dueWeight n t es ps).map V.int)) → Q (.ref p) H'
theorem ok_weight {f fT fP fL : Addr} {fd fdT fdP fdL : FuncData} {tk : Tok} (F : Fun K "weight_at" "weight_at" sWeight f fd)
    (GT : FnOk P w K mg base CX0 3 fT fdT ["vertex_count", "target", "edges", "pebbles"] (spTarget K)) (kT : PySem.W.keepIn K (.ref fT) = true) (bT : Binds K fdT ["vertex_count", "target", "edges", "pebbles"] []) (gT : mg "target_error" = some (.ref fT))
    (GP : FnOk P w K mg base CX0 3 fP fdP ["target", "edges", "pebbles"] (spParts K)) (kP : PySem.W.keepIn K (.ref fP) = true) (bP : Binds K fdP ["target", "edges", "pebbles"] []) (gP : mg "weight_in_parts" = some (.ref fP))
    (GL : FnOk P w K mg base CX0 1 fL fdL ["numerator", "denominator"] spTerms) (kL : PySem.W.keepIn K (.ref fL) = true) (bL : Binds K fdL ["numerator", "denominator"] []) (gL : mg "lowest_terms" = some (.ref fL))
    (mP : mg "PARTS_OF_A_PEBBLE" = some (.int 16 tk)) : FnOk P w K mg base CX0 4 f fd ["vertex_count", "target", "edges", "pebbles"] (spWeight K) := by
  refine F.ok scWeight (fun vs H Q E h => ?_) (fun cdv A outer s H vs Q E hr h => ?_)
  · obtain ⟨a, b, n, t, es, ps, rfl, _⟩ := h
    rfl
  · obtain ⟨a, b, n, t, es, ps, rfl, hS, hlen, hT, q⟩ := h
    refine ⟨_, pss_cons (ps_set (i := 4) scWeight.nd rfl (.inl rfl) (pe_call GT hr (by rfl) gT kT bT .nil pass0 (pa_cons (pv 0) (pa_cons (pv 1) (pa_cons (pv 2) (pa_cons (pv 3) pa_nil))))))
      (pss_cons (ps_if (pt_cmpR op_ne (pv 4) pe_int (nomark _)) (pss_one (ps_ret (pe_lst (pa_cons (pv 4) pa_nil)))) pss_nil)
      (pss_one (ps_ret (pe_op op_cat (pe_lst (pa_cons pe_int pa_nil)) (pe_call GL (hr.mono (by decide)) (by rfl) gL kL bL .nil pass0
        (pa_cons (pe_call GP hr (by rfl) gP kP bP .nil pass0 (pa_cons (pv 1) (pa_cons (pv 2) (pa_cons (pv 3) pa_nil)))) (pa_cons (pe_glob (v := .int 16) rfl mP ⟨_, rfl⟩) pa_nil))))))), ?_⟩
    have ed : dueWeight n t es ps = if tgtErr n t es ps = 0 then [0, (Ks577.weightAt ⟨n, pairsOf es⟩ ps t).num, ((Ks577.weightAt ⟨n, pairsOf es⟩ ps t).den : Int)] else [tgtErr n t es ps] :=
      tgt_due n t es ps fun g c => { value := 0, rest := Ks577.pairs [Ks577.weightAt g c t] }
    rw [ed] at q
    clear ed
    -- error = target_error(..)
    refine ⟨_, rfl, _, rfl, _, rfl, _, rfl, a, b, n, t, es, ps, rfl, hS, by omega, hT, fun H1 s1 => ⟨_, rfl, rfl, _, rfl, ?_⟩⟩
    rw [ne_zero]
    refine ite2 (fun c => ?_) (fun c => ?_)
    · have c := of_decide_eq_true c
      rw [if_neg c] at q
      exact ⟨_, rfl, (by show 1 ≤ sizeLine; decide), fun p np => q _ p (s1.trans (same_upd np)) upd_same⟩
    have c : tgtErr n t es ps = 0 := by
      rw [decide_eq_true_iff] at c
      exact Decidable.not_not.mp c
    rw [if_pos c] at q
    obtain ⟨ok, tn⟩ := tgt_ok c
    rw [weight_is (g := ⟨n, pairsOf es⟩) ok.n5] at q
    -- return [0] + lowest_terms(weight_in_parts(target, edges, pebbles), PARTS_OF_A_PEBBLE)
    refine ⟨(by show 1 ≤ sizeLine; decide), fun h nh => ?_⟩
    have s2 : Same H1 (upd H1 h (.lst [.int 0])) := same_upd nh
    have s02 := s1.trans s2
    have hh : (upd H1 h (.lst [.int 0])) h = some (.lst [.int 0]) := upd_same
    generalize upd H1 h (.lst [.int 0]) = H2 at s2 s02 hh
    refine ⟨_, rfl, .ref a, rfl, .ref b, rfl, a, b, n, t, es, ps, rfl, s02.seq hS, hlen, s02.seq hT, ok, tn, fun H3 s3 => ?_⟩
    refine ⟨_, 4, rfl, fun H4 p s4 hp => ?_⟩
    refine ⟨h, p, _, _, rfl, rfl, s4 _ _ (s3 _ _ hh), hp, (by show 1 + 2 ≤ sizeLine; decide), fun r nr => q _ r ((s02.trans s3).trans (s4.trans (same_upd nr))) ?_⟩
    rw [upd_same]; rfl
end
/-! ### the end: what the top has written -/
theorem all_mk {P : Program} {w : World} {K : PySem.W.Frag} {h : Heap} {mg : Str → Option Value} {fa f1 f2 f3 f4 f5 f6 f7 f8 f9 : Addr} (X : K.In h) (G : h.Ns mainGlobals mg) (hfa : mg "weight_at" = some (.ref fa))
    {tk0 tk1 tk2 : Tok}    {od1 an1 od2 an2 od3 an3 od4 an4 od5 an5 od6 an6 od7 an7 od8 an8 od9 an9 : Option Addr} {sl1 sl2 sl3 sl4 sl5 sl6 sl7 sl8 sl9 : Array (Option Value)} {oc1 kV1 dc1 pm1 cd1 ct1 oc2 kV2 dc2 pm2 cd2 ct2 oc3 kV3 dc3 pm3 cd3 ct3 oc4 kV4 dc4 pm4 cd4 ct4 oc5 kV5 dc5 pm5 cd5 ct5 oc6 kV6 dc6 pm6 cd6 ct6 oc7 kV7 dc7 pm7 cd7 ct7 oc8 kV8 dc8 pm8 cd8 ct8 oc9 kV9 dc9 pm9 cd9 ct9 : Value}
    (v0 : PySem.W.nsIn K mainGlobals "MAX_VERTICES" = some (some (.int 5 tk0)))
    (v1 : PySem.W.nsIn K mainGlobals "MAX_PEBBLES" = some (some (.int 12 tk1)))
    (v2 : PySem.W.nsIn K mainGlobals "PARTS_OF_A_PEBBLE" = some (some (.int 16 tk2)))
    (a1 : PySem.W.nsIn K mainGlobals "edges_fit" = some (some (.ref f1))) (l1 : K.lookup f1 = some ⟨oc1, od1, .func (PySem.W.fnOf "edges_fit" "edges_fit" (defArgs sEdges) (defBody sEdges) (defScope sEdges) .none kV1 dc1 pm1 an1 cd1 ct1), sl1⟩) (c1 : PySem.W.codeIn K cd1 "edges_fit" = true) (k1 : PySem.W.keepIn K (.ref f1) = true)
    (a2 : PySem.W.nsIn K mainGlobals "pebbles_fit" = some (some (.ref f2))) (l2 : K.lookup f2 = some ⟨oc2, od2, .func (PySem.W.fnOf "pebbles_fit" "pebbles_fit" (defArgs sPebbles) (defBody sPebbles) (defScope sPebbles) .none kV2 dc2 pm2 an2 cd2 ct2), sl2⟩) (c2 : PySem.W.codeIn K cd2 "pebbles_fit" = true) (k2 : PySem.W.keepIn K (.ref f2) = true)
    (a3 : PySem.W.nsIn K mainGlobals "limits_error" = some (some (.ref f3))) (l3 : K.lookup f3 = some ⟨oc3, od3, .func (PySem.W.fnOf "limits_error" "limits_error" (defArgs sLimits) (defBody sLimits) (defScope sLimits) .none kV3 dc3 pm3 an3 cd3 ct3), sl3⟩) (c3 : PySem.W.codeIn K cd3 "limits_error" = true) (k3 : PySem.W.keepIn K (.ref f3) = true)
    (a4 : PySem.W.nsIn K mainGlobals "target_error" = some (some (.ref f4))) (l4 : K.lookup f4 = some ⟨oc4, od4, .func (PySem.W.fnOf "target_error" "target_error" (defArgs sTarget) (defBody sTarget) (defScope sTarget) .none kV4 dc4 pm4 an4 cd4 ct4), sl4⟩) (c4 : PySem.W.codeIn K cd4 "target_error" = true) (k4 : PySem.W.keepIn K (.ref f4) = true)
    (a5 : PySem.W.nsIn K mainGlobals "moves_along" = some (some (.ref f5))) (l5 : K.lookup f5 = some ⟨oc5, od5, .func (PySem.W.fnOf "moves_along" "moves_along" (defArgs sMoves) (defBody sMoves) (defScope sMoves) .none kV5 dc5 pm5 an5 cd5 ct5), sl5⟩) (c5 : PySem.W.codeIn K cd5 "moves_along" = true) (k5 : PySem.W.keepIn K (.ref f5) = true)
    (a6 : PySem.W.nsIn K mainGlobals "distances_to" = some (some (.ref f6))) (l6 : K.lookup f6 = some ⟨oc6, od6, .func (PySem.W.fnOf "distances_to" "distances_to" (defArgs sDist) (defBody sDist) (defScope sDist) .none kV6 dc6 pm6 an6 cd6 ct6), sl6⟩) (c6 : PySem.W.codeIn K cd6 "distances_to" = true) (k6 : PySem.W.keepIn K (.ref f6) = true)
    (a7 : PySem.W.nsIn K mainGlobals "weight_in_parts" = some (some (.ref f7))) (l7 : K.lookup f7 = some ⟨oc7, od7, .func (PySem.W.fnOf "weight_in_parts" "weight_in_parts" (defArgs sParts) (defBody sParts) (defScope sParts) .none kV7 dc7 pm7 an7 cd7 ct7), sl7⟩) (c7 : PySem.W.codeIn K cd7 "weight_in_parts" = true) (k7 : PySem.W.keepIn K (.ref f7) = true)
    (a8 : PySem.W.nsIn K mainGlobals "lowest_terms" = some (some (.ref f8))) (l8 : K.lookup f8 = some ⟨oc8, od8, .func (PySem.W.fnOf "lowest_terms" "lowest_terms" (defArgs sTerms) (defBody sTerms) (defScope sTerms) .none kV8 dc8 pm8 an8 cd8 ct8), sl8⟩) (c8 : PySem.W.codeIn K cd8 "lowest_terms" = true) (k8 : PySem.W.keepIn K (.ref f8) = true)
    (a9 : PySem.W.nsIn K mainGlobals "weight_at" = some (some (.ref f9))) (l9 : K.lookup f9 = some ⟨oc9, od9, .func (PySem.W.fnOf "weight_at" "weight_at" (defArgs sWeight) (defBody sWeight) (defScope sWeight) .none kV9 dc9 pm9 an9 cd9 ct9), sl9⟩) (c9 : PySem.W.codeIn K cd9 "weight_at" = true) (k9 : PySem.W.keepIn K (.ref f9) = true)
    (z0 : PySem.W.nsIn K mainGlobals "len" = some none)
    (z1 : PySem.W.nsIn K mainGlobals "range" = some none)
    (z2 : PySem.W.nsIn K mainGlobals "sum" = some none)
    (z3 : PySem.W.nsIn K mainGlobals "sorted" = some none)
    : ∃ fd : FuncData, (∀ (s : Shared) (us : List Value), us.length = (["vertex_count", "target", "edges", "pebbles"] : List Str).length → BindsTo s fd ⟨us, []⟩ ((["vertex_count", "target", "edges", "pebbles"] : List Str).zip us)) ∧ ∀ base : Heap, K.In base → base.Ns mainGlobals mg → FnOk P w K mg base CX0 4 fa fd ["vertex_count", "target", "edges", "pebbles"] (spWeight K) := by
  have e := hfa.symm.trans (PySem.W.mg_of X G a9)
  cases e
  have F1 := fun_mk (st := sEdges) l1 c1 k1
  have b1 := F1.binds (ps := ["vertex_count", "edges"]) fun _ _ _ _ _ _ us hl => match us, hl with | [_, _], _ => rfl
  have F2 := fun_mk (st := sPebbles) l2 c2 k2
  have b2 := F2.binds (ps := ["vertex_count", "pebbles"]) fun _ _ _ _ _ _ us hl => match us, hl with | [_, _], _ => rfl
  have F3 := fun_mk (st := sLimits) l3 c3 k3
  have b3 := F3.binds (ps := ["vertex_count", "edges", "pebbles"]) fun _ _ _ _ _ _ us hl => match us, hl with | [_, _, _], _ => rfl
  have F4 := fun_mk (st := sTarget) l4 c4 k4
  have b4 := F4.binds (ps := ["vertex_count", "target", "edges", "pebbles"]) fun _ _ _ _ _ _ us hl => match us, hl with | [_, _, _, _], _ => rfl
  have F5 := fun_mk (st := sMoves) l5 c5 k5
  have b5 := F5.binds (ps := ["edges"]) fun _ _ _ _ _ _ us hl => match us, hl with | [_], _ => rfl
  have F6 := fun_mk (st := sDist) l6 c6 k6
  have b6 := F6.binds (ps := ["target", "edges"]) fun _ _ _ _ _ _ us hl => match us, hl with | [_, _], _ => rfl
  have F7 := fun_mk (st := sParts) l7 c7 k7
  have b7 := F7.binds (ps := ["target", "edges", "pebbles"]) fun _ _ _ _ _ _ us hl => match us, hl with | [_, _, _], _ => rfl
  have F8 := fun_mk (st := sTerms) l8 c8 k8
  have b8 := F8.binds (ps := ["numerator", "denominator"]) fun _ _ _ _ _ _ us hl => match us, hl with | [_, _], _ => rfl
  have F9 := fun_mk (st := sWeight) l9 c9 k9
  have m0 := PySem.W.mg_none_of X G z0
  have m1 := PySem.W.mg_none_of X G z1
  have m2 := PySem.W.mg_none_of X G z2
  have m3 := PySem.W.mg_none_of X G z3
  refine ⟨PySem.W.fnOf "weight_at" "weight_at" (defArgs sWeight) (defBody sWeight) (defScope sWeight) .none kV9 dc9 pm9 an9 cd9 ct9, fun s us hu => match us, hu with | [_, _, _, _], _ => .of_eq rfl, fun base _ _ => ?_⟩
  have G1 := ok_edges (P := P) (w := w) (base := base) (k := 0) F1 m0 m1
  have G2 := ok_pebbles (P := P) (w := w) (base := base) (k := 0) F2 m0 m2 (PySem.W.mg_of X G v1)
  have G3 := ok_limits (P := P) (w := w) (base := base) (k := 0) F3 G1 k1 b1 (PySem.W.mg_of X G a1) G2 k2 b2 (PySem.W.mg_of X G a2) (PySem.W.mg_of X G v0)
  have G4 := ok_target (P := P) (w := w) (base := base) (k := 0) F4 G3 k3 b3 (PySem.W.mg_of X G a3)
  have G5 := ok_moves (P := P) (w := w) (base := base) (k := 0) F5 m0 m1 m3
  have G6 := ok_dist (P := P) (w := w) (base := base) F6 G5 k5 b5 (PySem.W.mg_of X G a5) m0
  have G7 := ok_parts (P := P) (w := w) (base := base) F7 G6 k6 b6 (PySem.W.mg_of X G a6) (PySem.W.mg_of X G v2)
  have G8 := ok_terms (P := P) (w := w) (base := base) (k := 0) (mg := mg) F8 
  exact ok_weight (P := P) (w := w) (base := base) F9 G4 k4 b4 (PySem.W.mg_of X G a4) G7 k7 b7 (PySem.W.mg_of X G a7) G8 k8 b8 (PySem.W.mg_of X G a8) (PySem.W.mg_of X G v2)
/-! ### the request -/
theorem nat_int {lo hi : Int} {x : Int} (h : 0 ≤ x) : ∃ n : Nat, x = (n : Int) := ⟨x.toNat, by omega⟩
theorem nat_list : ∀ {l : List Int}, (∀ x ∈ l, 0 ≤ x) → ∃ ns : List Nat, l = iN ns
  | [], _ => ⟨[], rfl⟩
  | x :: r, h => by
    obtain ⟨ns, e⟩ := nat_list (l := r) fun y hy => h y (List.mem_cons_of_mem _ hy)
    have h0 := h x (List.mem_cons_self ..)
    exact ⟨x.toNat :: ns, by rw [e]; show x :: iN ns = ((x.toNat : Nat) : Int) :: iN ns; rw [Int.toNat_of_nonneg h0]⟩
theorem toNat_iN : ∀ l : List Nat, (iN l).map Int.toNat = l
  | [] => rfl
  | x :: r => by
    show ((x : Int)).toNat :: (iN r).map Int.toNat = x :: r
    rw [toNat_iN r]; rfl
end Peb
open PySem PySem.W PyProof.Rows
set_option maxRecDepth 100000 in
set_option maxHeartbeats 16000000 in
theorem PySem.Challenge.cw_halvedpebbles_s05_weight_at_holds : PySem.Challenge.rw_halvedpebbles_s05_weight_at.Holds := by
  w_on; k_headS; (case hw => exact ⟨[.int 0, .int 0, .list [], .list []], by decide +kernel, by decide +kernel⟩)
  k_fillS
  refine L2.walk_specK (r := PySem.Challenge.rw_halvedpebbles_s05_weight_at) (k := 4) (CX := L2.CX0) (ps := ["vertex_count", "target", "edges", "pebbles"]) (sp := Peb.spWeight) (by decide +kernel) rfl rfl ⟨rfl, by decide, by decide⟩ (fun w h Y => PySem.W.kIn_of Y) ?F ?S (fun _ _ _ _ z => z)
  case F =>
    intro w mg fa h Y KX G hmg
    refine' Peb.all_mk KX G hmg ?v0 ?v1 ?v2 ?a1 ?l1 ?c1 ?k1 ?a2 ?l2 ?c2 ?k2 ?a3 ?l3 ?c3 ?k3 ?a4 ?l4 ?c4 ?k4 ?a5 ?l5 ?c5 ?k5 ?a6 ?l6 ?c6 ?k6 ?a7 ?l7 ?c7 ?k7 ?a8 ?l8 ?c8 ?k8 ?a9 ?l9 ?c9 ?k9 ?z0 ?z1 ?z2 ?z3
    (case v0 => k_is); (case v1 => k_is); (case v2 => k_is); (case a1 => k_is); (case l1 => k_is); (case c1 => k_is); (case k1 => k_is); (case a2 => k_is); (case l2 => k_is); (case c2 => k_is); (case k2 => k_is); (case a3 => k_is); (case l3 => k_is); (case c3 => k_is); (case k3 => k_is); (case a4 => k_is); (case l4 => k_is); (case c4 => k_is); (case k4 => k_is); (case a5 => k_is); (case l5 => k_is); (case c5 => k_is); (case k5 => k_is); (case a6 => k_is); (case l6 => k_is); (case c6 => k_is); (case k6 => k_is); (case a7 => k_is); (case l7 => k_is); (case c7 => k_is); (case k7 => k_is); (case a8 => k_is); (case l8 => k_is); (case c8 => k_is); (case k8 => k_is); (case a9 => k_is); (case l9 => k_is); (case c9 => k_is); (case k9 => k_is); (case z0 => k_is); (case z1 => k_is); (case z2 => k_is); (case z3 => k_is)
  case S =>
    intro K H xs a hO hwi hask hx
    obtain ⟨v0, v1, v2, v3, u⟩ := a
    have q : (Codec.inInt 0 4294967295 v0 && (Codec.inInt 0 4294967295 v1 && ((Codec.inLen 0 22 v2 && v2.all (Codec.inInt 0 4294967295)) && ((Codec.inLen 0 7 v3 && v3.all (Codec.inInt 0 4294967295)) && true)))) = true := hwi
    simp only [Bool.and_eq_true, List.all_eq_true, Codec.inInt_iff] at q
    obtain ⟨⟨pv0, _⟩, ⟨pv1, _⟩, ⟨lv2, pv2⟩, ⟨lv3, pv3⟩, _⟩ := q
    obtain ⟨v0, rfl⟩ := Int.eq_ofNat_of_zero_le pv0
    obtain ⟨v1, rfl⟩ := Int.eq_ofNat_of_zero_le pv1
    obtain ⟨v2, rfl⟩ := Peb.nat_list fun x hx => (pv2 x hx).1
    have lv2 : (Peb.iN v2).length ≤ 22 := (Codec.inNat_iff.mp lv2).2
    unfold Peb.iN at lv2
    rw [List.length_map] at lv2
    obtain ⟨v3, rfl⟩ := Peb.nat_list fun x hx => (pv3 x hx).1
    have lv3 : (Peb.iN v3).length ≤ 7 := (Codec.inNat_iff.mp lv3).2
    unfold Peb.iN at lv3
    rw [List.length_map] at lv3
    cases hx with
    | cons h0 hx =>
      cases hx with
      | cons h1 hx =>
        cases hx with
        | cons h2 hx =>
          cases hx with
          | cons h3 hx =>
            cases hx
            cases h0
            cases h1
            cases h2 with
            | lst s2 a2 =>
              have e2 := L2.ints_dw (Peb.iN v2) _ a2
              subst e2
              cases h3 with
              | lst s3 a3 =>
                have e3 := L2.ints_dw (Peb.iN v3) _ a3
                subst e3
                refine ⟨_, _, v0, v1, v2, v3, rfl, s2, lv2, s3, fun H' p _ hp => ?_⟩
                have ed : Codec.app PySem.Challenge.rw_halvedpebbles_s05_weight_at.args PySem.Challenge.rw_halvedpebbles_s05_weight_at.f ((v0 : Int), (v1 : Int), Peb.iN v2, Peb.iN v3, u) = Peb.dueWeight v0 v1 v2 v3 := by
                  show Ks577Neutral.integers (Ks577.answer (.weightAt ((v0 : Int)).toNat ((v1 : Int)).toNat ((Peb.iN v2).map Int.toNat) ((Peb.iN v3).map Int.toNat))) = _
                  rw [Peb.toNat_iN, Peb.toNat_iN]
                  rfl
                show L2.Dw K H' (.ref p) (PySem.Challenge.rw_halvedpebbles_s05_weight_at.ret.enc (Codec.app PySem.Challenge.rw_halvedpebbles_s05_weight_at.args PySem.Challenge.rw_halvedpebbles_s05_weight_at.f ((v0 : Int), (v1 : Int), Peb.iN v2, Peb.iN v3, u)))
                rw [ed]
                exact .lst (L2.SqL.of hp) (L2.dw_ints _)
#print axioms PySem.Challenge.cw_halvedpebbles_s05_weight_at_holds
