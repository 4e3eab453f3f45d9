import PyProof.Rows.All
import Wide.All
import OpenK.AllK
import Wide.FinOn
import Open.SpecLaws
import KE.OsGo
import HandS.ForSpec
import HandS.Dict
import HandS.Comp
import HandS.Iter
import HandS.Conv
import HandS.TupLe
import HandS.WordsDict
import HandS.DictTup
import HandS.SortRule
import HandS.TupLen
import HandS.TupAny
import HandS.Walk
import KE.KDictDisplayH
import PyProof.DictMoreH
import HandS.Deep
import PySem.Challenge.RW_halvedpebbles_s07_apply_moves
set_option Elab.async false
set_option linter.all false
set_option maxRecDepth 100000
set_option maxHeartbeats 4000000
namespace Peb
open Ks577 (Graph Configuration pebblesAt canMove isAdjacent possibleMoves successors levelsFrom levels minMoves maxPebblesAt parseEdges parseGraph isValidConfiguration)
/-! ### the edges' list -/
def pairsOf : List Nat → List (Nat × Nat)
  | u :: v :: r => (u, v) :: pairsOf r
  | _ => []
def ltP (a b : Nat × Nat) : Prop := a.1 < b.1 ∨ (a.1 = b.1 ∧ a.2 < b.2)
instance (a b : Nat × Nat) : Decidable (ltP a b) := by unfold ltP; infer_instance
/-- from the pair before on, all is in order -/
def fitsFrom (n : Nat) : Nat × Nat → List Nat → Bool
  | p, u :: v :: r => if v ≤ u ∨ n ≤ v ∨ ¬ ltP p (u, v) then false else fitsFrom n (u, v) r
  | _, _ => true
def edgesFit (n : Nat) (es : List Nat) : Bool := decide (es.length % 2 = 0) && fitsFrom n (0, 0) es
theorem fits_nil {n : Nat} {p : Nat × Nat} : fitsFrom n p [] = true := rfl
theorem fits_bad {n u v : Nat} {p : Nat × Nat} {r : List Nat} (h : v ≤ u ∨ n ≤ v ∨ ¬ ltP p (u, v)) : fitsFrom n p (u :: v :: r) = false := if_pos h
theorem fits_good {n u v : Nat} {p : Nat × Nat} {r : List Nat} (h : ¬ (v ≤ u ∨ n ≤ v ∨ ¬ ltP p (u, v))) : fitsFrom n p (u :: v :: r) = fitsFrom n (u, v) r := if_neg h
/-- what parseEdges says of a list, given the pair before -/
theorem parse_fits (n : Nat) : ∀ (es : List Nat) (p : Nat × Nat), es.length % 2 = 0 →
    ((fitsFrom n p es = true ↔ (parseEdges n es = some (pairsOf es) ∧ ∀ q r, pairsOf es = q :: r → ltP p q)) ∧ (parseEdges n es = some (pairsOf es) ∨ parseEdges n es = none))
  | [], p, _ => ⟨⟨fun _ => ⟨rfl, fun q r e => by cases e⟩, fun _ => rfl⟩, .inl rfl⟩
  | [_], _, h => by simp at h
  | u :: v :: r, p, h => by
    have hr : r.length % 2 = 0 := by simp only [List.length_cons] at h; omega
    obtain ⟨ih, ih2⟩ := parse_fits n r (u, v) hr
    by_cases b : v ≤ u ∨ n ≤ v
    · have e : parseEdges n (u :: v :: r) = none := by unfold parseEdges; rw [if_pos b]
      refine ⟨⟨fun f => ?_, fun f => ?_⟩, .inr e⟩
      · rw [fits_bad (by rcases b with b | b <;> simp [b])] at f; cases f
      · rw [e] at f; cases f.1
    · have hl : pairsOf (u :: v :: r) = (u, v) :: pairsOf r := rfl
      have e : parseEdges n (u :: v :: r) = match parseEdges n r with
        | none => none
        | some edges => match edges with
          | [] => some [(u, v)]
          | next :: _ => if u < next.1 ∨ (u = next.1 ∧ v < next.2) then some ((u, v) :: edges) else none := by
        conv => lhs; unfold parseEdges
        rw [if_neg b]
        rfl
      have key : fitsFrom n (u, v) r = true ↔ parseEdges n (u :: v :: r) = some (pairsOf (u :: v :: r)) := by
        rw [ih, e, hl]
        rcases ih2 with q | q
        · rw [q]
          cases hp : pairsOf r with
          | nil => simp
          | cons a t =>
            simp only [Option.some.injEq, true_and]
            constructor
            · intro z
              have := z a t rfl
              exact if_pos this
            · intro z q' r' e'
              cases e'
              by_cases c : u < a.1 ∨ (u = a.1 ∧ v < a.2)
              · exact c
              · rw [if_neg c] at z; cases z
        · rw [q]; simp
      refine ⟨⟨fun f => ?_, fun f => ?_⟩, ?_⟩
      · by_cases c : ltP p (u, v)
        · rw [fits_good (by simp only [not_or, Decidable.not_not]; exact ⟨fun z => b (.inl z), fun z => b (.inr z), c⟩)] at f
          refine ⟨key.mp f, fun q t e' => ?_⟩
          rw [hl] at e'; cases e'; exact c
        · rw [fits_bad (.inr (.inr c))] at f; cases f
      · have c := f.2 (u, v) _ hl
        rw [fits_good (by simp only [not_or, Decidable.not_not]; exact ⟨fun z => b (.inl z), fun z => b (.inr z), c⟩)]
        exact key.mpr f.1
      · rw [e, hl]
        rcases ih2 with q | q
        · rw [q]
          cases hp : pairsOf r with
          | nil => exact .inl rfl
          | cons a t =>
            by_cases c : u < a.1 ∨ (u = a.1 ∧ v < a.2)
            · exact .inl (if_pos c)
            · exact .inr (if_neg c)
        · rw [q]; exact .inr rfl
theorem parse_odd (n : Nat) : ∀ (es : List Nat), es.length % 2 = 1 → parseEdges n es = none
  | [], h => by simp at h
  | [x], _ => by unfold parseEdges; rfl
  | u :: v :: r, h => by
    have hr : r.length % 2 = 1 := by simp only [List.length_cons] at h; omega
    unfold parseEdges
    rw [parse_odd n r hr]
    split <;> rfl
theorem parse_is (n : Nat) (es : List Nat) : parseEdges n es = if edgesFit n es = true then some (pairsOf es) else none := by
  by_cases h : es.length % 2 = 0
  · obtain ⟨h1, h2⟩ := parse_fits n es (0, 0) h
    have h0 : parseEdges n es = some (pairsOf es) → ∀ q r, pairsOf es = q :: r → ltP (0, 0) q := by
      intro e q r hq
      cases es with
      | nil => cases hq
      | cons u t =>
        cases t with
        | nil => cases hq
        | cons v t =>
          cases hq
          by_cases b : v ≤ u ∨ n ≤ v
          · unfold parseEdges at e; rw [if_pos b] at e; cases e
          · show 0 < u ∨ (0 = u ∧ 0 < v); omega
    have e1 : edgesFit n es = fitsFrom n (0, 0) es := by unfold edgesFit; rw [decide_eq_true h]; rfl
    rw [e1]
    by_cases f : fitsFrom n (0, 0) es = true
    · rw [if_pos f]; exact (h1.mp f).1
    · rw [if_neg f]
      rcases h2 with z | z
      · exact absurd (h1.mpr ⟨z, h0 z⟩) f
      · exact z
  · rw [parse_odd n es (by omega), if_neg (by unfold edgesFit; rw [decide_eq_false h]; simp)]
/-! ### the moves along the edges -/
def movesOf : List (Nat × Nat) → List (Nat × Nat)
  | e :: r => (e.1, e.2) :: (e.2, e.1) :: movesOf r
  | [] => []
theorem mem_movesOf {m : Nat × Nat} : ∀ {l : List (Nat × Nat)}, m ∈ movesOf l ↔ ∃ e ∈ l, m = (e.1, e.2) ∨ m = (e.2, e.1)
  | [] => by simp [movesOf]
  | e :: r => by
    simp only [movesOf, List.mem_cons, mem_movesOf (l := r)]
    constructor
    · rintro (h | h | ⟨f, hf, h⟩)
      · exact ⟨e, .inl rfl, .inl h⟩
      · exact ⟨e, .inl rfl, .inr h⟩
      · exact ⟨f, .inr hf, h⟩
    · rintro ⟨f, rfl | hf, h⟩
      · rcases h with h | h
        · exact .inl h
        · exact .inr (.inl h)
      · exact .inr (.inr ⟨f, hf, h⟩)
theorem movesOf_length : ∀ l : List (Nat × Nat), (movesOf l).length = 2 * l.length
  | [] => rfl
  | e :: r => by simp only [movesOf, List.length_cons, movesOf_length r]; omega
theorem adj_moves {g : Graph} {u v : Nat} : isAdjacent g u v = true ↔ (u, v) ∈ movesOf g.edges := by
  unfold isAdjacent
  rw [List.any_eq_true, mem_movesOf]
  constructor
  · rintro ⟨e, he, h⟩
    simp only [Bool.or_eq_true, Bool.and_eq_true, beq_iff_eq] at h
    rcases h with ⟨rfl, rfl⟩ | ⟨rfl, rfl⟩
    · exact ⟨e, he, .inl rfl⟩
    · exact ⟨e, he, .inr rfl⟩
  · rintro ⟨e, he, h⟩
    refine ⟨e, he, ?_⟩
    simp only [Bool.or_eq_true, Bool.and_eq_true, beq_iff_eq]
    rcases h with h | h
    · obtain ⟨h1, h2⟩ := Prod.mk.inj h
      exact .inl ⟨h1.symm, h2.symm⟩
    · obtain ⟨h1, h2⟩ := Prod.mk.inj h
      exact .inr ⟨h2.symm, h1.symm⟩
/-- all endpoints are vertices, and no edge is a loop -/
theorem fits_lt (n : Nat) : ∀ (es : List Nat) (p : Nat × Nat), fitsFrom n p es = true → ∀ e ∈ pairsOf es, e.1 < e.2 ∧ e.2 < n
  | [], _, _, e, h => by cases h
  | [_], _, _, e, h => by cases h
  | u :: v :: r, p, f, e, h => by
    by_cases b : v ≤ u ∨ n ≤ v ∨ ¬ ltP p (u, v)
    · rw [fits_bad b] at f; cases f
    · rw [fits_good b] at f
      rcases List.mem_cons.mp (show e ∈ (u, v) :: pairsOf r from h) with rfl | h
      · simp only [not_or] at b; show u < v ∧ v < n; omega
      · exact fits_lt n r _ f e h
theorem moves_lt {n : Nat} {es : List Nat} (h : edgesFit n es = true) {m : Nat × Nat} (hm : m ∈ movesOf (pairsOf es)) : m.1 < n ∧ m.2 < n ∧ m.1 ≠ m.2 := by
  have f : fitsFrom n (0, 0) es = true := by unfold edgesFit at h; exact (Bool.and_eq_true_iff.mp h).2
  obtain ⟨e, he, q⟩ := mem_movesOf.mp hm
  have := fits_lt n es _ f e he
  rcases q with rfl | rfl
  · show e.1 < n ∧ e.2 < n ∧ e.1 ≠ e.2; omega
  · show e.2 < n ∧ e.1 < n ∧ e.2 ≠ e.1; omega
theorem pairsOf_length : ∀ es : List Nat, (pairsOf es).length ≤ es.length / 2
  | [] => Nat.le_refl _
  | [_] => Nat.zero_le _
  | u :: v :: r => by
    have := pairsOf_length r
    show (pairsOf r).length + 1 ≤ (r.length + 1 + 1) / 2
    omega
/-! ### one level's moves -/
def succs (ms : List (Nat × Nat)) (c : List Nat) : List (List Nat) := (ms.filter fun m => decide (2 ≤ c.getD m.1 0)).map fun m => Ks577.move c m.1 m.2
/-- put at the end, if it isn't there -/
def ins (acc : List (List Nat)) (x : List Nat) : List (List Nat) := if x ∈ acc then acc else acc ++ [x]
def dd (acc l : List (List Nat)) : List (List Nat) := l.foldl ins acc
def nextL (ms : List (Nat × Nat)) (L : List (List Nat)) : List (List Nat) := dd [] (L.flatMap (succs ms))
theorem dd_append (acc l r : List (List Nat)) : dd acc (l ++ r) = dd (dd acc l) r := List.foldl_append
theorem mem_ins {acc : List (List Nat)} {x y : List Nat} : y ∈ ins acc x ↔ y ∈ acc ∨ y = x := by
  unfold ins
  split
  · rename_i h
    constructor
    · exact .inl
    · rintro (z | rfl)
      · exact z
      · exact h
  · simp
theorem mem_dd {y : List Nat} : ∀ {l acc : List (List Nat)}, y ∈ dd acc l ↔ y ∈ acc ∨ y ∈ l
  | [], acc => by simp [dd]
  | x :: r, acc => by
    show y ∈ dd (ins acc x) r ↔ _
    rw [mem_dd (l := r), mem_ins, List.mem_cons]
    constructor
    · rintro ((h | h) | h)
      · exact .inl h
      · exact .inr (.inl h)
      · exact .inr (.inr h)
    · rintro (h | h | h)
      · exact .inl (.inl h)
      · exact .inl (.inr h)
      · exact .inr h
theorem nodup_snoc {l : List (List Nat)} {x : List Nat} (h : l.Nodup) (hx : x ∉ l) : (l ++ [x]).Nodup := by
  rw [List.nodup_append]
  refine ⟨h, by simp, fun a ha b hb => ?_⟩
  rw [List.mem_singleton] at hb
  subst hb
  intro e
  subst e
  exact hx ha
theorem nodup_ins {acc : List (List Nat)} {x : List Nat} (h : acc.Nodup) : (ins acc x).Nodup := by
  unfold ins
  split
  · exact h
  · rename_i hx; exact nodup_snoc h hx
theorem nodup_dd : ∀ {l acc : List (List Nat)}, acc.Nodup → (dd acc l).Nodup
  | [], _, h => h
  | x :: r, acc, h => nodup_dd (l := r) (nodup_ins h)
theorem length_ins (acc : List (List Nat)) (x : List Nat) : (ins acc x).length ≤ acc.length + 1 := by
  unfold ins
  split
  · omega
  · simp
theorem length_dd : ∀ (l acc : List (List Nat)), (dd acc l).length ≤ acc.length + l.length
  | [], acc => by simp [dd]
  | x :: r, acc => by
    have h1 := length_ins acc x
    have h2 := length_dd r (ins acc x)
    show (dd (ins acc x) r).length ≤ _
    rw [List.length_cons]; omega
theorem succs_length (ms : List (Nat × Nat)) (c : List Nat) : (succs ms c).length ≤ ms.length := by
  unfold succs; rw [List.length_map]; exact List.length_filter_le _ _
theorem flat_length (ms : List (Nat × Nat)) : ∀ L : List (List Nat), (L.flatMap (succs ms)).length ≤ L.length * ms.length
  | [] => by simp
  | c :: r => by
    have h1 := succs_length ms c
    have h2 := flat_length ms r
    rw [List.flatMap_cons, List.length_append, List.length_cons, Nat.succ_mul]
    omega
theorem nodup_nextL (ms : List (Nat × Nat)) (L : List (List Nat)) : (nextL ms L).Nodup := nodup_dd List.nodup_nil
theorem mem_nextL {ms : List (Nat × Nat)} {L : List (List Nat)} {y : List Nat} : y ∈ nextL ms L ↔ ∃ c ∈ L, y ∈ succs ms c := by
  unfold nextL
  rw [mem_dd, List.mem_flatMap]
  simp
/-- the graph that fits -/
structure GoodG (g : Graph) : Prop where
  lt : ∀ m ∈ movesOf g.edges, m.1 < g.vertexCount ∧ m.2 < g.vertexCount ∧ m.1 ≠ m.2
theorem mem_possible {g : Graph} {c : List Nat} {m : Nat × Nat} : m ∈ possibleMoves g c ↔ m.1 < g.vertexCount ∧ m.2 < g.vertexCount ∧ canMove g c m.1 m.2 = true := by
  unfold possibleMoves
  rw [List.mem_flatMap]
  constructor
  · rintro ⟨u, hu, h⟩
    obtain ⟨v, hv, rfl⟩ := List.mem_map.mp h
    obtain ⟨h1, h2⟩ := List.mem_filter.mp hv
    exact ⟨List.mem_range.mp hu, List.mem_range.mp h1, h2⟩
  · rintro ⟨h1, h2, h3⟩
    exact ⟨m.1, List.mem_range.mpr h1, List.mem_map.mpr ⟨m.2, List.mem_filter.mpr ⟨List.mem_range.mpr h2, h3⟩, rfl⟩⟩
theorem mem_possible_good {g : Graph} (G : GoodG g) {c : List Nat} {m : Nat × Nat} : m ∈ possibleMoves g c ↔ m ∈ movesOf g.edges ∧ 2 ≤ c.getD m.1 0 := by
  rw [mem_possible]
  unfold canMove
  rw [Bool.and_eq_true, decide_eq_true_iff, adj_moves]
  constructor
  · rintro ⟨_, _, h1, h2⟩; exact ⟨h1, h2⟩
  · rintro ⟨h1, h2⟩; exact ⟨(G.lt m h1).1, (G.lt m h1).2.1, h1, h2⟩
theorem mem_succs {g : Graph} (G : GoodG g) {c y : List Nat} : y ∈ succs (movesOf g.edges) c ↔ y ∈ successors g c := by
  unfold succs successors
  rw [List.mem_map, List.mem_map]
  constructor
  · rintro ⟨m, hm, e⟩
    obtain ⟨h1, h2⟩ := List.mem_filter.mp hm
    exact ⟨m, (mem_possible_good G).mpr ⟨h1, of_decide_eq_true h2⟩, e⟩
  · rintro ⟨m, hm, e⟩
    obtain ⟨h1, h2⟩ := (mem_possible_good G).mp hm
    exact ⟨m, List.mem_filter.mpr ⟨h1, decide_eq_true h2⟩, e⟩
/-- two levels with the same members -/
def Alike (L M : List (List Nat)) : Prop := ∀ c, c ∈ L ↔ c ∈ M
theorem Alike.next {g : Graph} (G : GoodG g) {L M : List (List Nat)} (h : Alike L M) : Alike (nextL (movesOf g.edges) L) (M.flatMap (successors g)).eraseDups := fun y => by
  rw [mem_nextL, List.mem_eraseDups, List.mem_flatMap]
  constructor
  · rintro ⟨c, h1, h2⟩; exact ⟨c, (h c).mp h1, (mem_succs G).mp h2⟩
  · rintro ⟨c, h1, h2⟩; exact ⟨c, (h c).mpr h1, (mem_succs G).mpr h2⟩
theorem Alike.empty {L M : List (List Nat)} (h : Alike L M) : M.isEmpty = L.isEmpty := by
  cases L with
  | nil =>
    cases M with
    | nil => rfl
    | cons c r => exact absurd ((h c).mpr (List.mem_cons_self ..)) (by simp)
  | cons c r =>
    cases M with
    | nil => exact absurd ((h c).mp (List.mem_cons_self ..)) (by simp)
    | cons d s => rfl
/-! ### sums -/
theorem sum_set : ∀ (c : List Nat) (i x : Nat), i < c.length → (c.set i x).sum + c.getD i 0 = c.sum + x
  | [], _, _, h => by simp at h
  | a :: r, 0, x, _ => by simp [List.sum_cons]; omega
  | a :: r, i + 1, x, h => by
    have := sum_set r i x (by simpa using h)
    simp only [List.set_cons_succ, List.sum_cons, List.getD_cons_succ]
    omega
theorem move_length (c : List Nat) (u v : Nat) : (Ks577.move c u v).length = c.length := by
  unfold Ks577.move; simp
theorem move_sum {c : List Nat} {u v : Nat} (hu : u < c.length) (hv : v < c.length) (h2 : 2 ≤ c.getD u 0) : (Ks577.move c u v).sum + 1 = c.sum := by
  unfold Ks577.move Ks577.pebblesAt
  show ((c.set u (c.getD u 0 - 2)).set v ((c.set u (c.getD u 0 - 2)).getD v 0 + 1)).sum + 1 = c.sum
  have h1 := sum_set c u (c.getD u 0 - 2) hu
  have h3 := sum_set (c.set u (c.getD u 0 - 2)) v ((c.set u (c.getD u 0 - 2)).getD v 0 + 1) (by rw [List.length_set]; exact hv)
  omega
theorem getD_le_sum : ∀ (c : List Nat) (i : Nat), c.getD i 0 ≤ c.sum
  | [], i => by simp
  | a :: r, 0 => by simp [List.sum_cons]
  | a :: r, i + 1 => by
    have := getD_le_sum r i
    simp only [List.getD_cons_succ, List.sum_cons]
    omega
/-- a level: its configurations have n places and sums below f -/
def Lvl (n f : Nat) (L : List (List Nat)) : Prop := ∀ c ∈ L, c.length = n ∧ c.sum < f
theorem mem_succs_lvl {g : Graph} (G : GoodG g) {c y : List Nat} (hc : c.length = g.vertexCount) (h : y ∈ succs (movesOf g.edges) c) : y.length = g.vertexCount ∧ y.sum + 1 = c.sum := by
  unfold succs at h
  obtain ⟨m, hm, rfl⟩ := List.mem_map.mp h
  obtain ⟨h1, h2⟩ := List.mem_filter.mp hm
  obtain ⟨h3, h4, _⟩ := G.lt m h1
  exact ⟨by rw [move_length, hc], move_sum (by rw [hc]; exact h3) (by rw [hc]; exact h4) (of_decide_eq_true h2)⟩
theorem Lvl.next {g : Graph} (G : GoodG g) {f : Nat} {L : List (List Nat)} (h : Lvl g.vertexCount (f + 1) L) : Lvl g.vertexCount f (nextL (movesOf g.edges) L) := fun y hy => by
  obtain ⟨c, h1, h2⟩ := mem_nextL.mp hy
  obtain ⟨h3, h4⟩ := h c h1
  obtain ⟨h5, h6⟩ := mem_succs_lvl G h3 h2
  exact ⟨h5, by omega⟩
theorem Lvl.pos {n f : Nat} {L : List (List Nat)} (h : Lvl n f L) (hL : L ≠ []) : ∃ f', f = f' + 1 := by
  cases L with
  | nil => exact absurd rfl hL
  | cons c r =>
    have := (h c (List.mem_cons_self ..)).2
    exact ⟨f - 1, by omega⟩
theorem Lvl.one {n : Nat} {c : List Nat} (h : c.length = n) : Lvl n (c.sum + 1) [c] := fun d hd => by
  rw [List.mem_singleton] at hd
  subst hd
  exact ⟨h, Nat.lt_succ_self _⟩
/-! ### how many configurations there are -/
def allC (k : Nat) : Nat → List (List Nat)
  | 0 => [[]]
  | n + 1 => (List.range k).flatMap fun a => (allC k n).map fun c => a :: c
theorem flat_const {α β : Type} (f : α → List β) (m : Nat) : ∀ l : List α, (∀ a ∈ l, (f a).length = m) → (l.flatMap f).length = l.length * m
  | [], _ => by simp
  | a :: r, h => by
    rw [List.flatMap_cons, List.length_append, h a (List.mem_cons_self ..), flat_const f m r fun b hb => h b (List.mem_cons_of_mem _ hb), List.length_cons, Nat.succ_mul]
    omega
theorem allC_length (k : Nat) : ∀ n, (allC k n).length = k ^ n
  | 0 => rfl
  | n + 1 => by
    unfold allC
    rw [flat_const _ (k ^ n) _ (fun a _ => by rw [List.length_map, allC_length k n]), List.length_range, Nat.pow_succ, Nat.mul_comm]
theorem mem_allC {k : Nat} : ∀ {n : Nat} {c : List Nat}, c.length = n → (∀ x ∈ c, x < k) → c ∈ allC k n
  | 0, [], _, _ => by simp [allC]
  | 0, _ :: _, h, _ => by simp at h
  | _ + 1, [], h, _ => by simp at h
  | n + 1, a :: c, h, hx => by
    unfold allC
    rw [List.mem_flatMap]
    exact ⟨a, List.mem_range.mpr (hx a (List.mem_cons_self ..)), List.mem_map.mpr ⟨c, mem_allC (by simpa using h) (fun x hx' => hx x (List.mem_cons_of_mem _ hx')), rfl⟩⟩
theorem mem_le_sum : ∀ {c : List Nat} {x : Nat}, x ∈ c → x ≤ c.sum
  | a :: r, x, h => by
    rw [List.sum_cons]
    rcases List.mem_cons.mp h with rfl | h
    · omega
    · have := mem_le_sum h; omega
theorem Lvl.short {n f : Nat} {L : List (List Nat)} (h : Lvl n f L) (hn : n ≤ 5) (hs : f ≤ 13) (nd : L.Nodup) : L.length ≤ 371293 := by
  have h1 : L.length ≤ (allC 13 n).length := List.Nodup.length_le_of_subset nd fun c hc => by
    obtain ⟨h1, h2⟩ := h c hc
    exact mem_allC h1 fun x hx => by have := mem_le_sum hx; omega
  rw [allC_length] at h1
  have h2 : 13 ^ n ≤ 13 ^ 5 := Nat.pow_le_pow_right (by decide) hn
  have h3 : (13 : Nat) ^ 5 = 371293 := by decide
  omega
/-! ### the levels of the specification -/
theorem levels_nil (g : Graph) : ∀ f, levelsFrom g [] f = []
  | 0 => rfl
  | f + 1 => rfl
theorem levels_cons {g : Graph} {M : List (List Nat)} {f : Nat} (h : M.isEmpty = false) : levelsFrom g M (f + 1) = M :: levelsFrom g (M.flatMap (successors g)).eraseDups f := by
  show (if M.isEmpty = true then [] else M :: levelsFrom g (M.flatMap (successors g)).eraseDups f) = _
  rw [h]; rfl
theorem alike_nil {M : List (List Nat)} (h : Alike [] M) : M = [] := by
  cases M with
  | nil => rfl
  | cons c r => exact absurd ((h c).mpr (List.mem_cons_self ..)) (by simp)
theorem alike_cons {L M : List (List Nat)} (h : Alike L M) (hL : L ≠ []) : M.isEmpty = false := by
  rw [h.empty]
  cases L with
  | nil => exact absurd rfl hL
  | cons c r => rfl
theorem Alike.rfl' {L : List (List Nat)} : Alike L L := fun _ => Iff.rfl
/-- the greatest -/
theorem foldl_max_le : ∀ (l : List Nat) (m b : Nat), l.foldl max m ≤ b ↔ m ≤ b ∧ ∀ x ∈ l, x ≤ b
  | [], m, b => by simp
  | a :: r, m, b => by
    rw [List.foldl_cons, foldl_max_le r (max m a) b]
    constructor
    · rintro ⟨h1, h2⟩
      refine ⟨by omega, fun x hx => ?_⟩
      rcases List.mem_cons.mp hx with rfl | hx
      · omega
      · exact h2 x hx
    · rintro ⟨h1, h2⟩
      have := h2 a (List.mem_cons_self ..)
      exact ⟨by omega, fun x hx => h2 x (List.mem_cons_of_mem _ hx)⟩
theorem foldl_max_is {l : List Nat} {m x : Nat} (hx : x ∈ l) (h : ∀ y ∈ l, y ≤ x) : l.foldl max m = max m x := by
  have h1 := (foldl_max_le l m (max m x)).mpr ⟨by omega, fun y hy => by have := h y hy; omega⟩
  obtain ⟨h2, h3⟩ := (foldl_max_le l m (l.foldl max m)).mp (Nat.le_refl _)
  have h4 := h3 x hx
  omega
def maxFrom (m : Nat) (g : Graph) (M : List (List Nat)) (f t : Nat) : Nat := ((levelsFrom g M f).flatMap fun level => level.map fun d => pebblesAt d t).foldl max m
theorem max_done {m : Nat} {g : Graph} {M : List (List Nat)} {f t : Nat} (h : Alike [] M) : maxFrom m g M f t = m := by
  rw [alike_nil h]
  unfold maxFrom
  rw [levels_nil]; rfl
theorem max_turn {m x : Nat} {g : Graph} {L M : List (List Nat)} {f t : Nat} (h : Alike L M) (hL : L ≠ []) (hx : x ∈ L.map fun d => d.getD t 0) (hm : ∀ y ∈ L.map (fun d => d.getD t 0), y ≤ x) :
    maxFrom m g M (f + 1) t = maxFrom (max m x) g (M.flatMap (successors g)).eraseDups f t := by
  unfold maxFrom
  rw [levels_cons (alike_cons h hL), List.flatMap_cons, List.foldl_append]
  congr 1
  refine foldl_max_is ?_ ?_
  · obtain ⟨d, h1, h2⟩ := List.mem_map.mp hx
    exact List.mem_map.mpr ⟨d, (h d).mp h1, h2⟩
  · intro y hy
    obtain ⟨d, h1, h2⟩ := List.mem_map.mp hy
    exact hm y (List.mem_map.mpr ⟨d, (h d).mpr h1, h2⟩)
/-- the fewest moves -/
def minFrom (g : Graph) (M : List (List Nat)) (f t k : Nat) : Option Nat := (levelsFrom g M f).findIdx? fun level => level.any fun d => decide (k ≤ pebblesAt d t)
theorem min_done {g : Graph} {M : List (List Nat)} {f t k : Nat} (h : Alike [] M) : minFrom g M f t k = none := by
  rw [alike_nil h]
  unfold minFrom
  rw [levels_nil]; rfl
theorem any_alike {L M : List (List Nat)} {t k x : Nat} (h : Alike L M) (hx : x ∈ L.map fun d => d.getD t 0) (hm : ∀ y ∈ L.map (fun d => d.getD t 0), y ≤ x) :
    (M.any fun d => decide (k ≤ pebblesAt d t)) = decide (k ≤ x) := by
  by_cases c : k ≤ x
  · rw [decide_eq_true c, List.any_eq_true]
    obtain ⟨d, h1, rfl⟩ := List.mem_map.mp hx
    exact ⟨d, (h d).mp h1, decide_eq_true c⟩
  · rw [decide_eq_false c, List.any_eq_false]
    intro d hd
    have := hm _ (List.mem_map.mpr ⟨d, (h d).mpr hd, rfl⟩)
    show ¬ decide (k ≤ d.getD t 0) = true
    rw [decide_eq_true_iff]
    omega
theorem min_turn {g : Graph} {L M : List (List Nat)} {f t k x : Nat} (h : Alike L M) (hL : L ≠ []) (hx : x ∈ L.map fun d => d.getD t 0) (hm : ∀ y ∈ L.map (fun d => d.getD t 0), y ≤ x) :
    minFrom g M (f + 1) t k = if k ≤ x then some 0 else (minFrom g (M.flatMap (successors g)).eraseDups f t k).map (· + 1) := by
  unfold minFrom
  rw [levels_cons (alike_cons h hL), List.findIdx?_cons, any_alike h hx hm]
  by_cases c : k ≤ x
  · rw [if_pos (decide_eq_true c), if_pos c]
  · rw [if_neg (by rw [decide_eq_false c]; simp), if_neg c]
/-! ### what is due -/
def okN (n : Nat) : Bool := decide (1 ≤ n) && decide (n ≤ 5)
def okP (n : Nat) (ps : List Nat) : Bool := decide (ps.length = n) && decide (ps.sum ≤ 12)
def okAll (n : Nat) (es ps : List Nat) : Bool := okN n && edgesFit n es && okP n ps
theorem with_is (n : Nat) (es ps : List Nat) (F : Graph → Configuration → Ks577.Result) :
    Ks577.withConfiguration n es ps F = if okAll n es ps = true then F ⟨n, pairsOf es⟩ ps else Ks577.number (-22) := by
  unfold Ks577.withConfiguration Ks577.withGraph parseGraph okAll okN
  by_cases h : n < 1 ∨ Ks577.maxVertices < n
  · rw [if_pos h]
    have e : (decide (1 ≤ n) && decide (n ≤ 5)) = false := by
      rcases h with h | h
      · rw [decide_eq_false (by omega)]; rfl
      · rw [decide_eq_false (p := n ≤ 5) (by unfold Ks577.maxVertices at h; omega)]; simp
    rw [e]; rfl
  · have h5 : 1 ≤ n ∧ n ≤ 5 := by unfold Ks577.maxVertices at h; omega
    rw [if_neg h, parse_is, decide_eq_true h5.1, decide_eq_true h5.2]
    by_cases e : edgesFit n es = true
    · rw [if_pos e, e]
      show (if Ks577.isValidConfiguration ⟨n, pairsOf es⟩ ps = true then _ else _) = _
      have q : Ks577.isValidConfiguration ⟨n, pairsOf es⟩ ps = okP n ps := by
        unfold Ks577.isValidConfiguration okP Ks577.maxPebbles
        rfl
      rw [q]; rfl
    · rw [if_neg e]
      rw [Bool.not_eq_true] at e
      rw [e]; rfl
structure Ok (n : Nat) (es ps : List Nat) : Prop where
  n1 : 1 ≤ n
  n5 : n ≤ 5
  fit : edgesFit n es = true
  len : ps.length = n
  sum : ps.sum ≤ 12
theorem ok_of {n : Nat} {es ps : List Nat} (h : okAll n es ps = true) : Ok n es ps := by
  unfold okAll okN okP at h
  simp only [Bool.and_eq_true, decide_eq_true_eq] at h
  exact ⟨h.1.1.1, h.1.1.2, h.1.2, h.2.1, h.2.2⟩
theorem Ok.good {n : Nat} {es ps : List Nat} (h : Ok n es ps) : GoodG ⟨n, pairsOf es⟩ := ⟨fun _ hm => moves_lt h.fit hm⟩
theorem Ok.even {n : Nat} {es ps : List Nat} (h : Ok n es ps) : es.length % 2 = 0 := by
  have := h.fit
  unfold edgesFit at this
  exact of_decide_eq_true (Bool.and_eq_true_iff.mp this).1
end Peb
namespace Peb
theorem pairsOf_lenA : ∀ {es : List Nat}, (pairsOf es).length = es.length / 2
  | [] => rfl
  | [_] => by simp [pairsOf]
  | u :: v :: r => by
    have := pairsOf_lenA (es := r)
    show (pairsOf r).length + 1 = (r.length + 1 + 1) / 2
    omega
open Ks577 (Graph Configuration pebblesAt canMove isAdjacent possibleMoves successors levelsFrom levels minMoves shortestSequence)
/-! ### all moves of a graph, in the order of source and target -/
def allM (g : Graph) : List (Nat × Nat) := (List.range g.vertexCount).flatMap fun u => ((List.range g.vertexCount).filter fun v => isAdjacent g u v).map fun v => (u, v)
theorem possible_is (g : Graph) (c : List Nat) : possibleMoves g c = (allM g).filter fun m => decide (2 ≤ c.getD m.1 0) := by
  unfold possibleMoves allM
  rw [List.filter_flatMap]
  refine congrArg (fun F => (List.range g.vertexCount).flatMap F) (funext fun u => ?_)
  rw [List.filter_map, List.filter_filter]
  refine congrArg (List.map fun v => (u, v)) (List.filter_congr fun v _ => ?_)
  show (isAdjacent g u v && decide (2 ≤ pebblesAt c u)) = (decide (2 ≤ c.getD u 0) && isAdjacent g u v)
  rw [Bool.and_comm]; rfl
theorem succs_all (g : Graph) (c : List Nat) : succs (allM g) c = successors g c := by
  unfold succs successors
  rw [possible_is]
theorem mem_allM {g : Graph} {m : Nat × Nat} : m ∈ allM g ↔ m.1 < g.vertexCount ∧ m.2 < g.vertexCount ∧ isAdjacent g m.1 m.2 = true := by
  unfold allM
  rw [List.mem_flatMap]
  constructor
  · rintro ⟨u, hu, h⟩
    obtain ⟨v, hv, rfl⟩ := List.mem_map.mp h
    obtain ⟨h1, h2⟩ := List.mem_filter.mp hv
    exact ⟨List.mem_range.mp hu, List.mem_range.mp h1, h2⟩
  · rintro ⟨h1, h2, h3⟩
    exact ⟨m.1, List.mem_range.mpr h1, List.mem_map.mpr ⟨m.2, List.mem_filter.mpr ⟨List.mem_range.mpr h2, h3⟩, rfl⟩⟩
theorem mem_allM_good {g : Graph} (G : GoodG g) {m : Nat × Nat} : m ∈ allM g ↔ m ∈ movesOf g.edges := by
  rw [mem_allM, adj_moves]
  exact ⟨fun h => h.2.2, fun h => ⟨(G.lt m h).1, (G.lt m h).2.1, h⟩⟩
/-- the order of pairs -/
def Low (a b : Nat × Nat) : Prop := ¬ ltP b a
theorem low_both {a b : Nat × Nat} (h : Low a b) (h' : Low b a) : a = b := by
  unfold Low ltP at h h'
  exact Prod.ext (by omega) (by omega)
theorem perm_low : ∀ {l r : List (Nat × Nat)}, l.Perm r → l.Pairwise Low → r.Pairwise Low → l = r
  | [], r, p, _, _ => (List.nil_perm.mp p).symm
  | a :: l, [], p, _, _ => absurd p.length_eq (by simp)
  | a :: l, b :: r, p, h, h' => by
    have h1 := List.pairwise_cons.mp h
    have h2 := List.pairwise_cons.mp h'
    have e : a = b := by
      rcases List.mem_cons.mp (p.mem_iff.mp (List.mem_cons_self ..) : a ∈ b :: r) with e | m
      · exact e
      · rcases List.mem_cons.mp (p.mem_iff.mpr (List.mem_cons_self ..) : b ∈ a :: l) with e | m'
        · exact e.symm
        · exact low_both (h1.1 b m') (h2.1 a m)
    subst e
    rw [perm_low (List.Perm.cons_inv p) h1.2 h2.2]
theorem range_up (n : Nat) : (List.range n).Pairwise (· < ·) := List.pairwise_lt_range
theorem allM_up (g : Graph) : (allM g).Pairwise ltP := by
  unfold allM
  have ro : ∀ u, (((List.range g.vertexCount).filter fun v => isAdjacent g u v).map fun v => (u, v)).Pairwise ltP := fun u => by
    rw [List.pairwise_map]
    exact ((range_up _).filter _).imp fun h => .inr ⟨rfl, h⟩
  have big : ∀ l : List Nat, l.Pairwise (· < ·) → (l.flatMap fun u => ((List.range g.vertexCount).filter fun v => isAdjacent g u v).map fun v => (u, v)).Pairwise ltP := by
    intro l
    induction l with
    | nil => intro _; exact List.Pairwise.nil
    | cons u r ih =>
      intro h
      obtain ⟨h1, h2⟩ := List.pairwise_cons.mp h
      rw [List.flatMap_cons, List.pairwise_append]
      refine ⟨ro u, ih h2, fun a ha b hb => ?_⟩
      obtain ⟨v, _, rfl⟩ := List.mem_map.mp ha
      obtain ⟨w, hw, hb⟩ := List.mem_flatMap.mp hb
      obtain ⟨x, _, rfl⟩ := List.mem_map.mp hb
      exact .inl (h1 w hw)
  exact big _ (range_up _)
theorem ltP_irr (a : Nat × Nat) : ¬ ltP a a := by unfold ltP; omega
theorem up_low {l : List (Nat × Nat)} (h : l.Pairwise ltP) : l.Pairwise Low := h.imp fun {a b} h => by unfold Low; unfold ltP at *; omega
theorem up_nodup {l : List (Nat × Nat)} (h : l.Pairwise ltP) : l.Nodup := h.imp fun {a b} h e => by subst e; exact ltP_irr _ h
theorem pairs_up (n : Nat) : ∀ (es : List Nat) (p : Nat × Nat), fitsFrom n p es = true → (pairsOf es).Pairwise ltP ∧ ∀ e ∈ pairsOf es, ltP p e
  | [], _, _ => ⟨List.Pairwise.nil, fun e h => by cases h⟩
  | [_], _, _ => ⟨List.Pairwise.nil, fun e h => by cases h⟩
  | u :: v :: r, p, f => by
    by_cases b : v ≤ u ∨ n ≤ v ∨ ¬ ltP p (u, v)
    · rw [fits_bad b] at f; cases f
    · rw [fits_good b] at f
      obtain ⟨h1, h2⟩ := pairs_up n r (u, v) f
      have hp : ltP p (u, v) := by
        simp only [not_or, Decidable.not_not] at b; exact b.2.2
      have tr : ∀ a b c : Nat × Nat, ltP a b → ltP b c → ltP a c := by
        intro a b c; unfold ltP; omega
      show ((u, v) :: pairsOf r).Pairwise ltP ∧ ∀ e ∈ (u, v) :: pairsOf r, ltP p e
      refine ⟨List.pairwise_cons.mpr ⟨h2, h1⟩, fun e he => ?_⟩
      rcases List.mem_cons.mp he with rfl | he
      · exact hp
      · exact tr _ _ _ hp (h2 e he)
theorem moves_nodup : ∀ {l : List (Nat × Nat)}, l.Nodup → (∀ e ∈ l, e.1 < e.2) → (movesOf l).Nodup
  | [], _, _ => List.nodup_nil
  | e :: r, h, up => by
    obtain ⟨h1, h2⟩ := List.nodup_cons.mp h
    have ih := moves_nodup h2 fun f hf => up f (List.mem_cons_of_mem _ hf)
    have ue := up e (List.mem_cons_self ..)
    have no : ∀ m ∈ movesOf r, m ≠ (e.1, e.2) ∧ m ≠ (e.2, e.1) := by
      intro m hm
      obtain ⟨f, hf, q⟩ := mem_movesOf.mp hm
      have uf := up f (List.mem_cons_of_mem _ hf)
      have ne : f ≠ e := fun z => h1 (z ▸ hf)
      rcases q with rfl | rfl
      · refine ⟨fun z => ne ?_, fun z => ?_⟩
        · injection z with z1 z2; exact Prod.ext z1 z2
        · injection z with z1 z2; omega
      · refine ⟨fun z => ?_, fun z => ne ?_⟩
        · injection z with z1 z2; omega
        · injection z with z1 z2; exact Prod.ext z2 z1
    show ((e.1, e.2) :: (e.2, e.1) :: movesOf r).Nodup
    rw [List.nodup_cons, List.nodup_cons]
    refine ⟨fun m => ?_, fun m => (no _ m).2 rfl, ih⟩
    rcases List.mem_cons.mp m with z | m
    · injection z with z1 z2; omega
    · exact (no _ m).1 rfl
theorem moves_perm {n : Nat} {es : List Nat} (h : edgesFit n es = true) : (movesOf (pairsOf es)).Perm (allM ⟨n, pairsOf es⟩) := by
  have f : fitsFrom n (0, 0) es = true := by unfold edgesFit at h; exact (Bool.and_eq_true_iff.mp h).2
  have G : GoodG ⟨n, pairsOf es⟩ := ⟨fun _ hm => moves_lt h hm⟩
  refine (List.perm_ext_iff_of_nodup (moves_nodup (up_nodup (pairs_up n es _ f).1) fun e he => (fits_lt n es _ f e he).1) (up_nodup (allM_up _))).mpr fun m => ?_
  exact (mem_allM_good G (g := ⟨n, pairsOf es⟩)).symm
/-- sorted(moves) -/
theorem sorted_moves {n : Nat} {es : List Nat} (h : edgesFit n es = true) {ms : List (Nat × Nat)} (p : ms.Perm (movesOf (pairsOf es))) (s : ms.Pairwise Low) : ms = allM ⟨n, pairsOf es⟩ :=
  perm_low (p.trans (moves_perm h)) s (up_low (allM_up _))
theorem allM_lt {g : Graph} : ∀ m ∈ allM g, m.1 < g.vertexCount ∧ m.2 < g.vertexCount := fun m hm => ⟨(mem_allM.mp hm).1, (mem_allM.mp hm).2.1⟩
theorem allM_length {n : Nat} {es : List Nat} (h : edgesFit n es = true) (l : es.length ≤ 22) : (allM ⟨n, pairsOf es⟩).length ≤ 22 := by
  rw [← (moves_perm h).length_eq, movesOf_length, pairsOf_lenA]; omega
/-! ### the next level is the specification's -/
theorem dd_loop : ∀ (l acc : List (List Nat)), List.eraseDupsBy.loop (· == ·) l acc.reverse = dd acc l
  | [], acc => by simp [List.eraseDupsBy.loop, dd]
  | x :: r, acc => by
    unfold List.eraseDupsBy.loop
    show _ = dd (ins acc x) r
    have e : (acc.reverse.any fun b => x == b) = decide (x ∈ acc) := by
      by_cases h : x ∈ acc
      · rw [decide_eq_true h, List.any_eq_true]
        exact ⟨x, List.mem_reverse.mpr h, by simp⟩
      · rw [decide_eq_false h, List.any_eq_false]
        intro y hy z
        have z : x = y := by simpa using z
        exact h (z ▸ List.mem_reverse.mp hy)
    unfold ins
    by_cases h : x ∈ acc
    · rw [if_pos h]
      simp only [e, decide_eq_true h]
      exact dd_loop r acc
    · rw [if_neg h]
      simp only [e, decide_eq_false h]
      have := dd_loop r (acc ++ [x])
      rw [List.reverse_append] at this
      exact this
theorem dd_is (l : List (List Nat)) : dd [] l = l.eraseDups := (dd_loop l []).symm
theorem next_all (g : Graph) (L : List (List Nat)) : nextL (allM g) L = (L.flatMap (successors g)).eraseDups := by
  unfold nextL
  rw [dd_is, show succs (allM g) = successors g from funext (succs_all g)]
theorem mem_succ_lvl {g : Graph} {c y : List Nat} (hc : c.length = g.vertexCount) (h : y ∈ successors g c) : y.length = g.vertexCount ∧ y.sum + 1 = c.sum := by
  rw [← succs_all] at h
  unfold succs at h
  obtain ⟨m, hm, rfl⟩ := List.mem_map.mp h
  obtain ⟨h1, h2⟩ := List.mem_filter.mp hm
  obtain ⟨h3, h4⟩ := allM_lt m h1
  exact ⟨by rw [move_length, hc], move_sum (by rw [hc]; exact h3) (by rw [hc]; exact h4) (of_decide_eq_true h2)⟩
theorem Lvl.nextE {g : Graph} {f : Nat} {L : List (List Nat)} (h : Lvl g.vertexCount (f + 1) L) : Lvl g.vertexCount f (L.flatMap (successors g)).eraseDups := fun y hy => by
  obtain ⟨c, h1, h2⟩ := List.mem_flatMap.mp (List.mem_eraseDups.mp hy)
  obtain ⟨h3, h4⟩ := h c h1
  obtain ⟨h5, h6⟩ := mem_succ_lvl h3 h2
  exact ⟨h5, by omega⟩
theorem Lvl.nil0 {n : Nat} {L : List (List Nat)} (h : Lvl n 0 L) : L = [] := by
  cases L with
  | nil => rfl
  | cons c r => have := (h c (List.mem_cons_self ..)).2; omega
/-! ### how many moves are left -/
def hit (g : Graph) (t k : Nat) : Nat → List Nat → Bool
  | 0, c => decide (k ≤ c.getD t 0)
  | j + 1, c => (successors g c).any (hit g t k j)
theorem min_cons {g : Graph} {M : List (List Nat)} {f t k : Nat} (h : M ≠ []) : minFrom g M (f + 1) t k = if M.any (hit g t k 0) = true then some 0 else (minFrom g (M.flatMap (successors g)).eraseDups f t k).map (· + 1) := by
  unfold minFrom
  rw [levels_cons (by cases M with | nil => exact absurd rfl h | cons c r => rfl), List.findIdx?_cons]
  rfl
theorem any_next {g : Graph} {M : List (List Nat)} {t k i : Nat} : (M.flatMap (successors g)).eraseDups.any (hit g t k i) = M.any (hit g t k (i + 1)) := by
  rw [Bool.eq_iff_iff, List.any_eq_true, List.any_eq_true]
  constructor
  · rintro ⟨y, hy, e⟩
    obtain ⟨c, h1, h2⟩ := List.mem_flatMap.mp (List.mem_eraseDups.mp hy)
    exact ⟨c, h1, List.any_eq_true.mpr ⟨y, h2, e⟩⟩
  · rintro ⟨c, h1, e⟩
    obtain ⟨y, h2, e⟩ := List.any_eq_true.mp e
    exact ⟨y, List.mem_eraseDups.mpr (List.mem_flatMap.mpr ⟨c, h1, h2⟩), e⟩
theorem min_hit {g : Graph} {t k : Nat} : ∀ {f : Nat} {M : List (List Nat)}, Lvl g.vertexCount f M → ∀ j, (minFrom g M f t k = some j ↔ (M.any (hit g t k j) = true ∧ ∀ i < j, M.any (hit g t k i) = false))
  | 0, M, h, j => by
    have e : M = [] := h.nil0
    subst e
    show (none : Option Nat) = some j ↔ false = true ∧ _
    simp
  | f + 1, M, h, j => by
    by_cases e : M = []
    · subst e
      show (none : Option Nat) = some j ↔ false = true ∧ _
      simp
    rw [min_cons e]
    by_cases a : M.any (hit g t k 0) = true
    · rw [if_pos a]
      constructor
      · intro z
        obtain rfl := Option.some.inj z
        exact ⟨a, fun i hi => absurd hi (Nat.not_lt_zero i)⟩
      · rintro ⟨_, h2⟩
        cases j with
        | zero => rfl
        | succ j => have := h2 0 (Nat.succ_pos j); rw [a] at this; cases this
    · rw [if_neg a]
      have ih := fun i => min_hit (t := t) (k := k) (h.nextE) i
      have an : M.any (hit g t k 0) = false := by rw [Bool.not_eq_true] at a; exact a
      constructor
      · intro z
        obtain ⟨i, hi, rfl⟩ := Option.map_eq_some_iff.mp z
        obtain ⟨h1, h2⟩ := (ih i).mp hi
        rw [any_next] at h1
        refine ⟨h1, fun x hx => ?_⟩
        cases x with
        | zero => exact an
        | succ x => have := h2 x (by omega); rw [any_next] at this; exact this
      · rintro ⟨h1, h2⟩
        cases j with
        | zero => exact absurd h1 a
        | succ j =>
          have : minFrom g (M.flatMap (successors g)).eraseDups f t k = some j := (ih j).mpr ⟨by rw [any_next]; exact h1, fun i hi => by rw [any_next]; exact h2 (i + 1) (by omega)⟩
          rw [this]; rfl
theorem min_moves_hit {g : Graph} {t k j : Nat} {c : List Nat} (hc : c.length = g.vertexCount) : minMoves g c t k = some j ↔ hit g t k j c = true ∧ ∀ i < j, hit g t k i c = false := by
  have q := min_hit (t := t) (k := k) (Lvl.one (c := c) hc) j
  simp only [List.any_cons, List.any_nil, Bool.or_false] at q
  exact q
/-! ### a level, with the first sequence to each configuration -/
abbrev Sq := List (Nat × Nat)
def steps (ms : Sq) (p : List Nat × Sq) : List (List Nat × Sq) := (ms.filter fun m => decide (2 ≤ p.1.getD m.1 0)).map fun m => (Ks577.move p.1 m.1 m.2, p.2 ++ [m])
def insS (acc : List (List Nat × Sq)) (p : List Nat × Sq) : List (List Nat × Sq) := if p.1 ∈ acc.map (·.1) then acc else acc ++ [p]
def ddS (acc l : List (List Nat × Sq)) : List (List Nat × Sq) := l.foldl insS acc
def nextS (ms : Sq) (L : List (List Nat × Sq)) : List (List Nat × Sq) := ddS [] (L.flatMap (steps ms))
theorem ddS_append (acc l r : List (List Nat × Sq)) : ddS acc (l ++ r) = ddS (ddS acc l) r := List.foldl_append
theorem ddS_one (acc : List (List Nat × Sq)) (p : List Nat × Sq) : ddS acc [p] = insS acc p := rfl
theorem insS_keys (acc : List (List Nat × Sq)) (p : List Nat × Sq) : (insS acc p).map (·.1) = ins (acc.map (·.1)) p.1 := by
  unfold insS ins
  by_cases h : p.1 ∈ acc.map (·.1)
  · rw [if_pos h, if_pos h]
  · rw [if_neg h, if_neg h, List.map_append]; rfl
theorem ddS_keys : ∀ (l acc : List (List Nat × Sq)), (ddS acc l).map (·.1) = dd (acc.map (·.1)) (l.map (·.1))
  | [], acc => rfl
  | p :: r, acc => by
    show (ddS (insS acc p) r).map (·.1) = dd (ins (acc.map (·.1)) p.1) (r.map (·.1))
    rw [ddS_keys r, insS_keys]
theorem steps_keys (ms : Sq) (p : List Nat × Sq) : (steps ms p).map (·.1) = succs ms p.1 := by
  unfold steps succs
  rw [List.map_map]; rfl
theorem flat_keys (ms : Sq) : ∀ L : List (List Nat × Sq), (L.flatMap (steps ms)).map (·.1) = (L.map (·.1)).flatMap (succs ms)
  | [] => rfl
  | p :: r => by rw [List.flatMap_cons, List.map_append, List.map_cons, List.flatMap_cons, steps_keys, flat_keys ms r]
theorem nextS_keys (ms : Sq) (L : List (List Nat × Sq)) : (nextS ms L).map (·.1) = nextL ms (L.map (·.1)) := by
  unfold nextS nextL
  rw [ddS_keys, flat_keys]; rfl
theorem ddS_find (P : List Nat → Bool) : ∀ (l acc : List (List Nat × Sq)), (ddS acc l).find? (fun p => P p.1) = (acc ++ l).find? fun p => P p.1
  | [], acc => by rw [List.append_nil]; rfl
  | p :: r, acc => by
    show (ddS (insS acc p) r).find? (fun p => P p.1) = _
    rw [ddS_find P r]
    unfold insS
    by_cases h : p.1 ∈ acc.map (·.1)
    · rw [if_pos h, List.find?_append, List.find?_append]
      cases e : acc.find? fun p => P p.1 with
      | some q => rfl
      | none =>
        obtain ⟨q, hq, eq⟩ := List.mem_map.mp h
        have nq := List.find?_eq_none.mp e q hq
        have np : P p.1 = false := by rw [← eq]; rw [Bool.not_eq_true] at nq; exact nq
        rw [List.find?_cons, np]
    · rw [if_neg h, List.append_assoc]; rfl
/-- the first sequence that the rest of the search gives -/
def ansP (g : Graph) (t k : Nat) (L : List (List Nat × Sq)) (f : Nat) : Option Sq :=
  match minFrom g (L.map (·.1)) f t k with
  | none => none
  | some j => match L.find? fun p => hit g t k j p.1 with
    | none => none
    | some p => (shortestSequence g t k j p.1).map (p.2 ++ ·)
theorem find_flat {α β : Type} (F : α → List β) (P : β → Bool) : ∀ l : List α, (l.flatMap F).find? P = (match l.find? (fun a => (F a).any P) with | none => none | some a => (F a).find? P)
  | [] => rfl
  | a :: r => by
    rw [List.flatMap_cons, List.find?_append, List.find?_cons]
    cases e : (F a).any P with
    | true =>
      obtain ⟨b, hb, z⟩ := List.any_eq_true.mp e
      cases q : (F a).find? P with
      | none => exact absurd z (List.find?_eq_none.mp q b hb)
      | some x => simp [q]
    | false =>
      have q : (F a).find? P = none := List.find?_eq_none.mpr fun b hb => List.any_eq_false.mp e b hb
      rw [q]
      exact find_flat F P r
theorem find_map' {α β : Type} (F : α → β) (P : β → Bool) (l : List α) : (l.map F).find? P = (l.find? fun a => P (F a)).map F := by
  rw [List.find?_map]; rfl
theorem find_congr' {α : Type} {P R : α → Bool} : ∀ {l : List α}, (∀ a ∈ l, P a = R a) → l.find? P = l.find? R
  | [], _ => rfl
  | a :: r, h => by
    rw [List.find?_cons, List.find?_cons, h a (List.mem_cons_self ..), find_congr' (l := r) fun b hb => h b (List.mem_cons_of_mem _ hb)]
theorem ans_nil {g : Graph} {t k f : Nat} : ansP g t k [] f = none := by
  unfold ansP
  have e : minFrom g (([] : List (List Nat × Sq)).map (·.1)) f t k = none := by
    unfold minFrom
    show (levelsFrom g [] f).findIdx? _ = none
    rw [levels_nil]; rfl
  rw [e]
theorem any_keys {g : Graph} {t k i : Nat} (L : List (List Nat × Sq)) : (L.map (·.1)).any (hit g t k i) = L.any fun p => hit g t k i p.1 := by
  rw [List.any_map]; rfl
theorem find_some_any {α : Type} {P : α → Bool} {l : List α} (h : l.any P = true) : ∃ a, l.find? P = some a ∧ a ∈ l ∧ P a = true := by
  obtain ⟨b, hb, z⟩ := List.any_eq_true.mp h
  cases q : l.find? P with
  | none => exact absurd z (List.find?_eq_none.mp q b hb)
  | some x => exact ⟨x, rfl, List.mem_of_find?_eq_some q, List.find?_some q⟩
theorem ans_turn {g : Graph} {t k f : Nat} {L : List (List Nat × Sq)} (hL : L ≠ []) (hl : Lvl g.vertexCount (f + 1) (L.map (·.1))) :
    ansP g t k L (f + 1) = match L.find? fun p => decide (k ≤ p.1.getD t 0) with | some p => some p.2 | none => ansP g t k (nextS (allM g) L) f := by
  have hM : L.map (·.1) ≠ [] := fun e => hL (List.map_eq_nil_iff.mp e)
  have nk : (nextS (allM g) L).map (·.1) = ((L.map (·.1)).flatMap (successors g)).eraseDups := by rw [nextS_keys, next_all]
  cases e : L.find? fun p => decide (k ≤ p.1.getD t 0) with
  | some p =>
    have a : (L.map (·.1)).any (hit g t k 0) = true := by
      rw [any_keys]
      have z := List.find?_some e
      exact List.any_eq_true.mpr ⟨p, List.mem_of_find?_eq_some e, z⟩
    unfold ansP
    rw [min_cons hM, if_pos a]
    show (match L.find? (fun p => hit g t k 0 p.1) with | none => none | some p => (shortestSequence g t k 0 p.1).map (p.2 ++ ·)) = _
    have e' : L.find? (fun p => hit g t k 0 p.1) = some p := e
    rw [e']
    show some (p.2 ++ []) = some p.2
    rw [List.append_nil]
  | none =>
    have a : ¬ (L.map (·.1)).any (hit g t k 0) = true := by
      rw [any_keys, List.any_eq_true]
      rintro ⟨p, hp, z⟩
      exact List.find?_eq_none.mp e p hp z
    show ansP g t k L (f + 1) = ansP g t k (nextS (allM g) L) f
    unfold ansP
    rw [nk, min_cons hM, if_neg a]
    cases m : minFrom g ((L.map (·.1)).flatMap (successors g)).eraseDups f t k with
    | none => rfl
    | some j =>
      obtain ⟨h1, h2⟩ := (min_hit hl.nextE j).mp m
      rw [any_next, any_keys] at h1
      have h2' : ∀ i < j, ∀ p ∈ L, hit g t k (i + 1) p.1 = false := fun i hi p hp => by
        have := h2 i hi
        rw [any_next, any_keys, List.any_eq_false] at this
        have z := this p hp
        rw [Bool.not_eq_true] at z
        exact z
      show (match L.find? (fun p => hit g t k (j + 1) p.1) with | none => none | some p => (shortestSequence g t k (j + 1) p.1).map (p.2 ++ ·)) =
        (match (nextS (allM g) L).find? (fun p => hit g t k j p.1) with | none => none | some p => (shortestSequence g t k j p.1).map (p.2 ++ ·))
      unfold nextS
      rw [ddS_find (hit g t k j), List.nil_append, find_flat]
      have sp : (fun p : List Nat × Sq => (steps (allM g) p).any fun q => hit g t k j q.1) = fun p => hit g t k (j + 1) p.1 := funext fun p => by
        show _ = (successors g p.1).any (hit g t k j)
        rw [← succs_all, ← steps_keys, List.any_map]; rfl
      rw [sp]
      obtain ⟨p, fp, mp, zp⟩ := find_some_any h1
      rw [fp]
      show (shortestSequence g t k (j + 1) p.1).map (p.2 ++ ·) = (match (steps (allM g) p).find? (fun q => hit g t k j q.1) with | none => none | some p => (shortestSequence g t k j p.1).map (p.2 ++ ·))
      have ssq : shortestSequence g t k (j + 1) p.1 = match (possibleMoves g p.1).find? fun m => minMoves g (Ks577.move p.1 m.1 m.2) t k == some j with
        | none => none
        | some m => (shortestSequence g t k j (Ks577.move p.1 m.1 m.2)).map fun rest => m :: rest := rfl
      rw [ssq]
      have len : p.1.length = g.vertexCount := (hl p.1 (List.mem_map.mpr ⟨p, mp, rfl⟩)).1
      have fc : (possibleMoves g p.1).find? (fun m => minMoves g (Ks577.move p.1 m.1 m.2) t k == some j) = (possibleMoves g p.1).find? fun m => hit g t k j (Ks577.move p.1 m.1 m.2) := by
        refine find_congr' fun m hm => ?_
        have lm : (Ks577.move p.1 m.1 m.2).length = g.vertexCount := by rw [move_length]; exact len
        have hs : Ks577.move p.1 m.1 m.2 ∈ successors g p.1 := List.mem_map.mpr ⟨m, hm, rfl⟩
        rw [Bool.eq_iff_iff, beq_iff_eq, min_moves_hit lm]
        refine ⟨fun h => h.1, fun h => ⟨h, fun i hi => ?_⟩⟩
        have z := h2' i hi p mp
        have z2 : ¬ hit g t k i (Ks577.move p.1 m.1 m.2) = true := List.any_eq_false.mp z _ hs
        rw [Bool.not_eq_true] at z2
        exact z2
      rw [fc, possible_is]
      unfold steps
      rw [find_map']
      cases (List.filter (fun m => decide (2 ≤ p.1.getD m.1 0)) (allM g)).find? (fun m => hit g t k j (Ks577.move p.1 m.1 m.2)) with
      | none => rfl
      | some m =>
        show ((shortestSequence g t k j (Ks577.move p.1 m.1 m.2)).map fun rest => m :: rest).map (p.2 ++ ·) = (shortestSequence g t k j (Ks577.move p.1 m.1 m.2)).map ((p.2 ++ [m]) ++ ·)
        cases shortestSequence g t k j (Ks577.move p.1 m.1 m.2) with
        | none => rfl
        | some r => show some (p.2 ++ m :: r) = some (p.2 ++ [m] ++ r); rw [List.append_assoc]; rfl
/-- the whole search -/
theorem ans_start {g : Graph} {t k : Nat} {c : List Nat} : ansP g t k [(c, [])] (c.sum + 1) = (match minMoves g c t k with | none => none | some j => shortestSequence g t k j c) ∨ c.length ≠ g.vertexCount := by
  by_cases hc : c.length = g.vertexCount
  · left
    unfold ansP
    show (match minMoves g c t k with | none => none | some j => match List.find? (fun p : List Nat × Sq => hit g t k j p.1) [((c, []) : List Nat × Sq)] with | none => none | some p => (shortestSequence g t k j p.1).map (p.2 ++ ·)) = _
    cases m : minMoves g c t k with
    | none => rfl
    | some j =>
      obtain ⟨h1, _⟩ := (min_moves_hit hc).mp m
      show (match List.find? (fun p : List Nat × Sq => hit g t k j p.1) [((c, []) : List Nat × Sq)] with | none => none | some p => (shortestSequence g t k j p.1).map (p.2 ++ ·)) = _
      rw [List.find?_cons, h1]
      show (shortestSequence g t k j c).map ([] ++ ·) = shortestSequence g t k j c
      cases shortestSequence g t k j c <;> rfl
  · exact .inr hc
end Peb
namespace Peb
open PySem PySem.Spec PyProof.Rows L2
def top (i : Nat) : Stmt := PySem.Challenge.pw_halvedpebbles_s07_apply_moves.main.body.getD i (.Pass ⟨0, 0, 0, 0⟩)
abbrev sEdges : Stmt := top 4
abbrev sPebbles : Stmt := top 5
abbrev sFit : Stmt := top 6
abbrev sLimits : Stmt := top 7
abbrev sMoves : Stmt := top 8
abbrev sAfter : Stmt := top 9
abbrev sPerf : Stmt := top 10
abbrev sApply : Stmt := top 11
/-! ### dicts whose keys are tuples: a display of one pair, setdefault, a walk over items -/
section
variable {X : Cx}
/-- {k: v} -/
def tOne (tk tv : TE) : TE := fun σ H Q => ∀ p, H p = none → tk σ (upd H p (.dT [])) fun x H1 => tv σ H1 fun y H2 =>
  H2 p = some (.dT []) ∧ ∃ (b : Addr) (ks : List L2.Key), x = .ref b ∧ H2 b = some (.tup (ks.map kV)) ∧ Q (.ref p) (upd H2 p (.dT [(ks, y)]))
theorem pe_one1 {k v : Expr} {tk tv : TE} {pos : Pos} (hu : X.A.units + 1 < cLine) (hk : PE X k tk) (hv : PE X v tv) : PE X (.Dict [some k] [v] pos) (tOne tk tv) := by
  refine ⟨fun pp s σ H Q I q => ?_⟩
  have fr := I.hok.fresh (Nat.le_refl s.heap.objs.size)
  have J := I.laid (o := .dT []) (a := s.heap.objs.size) (t' := s.toks) (h' := s.heap.push { cls := .type "dict", data := .dict #[] }) (fun _ _ z => Heap.get?_push_of_some _ z) (Nat.le_refl _) (dt_empty s.heap I.big)
  rw [arm_eval_Dict, zip_pairTrees [some k] [v] X.env pos rfl rfl, dictDisplay_pairs _ (by simp [pairTrees]) (by simp [pairTrees])]
  refine wpAny_bind (wpAny_standAt (wpAny_bind (wpAny_subDictH (knd := tupleKind (mixKind X.prog X.w)) (Q := fun d s' => wpAny (model X.prog X.w) X.A (pure (Value.ref d)) (EP X pp σ Q) X.xe s') (by show X.A.units < cLine; omega) (by simp [pairTrees]) ?_)))
  refine pairTrees_cons_walk (thn (hk.run pp _ σ _ _ J (q _ fr)) fun u r1 ⟨x, H1, I1, rx, q1⟩ => thn (hv.run pp r1 σ H1 _ I1 q1) fun r s2 ⟨y, H2, I2, ry, e, b, ks, ex, eb, q2⟩ => pairTrees_nil_walk ?_)
  subst ex
  cases (show u = Value.ref b from rx)
  obtain ⟨z, hd, ents, rel, dd⟩ := dt_of I2.hok e
  cases rel
  refine ⟨[(ks, b, r)], ⟨rfl, rfl, key_of I2.hok eb, trivial⟩, dd, fun h' tk' dd' hsb => wpAny_pure ⟨.ref s.heap.objs.size, _, ?_, rfl, q2⟩⟩
  obtain ⟨o, es, ep, ho, h2, h3, h4, _, h5⟩ := dd'
  refine d_write I2 (by rw [e]; trivial) hsb ⟨o, ho⟩ ⟨by show 1 ≤ sizeLine; decide, hd, [(ks, b, r)], .cons ⟨rfl, ?_, ry⟩ .nil, o, es, ep, ho, h2, h3, h4, h5⟩
  rw [upd_ne (ne_of eb e (fun z => nomatch z))]
  exact eb
/-- d.setdefault(y, z) -/
def tSetT (td ty tz : TE) : TE := fun σ H Q => td σ H fun x H1 => ∃ a, x = .ref a ∧ IsD H1 a ∧ ty σ H1 fun y H2 => tz σ H2 fun z H3 =>
  ∃ (kvs : List (List L2.Key × V)) (k : List L2.Key) (b : Addr), H3 a = some (.dT kvs) ∧ y = .ref b ∧ H3 b = some (.tup (k.map kV)) ∧ kvs.length < sizeLine ∧
    (∀ v, valV kvs k = some v → Q v H3) ∧ (valV kvs k = none → Q z (upd H3 a (.dT (putK kvs k z))))
theorem setT_call {pp : List (Addr × Obj)} {σ : L2.St} {H : Hp} {s : Shared} {a b : Addr} {r : Value} {z : V} {k : List L2.Key} {kvs : List (List L2.Key × V)} {Q : V → Hp → Prop} (hu : X.A.units + 1 < cLine) (I : Inv X pp σ H s)
    (ea : H a = some (.dT kvs)) (eb : H b = some (.tup (k.map kV))) (rz : RelV z r) (hl : kvs.length < sizeLine) (q1 : ∀ v, valV kvs k = some v → Q v H) (q2 : valV kvs k = none → Q z (upd H a (.dT (putK kvs k z)))) :
    wpAny (model X.prog X.w) X.A (call (.builtin "dict.setdefault") [.ref a, .ref b, r]) (EP X pp σ Q) X.xe s := by
  obtain ⟨hz, hd, ents, rel, dd⟩ := dt_of I.hok ea
  refine call_meetsIn PySem.F.slot_dict_setdefault dd.typeIs PySem.F.entry_dict_setdefault (PySem.F.args_dict_setdefault_3 _ _ _) (meetsH_dict_setdefault (tupleKind (mixKind X.prog X.w)) a b hd r)
    ⟨tupleKind_room_in1 hu, k, ents, key_of I.hok eb, dd, by rw [← Paired.length rel]; exact hz, fun p hp => ?_, fun hn h' dd' hsb => ?_⟩
  · have t := rel.val k
    rw [hp] at t
    cases e : valV kvs k with
    | none => rw [e] at t; exact (show False from t).elim
    | some v =>
      rw [e] at t
      show EP X pp σ Q p.2 _
      exact ⟨v, H, I.tok _, t, q1 v e⟩
  · have t := rel.val k
    rw [hn] at t
    cases e : valV kvs k with
    | some v => rw [e] at t; exact (show False from t).elim
    | none =>
      have big := length_putK kvs k z
      obtain ⟨o, es, ep, ho, h2, h3, h4, _, h5⟩ := dd'
      show EP X pp σ Q r _
      refine ⟨z, upd H a (.dT (putK kvs k z)), d_write (t' := s.toks + _) I (by rw [ea]; trivial) hsb ⟨o, ho⟩ ⟨by omega, hd, _, (rel.put k eb rz).keeps fun c ys ec => ?_, o, es, ep, ho, h2, h3, h4, h5⟩, rz, q2 e⟩
      rw [upd_ne (ne_of ec ea (fun z => nomatch z))]
      exact ec
theorem pe_setT {o e f : Expr} {td ty tz : TE} {apos cpos : Pos} (hu : X.A.units + 1 < cLine) (ho : PE X o td) (he : PE X e ty) (hf : PE X f tz) (m : M2 X o "setdefault" apos e f cpos) :
    PE X (.Call (.Attribute o "setdefault" apos) [e, f] [] cpos) (tSetT td ty tz) := by
  refine ⟨fun pp s σ H Q I h => ?_⟩
  refine wpAny_Call_method m.base m.few m.line PySem.F.plainAttrs_dict PySem.F.slot_dict_setdefault PySem.F.type_dict_setdefault
    (thn (ho.run pp s σ H _ I h) fun u r1 ⟨x, H1, I1, rx, a, ex, d, q1⟩ => ?_)
  subst ex
  cases (show u = Value.ref a from rx)
  obtain ⟨t1, t2, _⟩ := isD_at I1 d
  refine ⟨t1, t2, ?_⟩
  rw [m.trees]
  refine Calls.callWith_builtin rfl (Calls.evalArgs_plain (Calls.spliced_cons (thn (he.run pp r1 σ H1 _ I1 q1) fun u2 s2 ⟨y, H2, I2, ry, q2⟩ =>
    Calls.spliced_cons (thn (hf.run pp s2 σ H2 _ I2 q2) fun r s3 ⟨z, H3, I3, rz, kvs, k, b, ea, ey, eb, hl, q3, q4⟩ => Calls.spliced_nil ?_))))
  subst ey
  cases (show u2 = Value.ref b from ry)
  exact setT_call hu I3 ea eb rz hl q3 q4
end
/-! the pairs of a locked dict, each in a tuple of its own -/
def ItT (d : Addr) (o : Obj) (kvs : List (List L2.Key × V)) : It :=
  ⟨fun i H => H d = some (.frz o (.dT kvs)) ∧ i < kvs.length, fun i H x H' => ∃ T q k v, kvs[i]? = some (k, v) ∧ x = .ref T ∧ H T = none ∧ H q = some (.tup (k.map kV)) ∧ H' = upd H T (.tup [.ref q, v]),
    fun i H => H d = some (.frz o (.dT kvs)) ∧ kvs.length ≤ i⟩
theorem frzE {X : Cx} {pp : List (Addr × Obj)} {σ : L2.St} {H : Hp} {s : Shared} {d : Addr} {o : Obj} {kvs : List (List L2.Key × V)} (I : Inv X pp σ H s) (h : H d = some (.frz o (.dT kvs))) :
    (d == sysModules) = false ∧ ∃ (es : Array DictEntry) (ep : Nat), o.data = .dict es ep ∧ es.size = kvs.length ∧ DT.Raw s.heap d es ep ∧
      ∀ (i : Nat) (k : List L2.Key) (v : V), kvs[i]? = some (k, v) → ∃ (en : DictEntry) (q : Addr), es[i]? = some en ∧ en.key = .ref q ∧ H q = some (.tup (k.map kV)) ∧ RelV v en.val := by
  obtain ⟨hd, z, hsb, ents, pr, o', es, ep, ho, hx, hes, he, _⟩ := I.hok d _ h
  rw [hd] at ho
  cases ho
  have n1 := size_of_entries he
  have n2 : kvs.length = ents.length := Paired.length pr
  refine ⟨hsb, es, ep, hes, by omega, ⟨o, hd, hx, hes⟩, fun i k v e => ?_⟩
  obtain ⟨b, hb, e1, e2, e3⟩ := paired_get pr e
  have q := entry_at he i
  rw [hb] at q
  exact ⟨_, b.2.1, q, rfl, e2, e3⟩
theorem turnT {P : Program} {w : World} {K : PySem.W.Frag} {d : Addr} {o : Obj} {es : Array DictEntry} {ep : Nat} {kvs : List (List L2.Key × V)} {elts : List Expr} {kk : Nat} {tpos : Pos} (it : Addr) (hod : o.data = .dict es ep) :
    Turn P w K (.Tuple elts kk tpos) (ItT d o kvs) [it] it (fun i h => ∃ ok ov, IsItemIter h it d i kvs.length ep ok ov) where
  mem := by simp
  obj := fun i h ⟨ok, ov, e⟩ b hb => by
    rw [List.mem_singleton] at hb
    subst hb
    exact ⟨_, e, fun v z => nomatch z⟩
  keep := fun i h h' ⟨ok, ov, e⟩ k => ⟨ok, ov, k it (List.mem_singleton.mpr rfl) _ e⟩
  item := by
    intro X hP hw hK hc i pp s σ H E I hf ⟨ok, ov, he⟩ ⟨hd, hi⟩
    subst hP hw hK
    obtain ⟨hsb, es', ep', hes, hsz, raw, ent⟩ := frzE I hd
    obtain ⟨rfl, rfl⟩ := dict_ep hod hes
    obtain ⟨⟨k, v⟩, hat⟩ : ∃ p, kvs[i]? = some p := ⟨kvs[i], List.getElem?_eq_getElem hi⟩
    obtain ⟨en, q, hen, hkey, hq, hval⟩ := ent i k v hat
    have below : it < s.heap.objs.size := Heap.lt_size he
    rw [← hsz] at he
    have hie : i < es'.size := by omega
    have een : es'[i] = en := by rw [Array.getElem?_eq_getElem hie] at hen; exact Option.some.inj hen
    refine DT.nextI he raw hie fun h' ho hT hz hk => ?_
    rw [een, hkey] at ho hT
    refine ⟨_, rfl, wpAny_letOwnedTupleGo_items (s := { s with heap := h' }) ho fun h'' he' sb => ?_⟩
    have hT2 := (sb.2 _ (Nat.ne_of_gt below)).trans hT
    have J : Inv X pp σ (upd H s.heap.objs.size (.tup [.ref q, v])) { s with heap := h'' } :=
      I.turnedNew (t' := s.toks) (ch := [it]) (fun b ob hb e => (sb.2 b (fun z => hb (by simp [z]))).trans (hk b ob (fun z => hb (by simp [z])) e)) hf (Nat.le_refl _)
        ⟨by show 2 ≤ sizeLine; decide, [.ref q, en.val], .cons rfl (.cons hval .nil), _, hT2, rfl, _, rfl⟩
    refine ⟨.ref s.heap.objs.size, _, J, rfl, ⟨_, q, k, v, hat, rfl, I.hok.fresh (Nat.le_refl _), hq, rfl⟩, ⟨_, _, by rw [← hsz]; exact he'⟩, fun b hb => ?_⟩
    rw [List.mem_singleton] at hb
    rw [hb, upd_ne (Nat.ne_of_lt below)]
    exact (hf it (by simp)).1
  done := by
    intro X hP hw hK hc i pp s σ H E I hf ⟨ok, ov, he⟩ ⟨hd, hi⟩
    subst hP hw hK
    obtain ⟨f0, f1, f2, f3, f4, g5⟩ := hf it (by simp)
    obtain ⟨hsb, es', ep', hes, hsz, raw, ent⟩ := frzE I hd
    obtain ⟨rfl, rfl⟩ := dict_ep hod hes
    rw [← hsz] at he
    exact DT.endI (I.ok.hd hc) he raw (by omega) fun h' eb => ⟨rfl, I.turned (t' := s.toks) (fun b ob hb e => eb b ob hb e) f0 f1 f3 f4 g5⟩
  self := fun A i s Q E ⟨_, _, e⟩ h => PySem.W.kcp_self e h
/-- for k, v in d.items() -/
def iPairsT (td : TE) : TI := fun σ H R => td σ H fun x H1 => ∃ d o kvs, x = .ref d ∧ H1 d = some (.frz o (.dT kvs)) ∧ R (ItT d o kvs) H1
theorem pi_pairsT {X : Cx} {e : Expr} {td : TE} {apos cpos tpos : Pos} {elts : List Expr} {kk : Nat} (he : PE X e td) (hb : attributeBase e "items" X.env (eval e X.env) = eval e X.env := by rfl) (hl : (apos.endLine == cpos.line) = true := by rfl) :
    PI X (.Tuple elts kk tpos) (.Call (.Attribute e "items" apos) [] [] cpos) (iPairsT td) := by
  refine ⟨fun pp s σ H R I h => ?_⟩
  refine wpAny_Call_method (id := "dict.items") (T := "dict") hb rfl hl F.plainAttrs_dict F.slot_dict_items F.type_dict_items
    (thn (he.run pp s σ H _ I h) fun u r1 ⟨x, H1, I1, rx, d, o, kvs, ex, hd, q⟩ => ?_)
  subst ex
  cases (show u = Value.ref d from rx)
  obtain ⟨hsb, es, ep, hes, hsz, raw, _⟩ := frzE I1 hd
  refine ⟨raw.typeIs, fun b z => ?_, ?_⟩
  · cases z
    obtain ⟨ob, e1, e2, _⟩ := raw
    exact ⟨ob, e1, e2.2.1⟩
  have J : Inv X pp σ H1 { r1 with heap := r1.heap.push { cls := .type "dict_items", data := .fields #[.ref d] } } := I1.kept (t' := r1.toks) fun b ob z => Heap.get?_push_of_some _ z
  have fin : wpAny (model X.prog X.w) X.A (pyIter (.ref r1.heap.objs.size)) (PIE X pp σ (.Tuple elts kk tpos) R) X.xe { r1 with heap := r1.heap.push { cls := .type "dict_items", data := .fields #[.ref d] } } := by
    refine DT.iterI ⟨_, Heap.get?_push_size _ rfl, rfl, rfl⟩ (raw.push _) (pi_one (tk := r1.toks) J _ (turnT _ hes) ⟨.none, .none, ?_⟩ q)
    rw [← hsz]
    exact Heap.get?_push_size _ rfl
  show wpAny _ _ (callWith cpos (.builtin "dict.items") [.ref d] [] []) _ X.xe r1
  exact method_meetsIn F.slot_dict_items F.entry_dict_items rfl (PySem.evalArgs_none ⟨rfl, raw.typeIs, F.args_dict_items_1 _, _, DT.meetsItems hsb, ⟨raw, fin⟩⟩)
/-- naturals as ints -/
def iN (l : List Nat) : List Int := l.map fun k : Nat => (k : Int)
theorem iN_get {l : List Nat} {i x : Nat} (h : l[i]? = some x) : ((iN l).map V.int)[i]? = some (.int (x : Int)) := by
  unfold iN
  rw [List.getElem?_map, List.getElem?_map, h]
  rfl
theorem iN_length (l : List Nat) : ((iN l).map V.int).length = l.length := by unfold iN; rw [List.length_map, List.length_map]
theorem rg2 {n : Nat} (h : n ≤ 1000) (e : n % 2 = 0) : RgC 0 (n : Int) 2 (n / 2) := by
  have h1 : Builtin.Range.rangeSize 0 (n : Int) 2 = ((n / 2 : Nat) : Int) := by
    unfold Builtin.Range.rangeSize
    rw [if_pos (by decide)]
    split <;> omega
  have f : ∀ z : Int, 0 ≤ z → z ≤ 2000 → Builtin.Range.rangeFitsLong z = true := fun z h0 h2 => by
    unfold Builtin.Range.rangeFitsLong
    rw [Bool.and_eq_true, decide_eq_true_iff, decide_eq_true_iff]
    constructor
    · exact Int.le_trans (by decide) h0
    · exact Int.lt_of_le_of_lt h2 (by decide)
  have f1 := f 0 (by omega) (by omega)
  have f2 := f n (by omega) (by omega)
  have f3 := f 2 (by omega) (by omega)
  have f4 := f ((n / 2 : Nat) : Int) (by omega) (by omega)
  have f5 := f ((n : Int) + (2 - 1)) (by omega) (by omega)
  refine ⟨by decide, by decide, ?_, h1⟩
  unfold Builtin.Range.small
  rw [h1, if_pos (by decide), f1, f2, f3, f4, f5]
  simp
theorem odd_len (es : List Nat) : (!decide (V.int (((((iN es).map V.int).length : Nat) : Int) % 2) = V.int 0)) = decide (es.length % 2 ≠ 0) := by
  rw [iN_length]
  by_cases z : es.length % 2 = 0
  · rw [show ((es.length : Int) % 2) = 0 by omega, decide_eq_false (by omega : ¬ es.length % 2 ≠ 0)]; rfl
  · rw [show ((es.length : Int) % 2) = 1 by omega, decide_eq_true (by omega : es.length % 2 ≠ 0)]; rfl
theorem small2 : (2 : Nat) ≤ sizeLine := by decide
/-- (u, v) <= (p, q), as Python compares tuples -/
theorem lex2 (u v p q : Nat) : Ob.lexAt (fun j => decide (([(u : Int), (v : Int)] : List Int).getD j 0 = ([(p : Int), (q : Int)] : List Int).getD j 0)) (fun j => decide (([(u : Int), (v : Int)] : List Int).getD j 0 ≤ ([(p : Int), (q : Int)] : List Int).getD j 0))
    (decide (([(u : Int), (v : Int)] : List Int).length ≤ ([(p : Int), (q : Int)] : List Int).length)) 0 (min ([(u : Int), (v : Int)] : List Int).length ([(p : Int), (q : Int)] : List Int).length) = decide (¬ ltP (p, q) (u, v)) := by
  show (if decide ((u : Int) = (p : Int)) = true then (if decide ((v : Int) = (q : Int)) = true then decide (2 ≤ 2) else decide ((v : Int) ≤ (q : Int))) else decide ((u : Int) ≤ (p : Int))) = _
  unfold ltP
  show _ = decide (¬ (p < u ∨ (p = u ∧ q < v)))
  by_cases h1 : u = p
  · subst h1
    rw [if_pos (decide_eq_true rfl)]
    by_cases h2 : v = q
    · subst h2
      rw [if_pos (decide_eq_true rfl), decide_eq_true (by decide), decide_eq_true (by omega)]
    · rw [if_neg (by rw [decide_eq_true_iff]; omega)]
      by_cases h3 : v < q
      · rw [decide_eq_true (by omega), decide_eq_true (by omega)]
      · rw [decide_eq_false (by omega), decide_eq_false (by omega)]
  · rw [if_neg (by rw [decide_eq_true_iff]; omega)]
    by_cases h3 : u < p
    · rw [decide_eq_true (by omega), decide_eq_true (by omega)]
    · rw [decide_eq_false (by omega), decide_eq_false (by omega)]
theorem same_upd {H : Hp} {p : Addr} {o : HO} (h : H p = none) : Same H (upd H p o) := fun b x e => by
  rw [upd_ne (ne_of_none e h)]
  exact e
theorem iN_sum : ∀ l : List Nat, (iN l).sum = ((l.sum : Nat) : Int)
  | [] => rfl
  | a :: r => by
    show ((a : Int) :: iN r).sum = (((a :: r).sum : Nat) : Int)
    rw [List.sum_cons, List.sum_cons, iN_sum r]
    omega
theorem eq_int (a b : Nat) : decide (V.int (a : Int) = V.int (b : Int)) = decide (a = b) := by
  by_cases e : a = b
  · subst e; rw [decide_eq_true rfl, decide_eq_true rfl]
  · rw [decide_eq_false e, decide_eq_false (fun z => e (by injection z with z; omega))]
theorem ne_zero (i : Int) : (!decide (V.int i = V.int 0)) = decide (i ≠ 0) := by
  by_cases e : i = 0
  · subst e; rfl
  · rw [decide_eq_true e, decide_eq_false (fun z => e (by injection z))]; rfl
/-! ### pairs of lists -/
theorem pd_get {α β : Type} {F : α → β → Prop} : ∀ {l : List α} {r : List β} {i : Nat} {a : α}, Paired F l r → l[i]? = some a → ∃ b, r[i]? = some b ∧ F a b
  | _, _, _, _, .nil, h => by simp at h
  | _, _, 0, _, .cons q _, h => by
    obtain rfl := Option.some.inj h
    exact ⟨_, rfl, q⟩
  | _, _, i + 1, _, .cons _ q, h => pd_get (i := i) q h
theorem pd_len {α β : Type} {F : α → β → Prop} : ∀ {l : List α} {r : List β}, Paired F l r → l.length = r.length
  | _, _, .nil => rfl
  | _, _, .cons _ q => congrArg (· + 1) (pd_len q)
theorem pd_mono {α β : Type} {F G : α → β → Prop} (f : ∀ a b, F a b → G a b) : ∀ {l : List α} {r : List β}, Paired F l r → Paired G l r
  | _, _, .nil => .nil
  | _, _, .cons h q => .cons (f _ _ h) (pd_mono f q)
theorem pd_app {α β : Type} {F : α → β → Prop} {l' : List α} {r' : List β} (h' : Paired F l' r') : ∀ {l : List α} {r : List β}, Paired F l r → Paired F (l ++ l') (r ++ r')
  | _, _, .nil => h'
  | _, _, .cons h q => .cons h (pd_app h' q)
theorem ref_get {bs : List Addr} {i : Nat} {x : V} (h : (bs.map V.ref)[i]? = some x) : ∃ b, bs[i]? = some b ∧ x = .ref b := by
  rw [List.getElem?_map] at h
  cases e : bs[i]? with
  | none => rw [e] at h; cases h
  | some b => rw [e] at h; exact ⟨b, rfl, (Option.some.inj h).symm⟩
theorem take_more {α : Type} {l : List α} {i : Nat} {x : α} (h : l[i]? = some x) : l.take (i + 1) = l.take i ++ [x] := by
  rw [List.take_add_one, h]; rfl
/-! ### what lies at an address -/
def ConfAt (H : Hp) (b : Addr) (c : List Nat) : Prop := H b = some (.tup ((iN c).map V.int))
def LvlAt (H : Hp) (a : Addr) (L : List (List Nat)) : Prop := ∃ bs : List Addr, H a = some (.lst (bs.map V.ref)) ∧ Paired (ConfAt H) bs L
def MoveAt (H : Hp) (b : Addr) (m : Nat × Nat) : Prop := H b = some (.tup [.int (m.1 : Int), .int (m.2 : Int)])
def MovesAt (H : Hp) (a : Addr) (ms : List (Nat × Nat)) : Prop := ∃ bs : List Addr, H a = some (.lst (bs.map V.ref)) ∧ Paired (MoveAt H) bs ms
theorem LvlAt.same {H H' : Hp} {a : Addr} {L : List (List Nat)} (s : Same H H') (h : LvlAt H a L) : LvlAt H' a L := by
  obtain ⟨bs, h1, h2⟩ := h
  exact ⟨bs, s _ _ h1, pd_mono (fun _ _ z => s _ _ z) h2⟩
theorem MovesAt.same {H H' : Hp} {a : Addr} {ms : List (Nat × Nat)} (s : Same H H') (h : MovesAt H a ms) : MovesAt H' a ms := by
  obtain ⟨bs, h1, h2⟩ := h
  exact ⟨bs, s _ _ h1, pd_mono (fun _ _ z => s _ _ z) h2⟩
theorem movesOf_append (l r : List (Nat × Nat)) : movesOf (l ++ r) = movesOf l ++ movesOf r := by
  induction l with
  | nil => rfl
  | cons e t ih => simp only [List.cons_append, movesOf, ih]
theorem pairsOf_get : ∀ {es : List Nat} {i u v : Nat}, es[2 * i]? = some u → es[2 * i + 1]? = some v → (pairsOf es)[i]? = some (u, v)
  | [], i, u, v, h, _ => by simp at h
  | [x], i, u, v, _, h => by simp at h
  | a :: b :: r, 0, u, v, h, h' => by
    obtain rfl := Option.some.inj h
    obtain rfl := Option.some.inj h'
    rfl
  | a :: b :: r, i + 1, u, v, h, h' => by
    show (pairsOf r)[i]? = some (u, v)
    exact pairsOf_get (es := r) (by simpa [show 2 * (i + 1) = 2 * i + 1 + 1 by omega] using h) (by simpa [show 2 * (i + 1) = 2 * i + 1 + 1 by omega] using h')
theorem pairsOf_len : ∀ {es : List Nat}, (pairsOf es).length = es.length / 2
  | [] => rfl
  | [_] => by simp [pairsOf]
  | u :: v :: r => by
    have := pairsOf_len (es := r)
    show (pairsOf r).length + 1 = (r.length + 1 + 1) / 2
    omega
theorem iN_set (l : List Nat) (i x : Nat) (z : Int) (h : z = (x : Int)) : ((iN l).map V.int).set i (.int z) = (iN (l.set i x)).map V.int := by
  subst h
  unfold iN
  rw [List.map_set, List.map_set]
theorem ixN_at {n j : Nat} (h : j < n) : ixN n (j : Int) = some j := by
  unfold ixN
  rw [if_pos (Int.natCast_nonneg j), if_pos (by omega)]
  rfl
theorem getD_get {l : List Nat} {i : Nat} (h : i < l.length) : l[i]? = some (l.getD i 0) := by
  rw [List.getElem?_eq_getElem h, List.getD_eq_getElem?_getD, List.getElem?_eq_getElem h]; rfl
/-! ### keys -/
def keyN (c : List Nat) : List L2.Key := (iN c).map Sum.inl
theorem keyN_kV (c : List Nat) : (keyN c).map kV = (iN c).map V.int := by
  unfold keyN
  rw [List.map_map]
  rfl
theorem iN_inj : ∀ {a b : List Nat}, iN a = iN b → a = b
  | [], [], _ => rfl
  | [], _ :: _, h => by cases h
  | _ :: _, [], h => by cases h
  | x :: a, y :: b, h => by
    have h' : (x : Int) :: iN a = (y : Int) :: iN b := h
    injection h' with h1 h2
    rw [iN_inj h2, Int.ofNat.inj h1]
theorem keyN_inj {a b : List Nat} (h : keyN a = keyN b) : a = b := by
  refine iN_inj ?_
  have h2 : (keyN a).map kV = (keyN b).map kV := by rw [h]
  rw [keyN_kV, keyN_kV] at h2
  generalize iN a = x at h2
  generalize iN b = y at h2
  induction x generalizing y with
  | nil => cases y with
    | nil => rfl
    | cons _ _ => cases h2
  | cons p r ih => cases y with
    | nil => cases h2
    | cons q t =>
      simp only [List.map_cons, List.cons.injEq, V.int.injEq] at h2
      rw [h2.1, ih t h2.2]
/-- d[key] = v, by the keys alone -/
theorem putK_keys {kvs : List (List L2.Key × V)} {acc : List (List Nat)} {y : List Nat} {v : V} (h : kvs.map (·.1) = acc.map keyN) : (putK kvs (keyN y) v).map (·.1) = (ins acc y).map keyN := by
  have e : (kvs.any fun kv => decide (kv.1 = keyN y)) = decide (y ∈ acc) := by
    by_cases z : y ∈ acc
    · rw [decide_eq_true z, List.any_eq_true]
      have hm : keyN y ∈ kvs.map (·.1) := by rw [h]; exact List.mem_map.mpr ⟨y, z, rfl⟩
      obtain ⟨p, hp, e⟩ := List.mem_map.mp hm
      exact ⟨p, hp, decide_eq_true e⟩
    · rw [decide_eq_false z, List.any_eq_false]
      intro p hp q
      have hm : p.1 ∈ kvs.map (·.1) := List.mem_map.mpr ⟨p, hp, rfl⟩
      rw [h] at hm
      obtain ⟨c, hc, e⟩ := List.mem_map.mp hm
      have e2 : keyN c = keyN y := e.trans (of_decide_eq_true q)
      exact z (keyN_inj e2 ▸ hc)
  unfold putK ins
  rw [e]
  by_cases z : y ∈ acc
  · rw [if_pos (decide_eq_true z), if_pos z, ← h, List.map_map]
    refine List.map_congr_left fun kv _ => ?_
    show (if kv.1 = keyN y then (kv.1, v) else kv).1 = kv.1
    split <;> rfl
  · rw [if_neg (by rw [decide_eq_true_iff]; exact z), if_neg z, List.map_append, List.map_append, h]
    rfl
theorem isKeys_conf {H : Hp} : ∀ {kvs : List (List L2.Key × V)} {bs : List Addr} {M : List (List Nat)}, IsKeys H kvs bs → kvs.map (·.1) = M.map keyN → Paired (ConfAt H) bs M
  | _, _, [], .nil, _ => .nil
  | _, _, _ :: _, .nil, h => by cases h
  | _, _, [], .cons _ _, h => by cases h
  | _, _, c :: M, .cons q r, h => by
    simp only [List.map_cons, List.cons.injEq] at h
    refine .cons ?_ (isKeys_conf r h.2)
    unfold ConfAt
    rw [q, h.1, keyN_kV]
theorem succs_more {ms : List (Nat × Nat)} {j : Nat} {m : Nat × Nat} (h : ms[j]? = some m) (c : List Nat) : succs (ms.take (j + 1)) c = if 2 ≤ c.getD m.1 0 then succs (ms.take j) c ++ [Ks577.move c m.1 m.2] else succs (ms.take j) c := by
  unfold succs
  rw [take_more h, List.filter_append, List.map_append]
  by_cases z : 2 ≤ c.getD m.1 0
  · rw [if_pos z, List.filter_cons, if_pos (decide_eq_true z)]; rfl
  · rw [if_neg z, List.filter_cons, if_neg (by rw [decide_eq_true_iff]; exact z)]
    simp
theorem dd_one (acc : List (List Nat)) (y : List Nat) : dd acc [y] = ins acc y := rfl
theorem dd_length_at (ms : List (Nat × Nat)) (L : List (List Nat)) (c : List Nat) {i j : Nat} (hi : i < L.length) (hj : j < ms.length) :
    (dd (dd [] ((L.take i).flatMap (succs ms))) (succs (ms.take j) c)).length < L.length * ms.length := by
  have h1 := length_dd (succs (ms.take j) c) (dd [] ((L.take i).flatMap (succs ms)))
  have h2 := length_dd ((L.take i).flatMap (succs ms)) []
  have h3 := flat_length ms (L.take i)
  have h4 := succs_length (ms.take j) c
  rw [List.length_take] at h3 h4
  have h5 : (i + 1) * ms.length ≤ L.length * ms.length := Nat.mul_le_mul_right _ hi
  have h6 : min i L.length = i := by omega
  rw [h6] at h3
  rw [Nat.succ_mul] at h5
  have h7 : ([] : List (List Nat)).length = 0 := rfl
  omega
theorem walk_pairsT {d : Addr} {o : Obj} {kvs : List (List L2.Key × V)} : Walk (ItT d o kvs) kvs.length (fun H => H d = some (.frz o (.dT kvs)))
    (fun i H x H' => ∃ T q k v, kvs[i]? = some (k, v) ∧ x = .ref T ∧ H T = none ∧ H q = some (.tup (k.map kV)) ∧ H' = upd H T (.tup [.ref q, v])) :=
  ⟨fun _ _ h g => ⟨g, h⟩, fun _ g => ⟨g, Nat.le_refl _⟩, fun _ _ _ _ _ _ y => y⟩
/-! ### levels as they lie: a dict, its keys configurations, its values sequences -/
def flatN (s : Sq) : List Nat := s.flatMap fun m => [m.1, m.2]
theorem flatN_length : ∀ s : Sq, (flatN s).length = 2 * s.length
  | [] => rfl
  | m :: r => by
    have := flatN_length r
    show (m.1 :: m.2 :: flatN r).length = _
    rw [List.length_cons, List.length_cons, List.length_cons]; omega
def SeqAt (H : Hp) (v : V) (s : Sq) : Prop := ∃ q, v = .ref q ∧ H q = some (.tup ((iN (flatN s)).map V.int))
def EntAt (H : Hp) (kv : List L2.Key × V) (p : List Nat × Sq) : Prop := kv.1 = keyN p.1 ∧ SeqAt H kv.2 p.2
def Lv (H : Hp) (a : Addr) (L : List (List Nat × Sq)) : Prop := ∃ kvs, H a = some (.dT kvs) ∧ Paired (EntAt H) kvs L
/-- the tuples stay -/
def Tups (H H' : Hp) : Prop := ∀ b xs, H b = some (.tup xs) → H' b = some (.tup xs)
theorem Tups.of {H H' : Hp} (s : Same H H') : Tups H H' := fun b xs e => s b _ e
theorem Tups.trans {H H' H'' : Hp} (s : Tups H H') (t : Tups H' H'') : Tups H H'' := fun b xs e => t b _ (s b _ e)
theorem Tups.upd {H : Hp} {a : Addr} {o : HO} (h : ∀ xs, H a ≠ some (.tup xs)) : Tups H (upd H a o) := fun b xs e => by
  rw [upd_ne (fun z => h xs (by rw [← z]; exact e))]; exact e
theorem EntAt.tups {H H' : Hp} (t : Tups H H') (kv : List L2.Key × V) (p : List Nat × Sq) (h : EntAt H kv p) : EntAt H' kv p := by
  obtain ⟨h1, q, h2, h3⟩ := h
  exact ⟨h1, q, h2, t _ _ h3⟩
theorem Lv.same {H H' : Hp} {a : Addr} {L : List (List Nat × Sq)} (s : Same H H') (h : Lv H a L) : Lv H' a L := by
  obtain ⟨kvs, h1, h2⟩ := h
  exact ⟨kvs, s _ _ h1, pd_mono (EntAt.tups (Tups.of s)) h2⟩
theorem ent_none {H : Hp} {c : List Nat} : ∀ {kvs : List (List L2.Key × V)} {L : List (List Nat × Sq)}, Paired (EntAt H) kvs L → (valV kvs (keyN c) = none ↔ c ∉ L.map (·.1))
  | _, _, .nil => by simp [valV_nil]
  | kv :: r, p :: L, .cons q t => by
    rw [List.map_cons, List.mem_cons]
    by_cases e : c = p.1
    · rw [valV_pos (by rw [q.1, e])]
      simp [e]
    · rw [valV_neg (by rw [q.1]; exact fun z => e (keyN_inj z).symm), ent_none t]
      simp [e]
theorem ent_put {H : Hp} {c : List Nat} {s : Sq} {v : V} {kvs : List (List L2.Key × V)} {L : List (List Nat × Sq)} (n : valV kvs (keyN c) = none) (hv : SeqAt H v s) (h : Paired (EntAt H) kvs L) :
    Paired (EntAt H) (putK kvs (keyN c) v) (insS L (c, s)) := by
  rw [putK_new v n]
  unfold insS
  rw [if_neg ((ent_none h).mp n)]
  exact pd_app (.cons ⟨rfl, hv⟩ .nil) h
theorem ent_stay {H : Hp} {c : List Nat} {s : Sq} {w : V} {kvs : List (List L2.Key × V)} {L : List (List Nat × Sq)} (n : valV kvs (keyN c) = some w) (h : Paired (EntAt H) kvs L) : insS L (c, s) = L := by
  unfold insS
  refine if_pos ?_
  by_cases z : c ∈ L.map (·.1)
  · exact z
  · have := (ent_none h).mpr z
    rw [n] at this; cases this
theorem steps_more {ms : Sq} {j : Nat} {m : Nat × Nat} (h : ms[j]? = some m) (p : List Nat × Sq) : steps (ms.take (j + 1)) p = if 2 ≤ p.1.getD m.1 0 then steps (ms.take j) p ++ [(Ks577.move p.1 m.1 m.2, p.2 ++ [m])] else steps (ms.take j) p := by
  unfold steps
  rw [take_more h, List.filter_append, List.map_append]
  by_cases z : 2 ≤ p.1.getD m.1 0
  · rw [if_pos z, List.filter_cons, if_pos (decide_eq_true z)]; rfl
  · rw [if_neg z, List.filter_cons, if_neg (by rw [decide_eq_true_iff]; exact z)]
    simp
theorem ddS_length_at (ms : Sq) (L : List (List Nat × Sq)) (p : List Nat × Sq) {i j : Nat} (hi : i < L.length) (hj : j < ms.length) :
    (ddS (ddS [] ((L.take i).flatMap (steps ms))) (steps (ms.take j) p)).length < L.length * ms.length := by
  have q := dd_length_at ms (L.map (·.1)) p.1 (i := i) (j := j) (by rw [List.length_map]; exact hi) hj
  rw [List.length_map] at q
  have e : (ddS (ddS [] ((L.take i).flatMap (steps ms))) (steps (ms.take j) p)).map (·.1) = dd (dd [] (((L.map (·.1)).take i).flatMap (succs ms))) (succs (ms.take j) p.1) := by
    rw [ddS_keys, ddS_keys, flat_keys, steps_keys, List.map_take]; rfl
  have := congrArg List.length e
  rw [List.length_map] at this
  omega
theorem mem_ddS {x : List Nat × Sq} : ∀ {l acc : List (List Nat × Sq)}, x ∈ ddS acc l → x ∈ acc ∨ x ∈ l
  | [], acc, h => .inl h
  | p :: r, acc, h => by
    rcases mem_ddS (l := r) (acc := insS acc p) h with h | h
    · unfold insS at h
      by_cases z : p.1 ∈ acc.map (·.1)
      · rw [if_pos z] at h; exact .inl h
      · rw [if_neg z] at h
        rcases List.mem_append.mp h with h | h
        · exact .inl h
        · exact .inr (by rw [List.mem_singleton.mp h]; exact List.mem_cons_self ..)
    · exact .inr (List.mem_cons_of_mem _ h)
/-- a level of the search: its configurations, and as many moves behind each as were made -/
structure LvOk (n g e : Nat) (L : List (List Nat × Sq)) : Prop where
  lvl : Lvl n g (L.map (·.1))
  nd : (L.map (·.1)).Nodup
  len : ∀ p ∈ L, p.2.length + g = e
theorem LvOk.next {G : Ks577.Graph} {g e : Nat} {L : List (List Nat × Sq)} (h : LvOk G.vertexCount (g + 1) e L) : LvOk G.vertexCount g e (nextS (allM G) L) := by
  refine ⟨?_, ?_, fun p hp => ?_⟩
  · rw [nextS_keys, next_all]; exact h.lvl.nextE
  · rw [nextS_keys]; exact nodup_nextL _ _
  · rcases mem_ddS hp with z | z
    · cases z
    · obtain ⟨q, hq, z⟩ := List.mem_flatMap.mp z
      obtain ⟨m, _, rfl⟩ := List.mem_map.mp z
      have := h.len q hq
      show (q.2 ++ [m]).length + g = e
      rw [List.length_append, List.length_singleton]; omega
theorem LvOk.start {n : Nat} {c : List Nat} (h : c.length = n) : LvOk n (c.sum + 1) (c.sum + 1) [(c, [])] := by
  refine ⟨Lvl.one h, List.nodup_cons.mpr ⟨by simp, List.nodup_nil⟩, fun p hp => ?_⟩
  rw [List.mem_singleton.mp hp]
  show 0 + _ = _
  omega
theorem LvOk.short {n g e : Nat} {L : List (List Nat × Sq)} (h : LvOk n g e L) (hn : n ≤ 5) (hg : g ≤ 13) : L.length ≤ 371293 := by
  have := h.lvl.short hn hg h.nd
  rw [List.length_map] at this
  exact this
theorem LvOk.pos {n g e : Nat} {L : List (List Nat × Sq)} (h : LvOk n g e L) (hL : L ≠ []) : ∃ g', g = g' + 1 := h.lvl.pos fun z => hL (List.map_eq_nil_iff.mp z)
theorem LvOk.at {n g e : Nat} {L : List (List Nat × Sq)} (h : LvOk n g e L) {p : List Nat × Sq} (hp : p ∈ L) : p.1.length = n := (h.lvl p.1 (List.mem_map.mpr ⟨p, hp, rfl⟩)).1
theorem none_of {H H' : Hp} {a : Addr} (s : Same H H') (h : H' a = none) : H a = none := by
  cases e : H a with
  | none => rfl
  | some x => rw [s _ _ e] at h; cases h
/-- {tuple(pebbles): ()} -/
theorem lv_start {H : Hp} {d l t : Addr} {ps : List Nat} (nd : H d = none) (nl : upd H d (.dT []) l = none) (nt : upd (upd H d (.dT [])) l (.tup ((iN ps).map V.int)) t = none) :
    (upd (upd (upd H d (.dT [])) l (.tup ((iN ps).map V.int))) t (.tup [])) d = some (.dT []) ∧ (upd (upd (upd H d (.dT [])) l (.tup ((iN ps).map V.int))) t (.tup [])) l = some (.tup ((keyN ps).map kV)) ∧
    Same H (upd (upd (upd (upd H d (.dT [])) l (.tup ((iN ps).map V.int))) t (.tup [])) d (.dT [(keyN ps, .ref t)])) ∧
    Lv (upd (upd (upd (upd H d (.dT [])) l (.tup ((iN ps).map V.int))) t (.tup [])) d (.dT [(keyN ps, .ref t)])) d [(ps, [])] := by
  have dl : d ≠ l := ne_of_none (H := upd H d (.dT [])) upd_same nl
  have h1 : (upd (upd H d (.dT [])) l (.tup ((iN ps).map V.int))) d = some (.dT []) := by rw [upd_ne dl, upd_same]
  have dt : d ≠ t := ne_of_none h1 nt
  have lt : l ≠ t := ne_of_none (H := upd (upd H d (.dT [])) l (.tup ((iN ps).map V.int))) upd_same nt
  refine ⟨by rw [upd_ne dt]; exact h1, by rw [upd_ne lt, upd_same, keyN_kV], fun b x e => ?_, [(keyN ps, .ref t)], upd_same, .cons ⟨rfl, t, rfl, ?_⟩ .nil⟩
  · have e1 : (upd H d (.dT [])) b = some x := by rw [upd_ne (ne_of_none e nd)]; exact e
    have e2 : (upd (upd H d (.dT [])) l (.tup ((iN ps).map V.int))) b = some x := by rw [upd_ne (ne_of_none e1 nl)]; exact e1
    rw [upd_ne (ne_of_none e nd), upd_ne (ne_of_none e2 nt)]
    exact e2
  · rw [upd_ne dt.symm, upd_same]; rfl
theorem upd_back {H : Hp} {a : Addr} {o : HO} (h : H a = some o) : upd H a o = H := funext fun b => by
  by_cases e : b = a
  · rw [e, upd_same, h]
  · rw [upd_ne e]
theorem scEdges : FnScope ["vertex_count", "edges", "previous", "k", "pair"] ["vertex_count", "edges"] (defScope sEdges) := ⟨rfl, rfl, rfl, by decide +kernel, rfl, by decide +kernel, by decide +kernel⟩
section
variable {P : Program} {w : World} {K : PySem.W.Frag} {mg : Str → Option Value} {base : Heap}
def spEdges (K : PySem.W.Frag) : Sp := fun vs H Q _ => ∃ (a : Addr) (n : Nat) (es : List Nat), vs = [.int (n : Int), .ref a] ∧ SqL K H a ((iN es).map V.int) ∧ es.length ≤ 1000 ∧
  ∀ H', Same H H' → Q (.bl (edgesFit n es)) H'
theorem ok_edges {f : Addr} {fd : FuncData} {k : Nat} (F : Fun K "edges_fit" "edges_fit" sEdges f fd) (ml : mg "len" = none) (mr : mg "range" = none) : FnOk P w K mg base CX0 (k + 1) f fd ["vertex_count", "edges"] (spEdges K) := by
  refine F.ok scEdges (fun vs H Q E h => ?_) (fun cdv A outer s H vs Q E hr h => ?_)
  · obtain ⟨a, n, es, rfl, _⟩ := h
    rfl
  · obtain ⟨a, n, es, rfl, hS, hlen, q⟩ := h
    have hu1 := hu_of hr
    refine ⟨_, pss_cons (ps_if (pt_cmpR op_ne (pe_op op_mod (pe_callB call_len_seq (by rfl) ml PySem.boot_len (pa_cons (pv 1) pa_nil)) pe_int) pe_int (nomark _)) (pss_one (ps_ret pe_bl)) pss_nil)
      (pss_cons (ps_set (i := 2) scEdges.nd rfl (.inl rfl) (pe_tup (pa_cons pe_int (pa_cons pe_int pa_nil))))
      (pss_cons (ps_for PassesOwn.never rfl (pi_range3 rfl mr (pa_cons pe_int (pa_cons (pe_callB call_len_seq (by rfl) ml PySem.boot_len (pa_cons (pv 1) pa_nil)) (pa_cons pe_int pa_nil)))) (pg_name (i := 3) scEdges.nd rfl (.inl rfl))
        (pss_cons (ps_set (i := 4) scEdges.nd rfl (.inl rfl) (pe_tup (pa_cons (pe_ix ix_list (pv 1) (pv 3) (fun _ _ => rfl)) (pa_cons (pe_ix ix_list (pv 1) (pe_op op_add (pv 3) pe_int) (fun _ _ => rfl)) pa_nil))))
        (pss_cons (ps_if (PW.pt (pw_or (pt_cmpR op_ge (pe_ix ix_tup (pv 4) pe_int (fun _ _ => rfl)) (pe_ix ix_tup (pv 4) pe_int (fun _ _ => rfl)) (nomark _))
            (pw_or (pt_cmpR op_ge (pe_ix ix_tup (pv 4) pe_int (fun _ _ => rfl)) (pv 0) (nomark _)) (pw_or1 (pt_cmpR (op_leT hr.units0) (pv 4) (pv 2) (nomark _))))))
            (pss_one (ps_ret pe_bl)) pss_nil)
        (pss_one (ps_set (i := 2) scEdges.nd rfl (.inl rfl) (pv 4))))))
      (pss_one (ps_ret pe_bl)))), ?_⟩
    -- if len(edges) % 2 != 0
    refine ⟨.ref a, rfl, a, _, rfl, .inl hS, _, _, rfl, rfl, (by show (0 : Int) < 2; decide), rfl, _, rfl, ite2 (fun e => ?_) (fun e => ?_)⟩
    · have e1 : es.length % 2 ≠ 0 := of_decide_eq_true ((odd_len es).symm.trans e)
      have e2 : edgesFit n es = false := by unfold edgesFit; rw [decide_eq_false e1]; rfl
      have := q H (Same.refl H)
      rw [e2] at this
      exact this
    · have e1 : es.length % 2 = 0 := by
        by_cases z : es.length % 2 = 0
        · exact z
        · exact absurd ((odd_len es).trans (decide_eq_true z)) e
      have e2 : edgesFit n es = fitsFrom n (0, 0) es := by unfold edgesFit; rw [decide_eq_true e1]; rfl
      rw [e2] at q
      -- previous = (0, 0)
      refine ⟨small2, fun o no => ?_⟩
      have s1 : Same H (upd H o (.tup [.int 0, .int 0])) := same_upd no
      -- for k in range(0, len(edges), 2)
      refine ⟨.ref a, rfl, a, _, rfl, .inl (s1.seq hS), 0, _, 2, es.length / 2, rfl, by rw [iN_length]; exact rg2 hlen e1,
        for_rangeC (lo := 0) (c := 2) (n := es.length / 2) (fun i σ H3 => ∃ pr p1 p2 y3 y4, σ = [some (.int (n : Int)), some (.ref a), some (.ref pr), y3, y4] ∧ Same H H3 ∧ H3 pr = some (.tup [.int ((p1 : Nat) : Int), .int ((p2 : Nat) : Int)]) ∧ fitsFrom n (0, 0) es = fitsFrom n (p1, p2) (es.drop (2 * i)))
          ⟨o, 0, 0, none, none, rfl, s1, upd_same, rfl⟩ ?_ ?_⟩
      · rintro i σ H3 hi ⟨pr, p1, p2, y3, y4, rfl, s3, hp, hf⟩
        have h0 : 2 * i < es.length := by omega
        have h1 : 2 * i + 1 < es.length := by omega
        have g0 : es[2 * i]? = some es[2 * i] := List.getElem?_eq_getElem h0
        have g1 : es[2 * i + 1]? = some es[2 * i + 1] := List.getElem?_eq_getElem h1
        generalize es[2 * i] = u at g0
        generalize es[2 * i + 1] = v at g1
        have hd : es.drop (2 * i) = u :: v :: es.drop (2 * (i + 1)) := by
          rw [List.drop_eq_getElem_cons h0, List.drop_eq_getElem_cons h1, show 2 * i + 1 + 1 = 2 * (i + 1) by omega]
          rw [List.getElem?_eq_getElem h0] at g0
          rw [List.getElem?_eq_getElem h1] at g1
          rw [Option.some.inj g0, Option.some.inj g1]
        have hS3 := s3.seq hS
        -- pair = (edges[k], edges[k + 1])
        refine ⟨.ref a, rfl, _, rfl, a, _, _, _, rfl, rfl, hS3, at_of (by show (0 : Int) + (i : Int) * 2 = ((2 * i : Nat) : Int); omega) (iN_get g0), .ref a, rfl, _, rfl, _, _, rfl, rfl, a, _, _, _, rfl, rfl, hS3, at_of (by show (0 : Int) + (i : Int) * 2 + 1 = ((2 * i + 1 : Nat) : Int); omega) (iN_get g1), small2, fun t nt => ?_⟩
        have s4 : Same H3 (upd H3 t (.tup [.int (u : Int), .int (v : Int)])) := same_upd nt
        have hT : SqT K (upd H3 t (.tup [.int (u : Int), .int (v : Int)])) t [.int (u : Int), .int (v : Int)] := SqT.of upd_same
        have hP : SqT K (upd H3 t (.tup [.int (u : Int), .int (v : Int)])) pr [.int (p1 : Int), .int (p2 : Int)] := SqT.of (s4 _ _ hp)
        have bad : (v ≤ u ∨ n ≤ v ∨ ¬ ltP (p1, p2) (u, v)) → Q (.bl false) (upd H3 t (.tup [.int (u : Int), .int (v : Int)])) := fun z => by
          have := q _ (s3.trans s4)
          rw [hf, hd, fits_bad z] at this
          exact this
        -- pair[0] >= pair[1]
        refine ⟨.ref t, rfl, t, _, 0, .int (u : Int), rfl, rfl, hT, rfl, .ref t, rfl, t, _, 1, .int (v : Int), rfl, rfl, hT, rfl, _, _, rfl, rfl, _, rfl, ite2 (fun c1 => ?_) (fun c1 => ?_)⟩
        · rw [decide_eq_true_iff] at c1
          exact iteT (bad (.inl (by omega)))
        rw [decide_eq_true_iff] at c1
        -- pair[1] >= vertex_count
        refine ⟨.ref t, rfl, t, _, 1, .int (v : Int), rfl, rfl, hT, rfl, _, rfl, _, _, rfl, rfl, _, rfl, ite2 (fun c2 => ?_) (fun c2 => ?_)⟩
        · rw [decide_eq_true_iff] at c2
          exact iteT (bad (.inr (.inl (by omega))))
        rw [decide_eq_true_iff] at c2
        -- pair <= previous
        refine ⟨.ref t, rfl, .ref pr, rfl, t, pr, [(u : Int), (v : Int)], [(p1 : Int), (p2 : Int)], rfl, rfl, hT, hP, _, rfl, ?_⟩
        rw [lex2]
        refine ite2 (fun c3 => ?_) (fun c3 => ?_)
        · exact bad (.inr (.inr (of_decide_eq_true c3)))
        rw [decide_eq_true_iff] at c3
        refine ⟨_, rfl, t, u, v, _, _, rfl, s3.trans s4, upd_same, ?_⟩
        rw [hf, hd, fits_good]
        simp only [not_or]
        exact ⟨by omega, by omega, c3⟩
      · rintro σ H3 ⟨pr, p1, p2, y3, y4, rfl, s3, hp, hf⟩
        have := q H3 s3
        rw [hf, show 2 * (es.length / 2) = es.length by omega, List.drop_length] at this
        exact this
end
theorem scPebbles : FnScope ["vertex_count", "pebbles"] ["vertex_count", "pebbles"] (defScope sPebbles) := ⟨rfl, rfl, rfl, by decide +kernel, rfl, by decide +kernel, by decide +kernel⟩
section
variable {P : Program} {w : World} {K : PySem.W.Frag} {mg : Str → Option Value} {base : Heap}
/-! ### pebbles_fit -/
def spPebbles (K : PySem.W.Frag) : Sp := fun vs H Q _ => ∃ (a : Addr) (n : Nat) (ps : List Nat), vs = [.int (n : Int), .ref a] ∧ SqL K H a ((iN ps).map V.int) ∧ Q (.bl (okP n ps)) H
theorem ok_pebbles {f : Addr} {fd : FuncData} {k : Nat} {t : Tok} (F : Fun K "pebbles_fit" "pebbles_fit" sPebbles f fd) (ml : mg "len" = none) (ms : mg "sum" = none) (mP : mg "MAX_PEBBLES" = some (.int 12 t)) : FnOk P w K mg base CX0 (k + 1) f fd ["vertex_count", "pebbles"] (spPebbles K) := by
  refine F.ok scPebbles (fun vs H Q E h => ?_) (fun cdv A outer s H vs Q E hr h => ?_)
  · obtain ⟨a, n, ps, rfl, _⟩ := h
    rfl
  · obtain ⟨a, n, ps, rfl, hS, q⟩ := h
    refine ⟨_, pss_one (ps_ret (pe_and (pe_cmpR op_eq (pe_callB call_len_seq (by rfl) ml PySem.boot_len (pa_cons (pv 1) pa_nil)) (pv 0) (nomark _))
      (pe_one (pe_cmpR op_le (pe_callB (cr_sum rfl) (by rfl) ms PyProof.Rows.boot_sum (pa_cons (pv 1) pa_nil)) (pe_glob (v := .int 12) rfl mP ⟨_, rfl⟩) (nomark _))))), ?_⟩
    refine ⟨.ref a, rfl, a, _, rfl, .inl hS, _, rfl, rfl, _, rfl, ?_⟩
    rw [iN_length, eq_int]
    unfold okP at q
    refine ite2 (fun e => ?_) (fun e => ?_)
    · rw [e, Bool.true_and] at q
      refine ⟨.ref a, rfl, a, iN ps, rfl, hS, _, _, rfl, rfl, ?_⟩
      show Q (.bl (decide ((iN ps).sum ≤ 12))) H
      have e2 : decide ((iN ps).sum ≤ 12) = decide (ps.sum ≤ 12) := by
        rw [iN_sum]
        by_cases z : ps.sum ≤ 12
        · rw [decide_eq_true z, decide_eq_true (by omega)]
        · rw [decide_eq_false z, decide_eq_false (by omega)]
      rw [e2]
      exact q
    · rw [Bool.not_eq_true] at e
      rw [e, Bool.false_and] at q
      exact q
end
theorem scFit : FnScope ["vertex_count", "moves", "vertex"] ["vertex_count", "moves"] (defScope sFit) := ⟨rfl, rfl, rfl, by decide +kernel, rfl, by decide +kernel, by decide +kernel⟩
def movesFit (n : Nat) (ms : List Nat) : Bool := decide (ms.length % 2 = 0) && (decide (ms.length ≤ 30) && ms.all fun x => decide (x < n))
theorem fit_is (n : Nat) (ms : List Nat) : (30 < ms.length ∨ ms.length % 2 ≠ 0 ∨ (ms.any fun x => decide (n ≤ x)) = true) ↔ movesFit n ms = false := by
  unfold movesFit
  rw [Bool.and_eq_false_iff, Bool.and_eq_false_iff, decide_eq_false_iff_not, decide_eq_false_iff_not, List.all_eq_false, List.any_eq_true]
  constructor
  · rintro (h | h | ⟨x, hx, h⟩)
    · exact .inr (.inl (by omega))
    · exact .inl h
    · have h := of_decide_eq_true h
      exact .inr (.inr ⟨x, hx, by rw [decide_eq_true_iff]; omega⟩)
  · rintro (h | h | ⟨x, hx, h⟩)
    · exact .inr (.inl h)
    · exact .inl (by omega)
    · rw [decide_eq_true_iff] at h
      exact .inr (.inr ⟨x, hx, decide_eq_true (by omega)⟩)
theorem all_id (l : List Nat) (n : Nat) : (l.map fun x => decide (x < n)).all id = l.all fun x => decide (x < n) := by
  rw [List.all_map]; rfl
section
variable {P : Program} {w : World} {K : PySem.W.Frag} {mg : Str → Option Value} {base : Heap}
/-! ### moves_fit -/
def spFit (K : PySem.W.Frag) : Sp := fun vs H Q _ => ∃ (a : Addr) (n : Nat) (ms : List Nat), vs = [.int (n : Int), .ref a] ∧ SqL K H a ((iN ms).map V.int) ∧ ms.length ≤ 1000 ∧
  ∀ H', Same H H' → Q (.bl (movesFit n ms)) H'
theorem ok_fit {f : Addr} {fd : FuncData} {k : Nat} {t : Tok} (F : Fun K "moves_fit" "moves_fit" sFit f fd) (ml : mg "len" = none) (ma : mg "all" = none) (mM : mg "MAX_MOVES" = some (.int 15 t)) : FnOk P w K mg base CX0 (k + 1) f fd ["vertex_count", "moves"] (spFit K) := by
  refine F.ok scFit (fun vs H Q E h => ?_) (fun cdv A outer s H vs Q E hr h => ?_)
  · obtain ⟨a, n, ms, rfl, _⟩ := h
    rfl
  · obtain ⟨a, n, ms, rfl, hS, hlen, q⟩ := h
    refine ⟨_, pss_cons (ps_if (PW.pt (pw_or (pt_cmpR op_ne (pe_op op_mod (pe_callB call_len_seq (by rfl) ml PySem.boot_len (pa_cons (pv 1) pa_nil)) pe_int) pe_int (nomark _))
        (pw_or1 (pt_cmpR op_gt (pe_callB call_len_seq (by rfl) ml PySem.boot_len (pa_cons (pv 1) pa_nil)) (pe_op op_mul pe_int (pe_glob (v := .int 15) rfl mM ⟨_, rfl⟩)) (nomark _)))))
        (pss_one (ps_ret pe_bl)) pss_nil)
      (pss_one (ps_ret (pe_callB (cr_all rfl) (by rfl) ma PyProof.Rows.boot_all (pa_cons (pe_lc (own := [("vertex", 2)]) (g := gName 2) (by rfl) scFit.nd (pi_list (pv 1))
          (blkOk_by (N := ["vertex_count", "moves", "vertex"]) (sc := defScope sFit) (by decide +kernel))
          (fun _ _ _ _ _ => pg_name (i := 2) scFit.nd rfl (.inl rfl))
          (fun _ _ _ _ _ => pts_nil)
          (fun _ _ _ _ _ => pe_cmpR op_lt (pv 2) (pv 0) (nomark _))) pa_nil)))), ?_⟩
    have bad : movesFit n ms = false → Q (.bl false) H := fun z => by
      have := q H (Same.refl H)
      rw [z] at this
      exact this
    -- len(moves) % 2 != 0
    refine ⟨.ref a, rfl, a, _, rfl, .inl hS, _, _, rfl, rfl, (by show (0 : Int) < 2; decide), rfl, _, rfl, ite2 (fun e => ?_) (fun e => ?_)⟩
    · have e1 : ms.length % 2 ≠ 0 := of_decide_eq_true ((odd_len ms).symm.trans e)
      refine iteT (bad ((fit_is n ms).mp (.inr (.inl e1))))
    have e1 : ms.length % 2 = 0 := by
      by_cases z : ms.length % 2 = 0
      · exact z
      · exact absurd ((odd_len ms).trans (decide_eq_true z)) e
    -- len(moves) > 2 * MAX_MOVES
    refine ⟨.ref a, rfl, a, _, rfl, .inl hS, _, _, rfl, rfl, .inl ⟨by decide, by decide⟩, _, _, rfl, rfl, _, rfl, ite2 (fun c => ?_) (fun c => ?_)⟩
    · rw [decide_eq_true_iff, iN_length] at c
      exact bad ((fit_is n ms).mp (.inl (by omega)))
    rw [decide_eq_true_iff, iN_length] at c
    have e2 : ms.length ≤ 30 := by omega
    -- return all([vertex < vertex_count for vertex in moves])
    refine ⟨.ref a, rfl, a, rfl, ⟨_, hS⟩, fun D nD => lc_list (K := K) (a := a) (xs := (iN ms).map V.int)
      (fun i H3 => Same H H3 ∧ H3 D = some (.lst (((ms.take i).map fun x => decide (x < n)).map V.bl))) ⟨same_upd nD, upd_same⟩ (fun i H3 _ h => h.1.seq hS) ?_ ?_⟩
    · rintro i x H3 hi ⟨s3, hD⟩
      have hi2 : i < ms.length := by
        have := (List.getElem?_eq_some_iff.mp hi).1
        rw [iN_length] at this; exact this
      have g0 : ms[i]? = some ms[i] := List.getElem?_eq_getElem hi2
      generalize ms[i] = v at g0
      have ex : x = .int (v : Int) := by
        have := iN_get g0
        rw [hi] at this
        exact Option.some.inj this
      subst ex
      refine ⟨rfl, _, rfl, _, rfl, _, _, rfl, rfl, _, hD, ?_, fun y o h => ?_, ?_⟩
      · rw [List.length_map, List.length_map, List.length_take, sizeLine_eq]; omega
      · rw [upd_ne (ne_of_none h nD)]; exact s3 _ _ h
      · rw [upd_same, take_more g0, List.map_append, List.map_append]
        have ei : decide ((v : Int) < (n : Int)) = decide (v < n) := by
          by_cases z : v < n
          · rw [decide_eq_true z, decide_eq_true (by omega)]
          · rw [decide_eq_false z, decide_eq_false (by omega)]
        show some (HO.lst (_ ++ [V.bl (decide ((v : Int) < (n : Int)))])) = _
        rw [ei]; rfl
    · rintro H3 ⟨s3, hD⟩
      rw [iN_length, List.take_length] at hD
      refine ⟨D, ms.map fun x => decide (x < n), rfl, SqL.of hD, ?_⟩
      have := q H3 s3
      unfold movesFit at this
      rw [decide_eq_true e1, decide_eq_true e2, Bool.true_and, Bool.true_and] at this
      rw [all_id]
      exact this
end
theorem scLimits : FnScope ["vertex_count", "edges", "pebbles"] ["vertex_count", "edges", "pebbles"] (defScope sLimits) := ⟨rfl, rfl, rfl, by decide +kernel, rfl, by decide +kernel, by decide +kernel⟩
/-- the first error of the limits -/
def limErr (n : Nat) (es ps : List Nat) : Int := if okAll n es ps = true then 0 else -22
section
variable {P : Program} {w : World} {K : PySem.W.Frag} {mg : Str → Option Value} {base : Heap}
/-! ### limits_error -/
def spLimits (K : PySem.W.Frag) : Sp := fun vs H Q _ => ∃ (a b : Addr) (n : Nat) (es ps : List Nat), vs = [.int (n : Int), .ref a, .ref b] ∧ SqL K H a ((iN es).map V.int) ∧ es.length ≤ 1000 ∧ SqL K H b ((iN ps).map V.int) ∧
  ∀ H', Same H H' → Q (.int (limErr n es ps)) H'
theorem ok_limits {f fE fP : Addr} {fd fdE fdP : FuncData} {k : Nat} {t : Tok} (F : Fun K "limits_error" "limits_error" sLimits f fd)
    (GE : FnOk P w K mg base CX0 (k + 1) fE fdE ["vertex_count", "edges"] (spEdges K)) (kE : PySem.W.keepIn K (.ref fE) = true) (bE : Binds K fdE ["vertex_count", "edges"] []) (gE : mg "edges_fit" = some (.ref fE))
    (GP : FnOk P w K mg base CX0 (k + 1) fP fdP ["vertex_count", "pebbles"] (spPebbles K)) (kP : PySem.W.keepIn K (.ref fP) = true) (bP : Binds K fdP ["vertex_count", "pebbles"] []) (gP : mg "pebbles_fit" = some (.ref fP))
    (mV : mg "MAX_VERTICES" = some (.int 5 t)) : FnOk P w K mg base CX0 (k + 2) f fd ["vertex_count", "edges", "pebbles"] (spLimits K) := by
  refine F.ok scLimits (fun vs H Q E h => ?_) (fun cdv A outer s H vs Q E hr h => ?_)
  · obtain ⟨a, b, n, es, ps, rfl, _⟩ := h
    rfl
  · obtain ⟨a, b, n, es, ps, rfl, hS, hlen, hT, q⟩ := h
    refine ⟨_, pss_cons (ps_if (PW.pt (pw_or (pt_cmpR op_lt (pv 0) pe_int (nomark _)) (pw_or1 (pt_cmpR op_gt (pv 0) (pe_glob (v := .int 5) rfl mV ⟨_, rfl⟩) (nomark _))))) (pss_one (ps_ret (pe_un un_neg pe_int))) pss_nil)
      (pss_cons (ps_if (pt_not (pt_val (pe_call GE hr (by rfl) gE kE bE .nil pass0 (pa_cons (pv 0) (pa_cons (pv 1) pa_nil))))) (pss_one (ps_ret (pe_un un_neg pe_int))) pss_nil)
      (pss_cons (ps_if (pt_not (pt_val (pe_call GP hr (by rfl) gP kP bP .nil pass0 (pa_cons (pv 0) (pa_cons (pv 2) pa_nil))))) (pss_one (ps_ret (pe_un un_neg pe_int))) pss_nil)
      (pss_one (ps_ret pe_int)))), ?_⟩
    have bad : okAll n es ps = false → ∀ H', Same H H' → Q (.int (-22)) H' := fun z H' s' => by
      have := q H' s'
      unfold limErr at this
      rw [if_neg (by rw [z]; exact Bool.false_ne_true)] at this
      exact this
    -- vertex_count < 1
    refine ⟨_, rfl, _, _, rfl, rfl, _, rfl, ite2 (fun c1 => ?_) (fun c1 => ?_)⟩
    · rw [decide_eq_true_iff] at c1
      refine iteT ⟨_, rfl, bad ?_ H (Same.refl H)⟩
      unfold okAll okN
      rw [decide_eq_false (by omega : ¬ 1 ≤ n)]; rfl
    rw [decide_eq_true_iff] at c1
    refine ⟨_, rfl, _, _, rfl, rfl, _, rfl, ite2 (fun c2 => ?_) (fun c2 => ?_)⟩
    · rw [decide_eq_true_iff] at c2
      refine ⟨_, rfl, bad ?_ H (Same.refl H)⟩
      unfold okAll okN
      rw [decide_eq_false (by omega : ¬ n ≤ 5), Bool.and_false]; rfl
    rw [decide_eq_true_iff] at c2
    have hn : okN n = true := by
      unfold okN
      rw [decide_eq_true (by omega : 1 ≤ n), decide_eq_true (by omega : n ≤ 5)]; rfl
    -- not edges_fit(..)
    refine ⟨_, rfl, _, rfl, a, n, es, rfl, hS, hlen, fun H1 s1 => ⟨_, rfl, ite2 (fun c3 => ?_) (fun c3 => ?_)⟩⟩
    · rw [Bool.not_eq_true'] at c3
      refine ⟨_, rfl, bad ?_ H1 s1⟩
      unfold okAll
      rw [c3, Bool.and_false]; rfl
    rw [Bool.not_eq_true', Bool.not_eq_false] at c3
    -- not pebbles_fit(..)
    refine ⟨_, rfl, _, rfl, b, n, ps, rfl, s1.seq hT, _, rfl, ite2 (fun c4 => ?_) (fun c4 => ?_)⟩
    · rw [Bool.not_eq_true'] at c4
      refine ⟨_, rfl, bad ?_ H1 s1⟩
      unfold okAll
      rw [c4, Bool.and_false]
    rw [Bool.not_eq_true', Bool.not_eq_false] at c4
    have := q H1 s1
    unfold limErr okAll at this
    rw [hn, c3, c4] at this
    exact this
end
theorem lim_ok {n : Nat} {es ps : List Nat} (h : limErr n es ps = 0) : Ok n es ps := by
  unfold limErr at h
  by_cases c : okAll n es ps = true
  · exact ok_of c
  · rw [if_neg c] at h; cases h
theorem lim_due (n : Nat) (es ps : List Nat) (F : Ks577.Graph → Ks577.Configuration → Ks577.Result) :
    Ks577Neutral.integers (Ks577.withConfiguration n es ps F) = if limErr n es ps = 0 then Ks577Neutral.integers (F ⟨n, pairsOf es⟩ ps) else [limErr n es ps] := by
  rw [with_is]
  unfold limErr
  by_cases c : okAll n es ps = true
  · rw [if_pos c, if_pos c, if_pos rfl]
  · rw [if_neg c, if_neg c, if_neg (by decide)]; rfl
theorem fit_even {n : Nat} {es : List Nat} (h : edgesFit n es = true) : es.length % 2 = 0 := by
  unfold edgesFit at h
  exact of_decide_eq_true (Bool.and_eq_true_iff.mp h).1
/-! ### sorted: a list of pairs -/
def kOf (H : Hp) : V → Int × Int
  | .ref t => match H t with
    | some (.tup [.int i, .int j]) => (i, j)
    | _ => (0, 0)
  | _ => (0, 0)
theorem kOf_at {H : Hp} {b : Addr} {m : Nat × Nat} (h : MoveAt H b m) : kOf H (.ref b) = ((m.1 : Int), (m.2 : Int)) := by
  unfold MoveAt at h
  show (match H b with | some (.tup [.int i, .int j]) => (i, j) | _ => ((0, 0) : Int × Int)) = _
  rw [h]
def mvN (H : Hp) (b : Addr) : Nat × Nat := ((kOf H (.ref b)).1.toNat, (kOf H (.ref b)).2.toNat)
theorem mvN_at {H : Hp} {b : Addr} {m : Nat × Nat} (h : MoveAt H b m) : mvN H b = m := by
  unfold mvN
  rw [kOf_at h]; rfl
theorem pd_mem {α β : Type} {F : α → β → Prop} : ∀ {l : List α} {r : List β}, Paired F l r → ∀ {a : α}, a ∈ l → ∃ b, b ∈ r ∧ F a b
  | _, _, .nil, _, h => by cases h
  | _, _, .cons q t, _, h => by
    rcases List.mem_cons.mp h with rfl | h
    · exact ⟨_, List.mem_cons_self .., q⟩
    · obtain ⟨b, hb, z⟩ := pd_mem t h
      exact ⟨b, List.mem_cons_of_mem _ hb, z⟩
theorem pd_mvN {H : Hp} : ∀ {bs : List Addr} {ms : List (Nat × Nat)}, Paired (MoveAt H) bs ms → ms = bs.map (mvN H)
  | _, _, .nil => rfl
  | _, _, .cons q t => by rw [List.map_cons, mvN_at q, ← pd_mvN t]
theorem pd_of {H : Hp} : ∀ {cs : List Addr}, (∀ b ∈ cs, ∃ m, MoveAt H b m) → Paired (MoveAt H) cs (cs.map (mvN H))
  | [], _ => .nil
  | b :: r, h => by
    obtain ⟨m, hm⟩ := h b (List.mem_cons_self ..)
    refine .cons ?_ (pd_of fun c hc => h c (List.mem_cons_of_mem _ hc))
    rw [mvN_at hm]; exact hm
def backA : V → Addr
  | .ref b => b
  | _ => 0
theorem sorted_pairs {H : Hp} {bs : List Addr} {ms : List (Nat × Nat)} {ys : List V} (hp : Paired (MoveAt H) bs ms) (p : ys.Perm (bs.map V.ref)) (s : ys.Pairwise fun x y => SrtO.lexB (kOf H y) (kOf H x) = false) :
    ∃ cs ms', ys = cs.map V.ref ∧ Paired (MoveAt H) cs ms' ∧ ms'.Perm ms ∧ ms'.Pairwise Low := by
  have e : ys = (ys.map backA).map V.ref := by
    rw [List.map_map]
    refine (List.map_id _).symm.trans (List.map_congr_left fun y hy => ?_)
    obtain ⟨b, _, rfl⟩ := List.mem_map.mp (p.mem_iff.mp hy)
    rfl
  have pb : (ys.map backA).Perm bs := by
    have := p.map backA
    rw [List.map_map] at this
    have e2 : bs.map (backA ∘ V.ref) = bs := (List.map_congr_left fun b _ => rfl).trans (List.map_id bs)
    rw [e2] at this
    exact this
  generalize ys.map backA = cs at e pb
  subst e
  have at_ : ∀ b ∈ cs, ∃ m, MoveAt H b m := fun b hb => by
    obtain ⟨m, _, z⟩ := pd_mem hp (pb.mem_iff.mp hb)
    exact ⟨m, z⟩
  refine ⟨cs, cs.map (mvN H), rfl, pd_of at_, ?_, ?_⟩
  · rw [pd_mvN hp]; exact pb.map _
  · rw [List.pairwise_map] at s ⊢
    refine List.Pairwise.imp_of_mem (fun {x y} hx hy h => ?_) s
    obtain ⟨m, hm⟩ := at_ x hx
    obtain ⟨m', hm'⟩ := at_ y hy
    rw [kOf_at hm, kOf_at hm', SrtO.lexB_no] at h
    rw [mvN_at hm, mvN_at hm']
    unfold Low ltP
    simp only at h
    omega
theorem scMoves : FnScope ["edges", "moves", "k"] ["edges"] (defScope sMoves) := ⟨rfl, rfl, rfl, by decide +kernel, rfl, by decide +kernel, by decide +kernel⟩
section
variable {P : Program} {w : World} {K : PySem.W.Frag} {mg : Str → Option Value} {base : Heap}
/-! ### moves_along -/
def spMoves (K : PySem.W.Frag) : Sp := fun vs H Q _ => ∃ (a : Addr) (n : Nat) (es : List Nat), vs = [.ref a] ∧ SqL K H a ((iN es).map V.int) ∧ es.length ≤ 1000 ∧ edgesFit n es = true ∧
  ∀ H' p, Same H H' → MovesAt H' p (allM ⟨n, pairsOf es⟩) → Q (.ref p) H'
theorem ok_moves {f : Addr} {fd : FuncData} {k : Nat} (F : Fun K "moves_along" "moves_along" sMoves f fd) (ml : mg "len" = none) (mr : mg "range" = none) (mS : mg "sorted" = none) : FnOk P w K mg base CX0 (k + 1) f fd ["edges"] (spMoves K) := by
  refine F.ok scMoves (fun vs H Q E h => ?_) (fun cdv A outer s H vs Q E hr h => ?_)
  · obtain ⟨a, n, es, rfl, _⟩ := h
    rfl
  · obtain ⟨a, n, es, rfl, hS, hlen, hfit, q⟩ := h
    have hev := fit_even hfit
    refine ⟨_, pss_cons (ps_set (i := 1) scMoves.nd rfl (.inl rfl) (pe_lst pa_nil))
      (pss_cons (ps_for PassesOwn.never rfl (pi_range3 rfl mr (pa_cons pe_int (pa_cons (pe_callB call_len_seq (by rfl) ml PySem.boot_len (pa_cons (pv 0) pa_nil)) (pa_cons pe_int pa_nil)))) (pg_name (i := 2) scMoves.nd rfl (.inl rfl))
        (pss_cons (ps_expr (pe_bm PySem.F.plainAttrs_list PySem.F.slot_list_append PySem.F.type_list_append mt_append (pv 1) (pa_cons
            (pe_tup (pa_cons (pe_ix ix_list (pv 0) (pv 2) (fun _ _ => rfl)) (pa_cons (pe_ix ix_list (pv 0) (pe_op op_add (pv 2) pe_int) (fun _ _ => rfl)) pa_nil))) pa_nil)))
        (pss_one (ps_expr (pe_bm PySem.F.plainAttrs_list PySem.F.slot_list_append PySem.F.type_list_append mt_append (pv 1) (pa_cons
            (pe_tup (pa_cons (pe_ix ix_list (pv 0) (pe_op op_add (pv 2) pe_int) (fun _ _ => rfl)) (pa_cons (pe_ix ix_list (pv 0) (pv 2) (fun _ _ => rfl)) pa_nil))) pa_nil))))))
      (pss_one (ps_ret (pe_callB cr_sortedPO (by rfl) mS PyProof.Rows.boot_sorted (pa_cons (pv 1) pa_nil))))), ?_⟩
    -- moves = []
    refine ⟨Nat.zero_le _, fun o no => ?_⟩
    have s1 : Same H (upd H o (.lst [])) := same_upd no
    -- for k in range(0, len(edges), 2)
    refine ⟨.ref a, rfl, a, _, rfl, .inl (s1.seq hS), 0, _, 2, es.length / 2, rfl, by rw [iN_length]; exact rg2 hlen hev,
      for_rangeC (lo := 0) (c := 2) (n := es.length / 2) (fun i σ H3 => ∃ y2, σ = [some (.ref a), some (.ref o), y2] ∧ Same H H3 ∧ MovesAt H3 o (movesOf ((pairsOf es).take i)))
        ⟨none, rfl, s1, [], upd_same, .nil⟩ ?_ ?_⟩
    · rintro i σ H3 hi ⟨y2, rfl, s3, bs, hb, hp⟩
      have h0 : 2 * i < es.length := by omega
      have h1 : 2 * i + 1 < es.length := by omega
      have g0 : es[2 * i]? = some es[2 * i] := List.getElem?_eq_getElem h0
      have g1 : es[2 * i + 1]? = some es[2 * i + 1] := List.getElem?_eq_getElem h1
      generalize es[2 * i] = u at g0
      generalize es[2 * i + 1] = v at g1
      have gp := pairsOf_get g0 g1
      have lbs : bs.length = 2 * i := by
        rw [pd_len hp, movesOf_length, List.length_take, pairsOf_len]; omega
      have k0 : atI ((iN es).map V.int) ((0 : Int) + (i : Int) * 2) = some (.int (u : Int)) := at_of (by omega : (0 : Int) + (i : Int) * 2 = ((2 * i : Nat) : Int)) (iN_get g0)
      have k1 : atI ((iN es).map V.int) ((0 : Int) + (i : Int) * 2 + 1) = some (.int (v : Int)) := at_of (by omega : (0 : Int) + (i : Int) * 2 + 1 = ((2 * i + 1 : Nat) : Int)) (iN_get g1)
      have hS3 := s3.seq hS
      -- moves.append((edges[k], edges[k + 1]))
      refine ⟨.ref o, rfl, .inl ⟨rfl, _, .inl (.inl hb)⟩, .ref a, rfl, _, rfl, a, _, _, _, rfl, rfl, hS3, k0, .ref a, rfl, _, rfl, _, _, rfl, rfl, a, _, _, _, rfl, rfl, hS3, k1, small2, fun t nt => ?_⟩
      have s4 : Same H3 (upd H3 t (.tup [.int (u : Int), .int (v : Int)])) := same_upd nt
      refine ⟨o, _, _, rfl, rfl, s4 _ _ hb, small1000 (by rw [List.length_map]; omega), ?_⟩
      generalize e5 : upd (upd H3 t (.tup [.int (u : Int), .int (v : Int)])) o (.lst (bs.map V.ref ++ [.ref t])) = H5
      have o5 : H5 o = some (.lst ((bs ++ [t]).map V.ref)) := by rw [← e5, upd_same, List.map_append]; rfl
      have q5 : ∀ b x, H3 b = some x → b ≠ o → H5 b = some x := fun b x z n => by rw [← e5, upd_ne n]; exact s4 _ _ z
      have t5 : H5 t = some (.tup [.int (u : Int), .int (v : Int)]) := by
        rw [← e5, upd_ne (ne_of_none hb nt).symm, upd_same]
      have hS5 : SqL K H5 a ((iN es).map V.int) := by
        have s5 : Same H H5 := fun b x z => q5 b x (s3 _ _ z) (ne_of_none z no)
        exact s5.seq hS
      -- moves.append((edges[k + 1], edges[k]))
      refine ⟨.ref o, rfl, .inl ⟨rfl, _, .inl (.inl o5)⟩, .ref a, rfl, _, rfl, _, _, rfl, rfl, a, _, _, _, rfl, rfl, hS5, k1, .ref a, rfl, _, rfl, a, _, _, _, rfl, rfl, hS5, k0, small2, fun t' nt' => ?_⟩
      have s6 : Same H5 (upd H5 t' (.tup [.int (v : Int), .int (u : Int)])) := same_upd nt'
      refine ⟨o, _, _, rfl, rfl, s6 _ _ o5, small1000 (by rw [List.length_map, List.length_append, List.length_singleton]; omega), ?_⟩
      have nto : t' ≠ o := (ne_of_none o5 nt').symm
      have q7 : ∀ b x, H5 b = some x → b ≠ o → (upd (upd H5 t' (.tup [.int (v : Int), .int (u : Int)])) o (.lst ((bs ++ [t]).map V.ref ++ [.ref t']))) b = some x := fun b x z n => by rw [upd_ne n]; exact s6 _ _ z
      refine ⟨some (.int ((0 : Int) + (i : Int) * 2)), rfl, fun b x z => q7 b x (q5 b x (s3 _ _ z) (ne_of_none z no)) (ne_of_none z no), bs ++ [t] ++ [t'], ?_, ?_⟩
      · rw [upd_same, List.map_append (l₁ := bs ++ [t])]; rfl
      · rw [take_more gp, movesOf_append, List.append_assoc]
        refine pd_app (.cons ?_ (.cons ?_ .nil)) (pd_mono (fun b m z => ?_) hp)
        · show _ = some (HO.tup [.int (u : Int), .int (v : Int)])
          exact q7 t _ t5 (ne_of_none hb nt).symm
        · show _ = some (HO.tup [.int (v : Int), .int (u : Int)])
          rw [upd_ne nto, upd_same]
        · have z : H3 b = some (.tup [.int (m.1 : Int), .int (m.2 : Int)]) := z
          have nb : b ≠ o := ne_of z hb (by intro e; cases e)
          exact q7 b _ (q5 b _ z nb) nb
    · rintro σ H3 ⟨y2, rfl, s3, hm⟩
      rw [List.take_of_length_le (by rw [pairsOf_len]; exact Nat.le_refl _)] at hm
      obtain ⟨bs, hb, hp⟩ := hm
      -- return sorted(moves)
      refine ⟨.ref o, rfl, o, bs.map V.ref, kOf H3, rfl, SqL.of hb, fun x hx => ?_, fun ys p srt stb np => ?_⟩
      · obtain ⟨b, hb', rfl⟩ := List.mem_map.mp hx
        obtain ⟨m, _, hm⟩ := pd_mem hp hb'
        refine ⟨b, rfl, ?_⟩
        rw [kOf_at hm]
        exact hm
      · obtain ⟨cs, ms, rfl, pm, perm, low⟩ := sorted_pairs hp stb.perm srt
        refine q _ p (s3.trans (same_upd np)) ?_
        rw [← sorted_moves hfit perm low]
        exact ⟨cs, upd_same, pd_mono (fun b m z => same_upd np _ _ z) pm⟩
end
theorem scAfter : FnScope ["configuration", "move", "pebbles"] ["configuration", "move"] (defScope sAfter) := ⟨rfl, rfl, rfl, by decide +kernel, rfl, by decide +kernel, by decide +kernel⟩
section
variable {P : Program} {w : World} {K : PySem.W.Frag} {mg : Str → Option Value} {base : Heap}
/-! ### after_move -/
def spAfter : Sp := fun vs H Q _ => ∃ (b d : Addr) (c : List Nat) (m : Nat × Nat), vs = [.ref b, .ref d] ∧ ConfAt H b c ∧ MoveAt H d m ∧ c.length ≤ 1000 ∧ m.1 < c.length ∧ m.2 < c.length ∧ 2 ≤ c.getD m.1 0 ∧
  ∀ H' p, Same H H' → ConfAt H' p (Ks577.move c m.1 m.2) → Q (.ref p) H'
theorem ok_after {f : Addr} {fd : FuncData} {k : Nat} (F : Fun K "after_move" "after_move" sAfter f fd) (mL : mg "list" = none) (mT : mg "tuple" = none) : FnOk P w K mg base CX0 (k + 1) f fd ["configuration", "move"] spAfter := by
  refine F.ok scAfter (fun vs H Q E h => ?_) (fun cdv A outer s H vs Q E hr h => ?_)
  · obtain ⟨b, d, c, m, rfl, _⟩ := h
    rfl
  · obtain ⟨b, d, c, m, rfl, hC, hM, hl, h1, h2, h3, q⟩ := h
    refine ⟨_, pss_cons (ps_set (i := 2) scAfter.nd rfl (.inl rfl) (pe_callTy call_list_of (by rfl) mL PyProof.Rows.boot_list (pa_cons (pv 0) pa_nil)))
      (pss_cons (ps_asg (pe_op op_sub (pe_ix ix_list (pv 2) (pe_ix ix_tup (pv 1) pe_int (fun _ _ => rfl)) (fun _ _ => rfl)) pe_int) (pg_sub (pv 2) (pe_ix ix_tup (pv 1) pe_int (fun _ _ => rfl)) set_list))
      (pss_cons (ps_asg (pe_op op_add (pe_ix ix_list (pv 2) (pe_ix ix_tup (pv 1) pe_int (fun _ _ => rfl)) (fun _ _ => rfl)) pe_int) (pg_sub (pv 2) (pe_ix ix_tup (pv 1) pe_int (fun _ _ => rfl)) set_list))
      (pss_one (ps_ret (pe_callTy call_tuple_of (by rfl) mT PyProof.Rows.boot_tuple (pa_cons (pv 2) pa_nil)))))), ?_⟩
    -- pebbles = list(configuration)
    refine ⟨.ref b, rfl, b, _, rfl, .inr (SqT.of hC), fun l nl => ?_⟩
    have s1 : Same H (upd H l (.lst ((iN c).map V.int))) := same_upd nl
    have hM1 : SqT K (upd H l (.lst ((iN c).map V.int))) d [.int (m.1 : Int), .int (m.2 : Int)] := SqT.of (s1 _ _ hM)
    -- pebbles[move[0]] = pebbles[move[0]] - 2
    refine ⟨.ref l, rfl, .ref d, rfl, d, _, 0, _, rfl, rfl, hM1, rfl, l, _, _, _, rfl, rfl, SqL.of upd_same, at_of rfl (iN_get (getD_get h1)), _, _, rfl, rfl,
      .ref l, rfl, .ref d, rfl, d, _, 0, _, rfl, rfl, hM1, rfl, l, _, _, m.1, rfl, rfl, upd_same, ?_, ?_⟩
    · exact ixN_at (by rw [iN_length]; exact h1)
    rw [upd_upd, iN_set c m.1 (c.getD m.1 0 - 2) _ (by omega)]
    generalize e1 : c.set m.1 (c.getD m.1 0 - 2) = c1
    have l1 : c1.length = c.length := by rw [← e1, List.length_set]
    have s2 : Same H (upd H l (.lst ((iN c1).map V.int))) := same_upd nl
    have hM2 : SqT K (upd H l (.lst ((iN c1).map V.int))) d [.int (m.1 : Int), .int (m.2 : Int)] := SqT.of (s2 _ _ hM)
    have h2' : m.2 < c1.length := by omega
    -- pebbles[move[1]] = pebbles[move[1]] + 1
    refine ⟨.ref l, rfl, .ref d, rfl, d, _, 1, _, rfl, rfl, hM2, rfl, l, _, _, _, rfl, rfl, SqL.of upd_same, at_of rfl (iN_get (getD_get h2')), _, _, rfl, rfl,
      .ref l, rfl, .ref d, rfl, d, _, 1, _, rfl, rfl, hM2, rfl, l, _, _, m.2, rfl, rfl, upd_same, ?_, ?_⟩
    · exact ixN_at (by rw [iN_length]; exact h2')
    rw [upd_upd, iN_set c1 m.2 (c1.getD m.2 0 + 1) _ (by omega)]
    -- return tuple(pebbles)
    have s3 : Same H (upd H l (.lst ((iN (c1.set m.2 (c1.getD m.2 0 + 1))).map V.int))) := same_upd nl
    refine ⟨.ref l, rfl, l, _, rfl, .inl ⟨SqL.of upd_same, fun p np => ?_⟩⟩
    refine q _ p (s3.trans (same_upd np)) ?_
    unfold ConfAt Ks577.move Ks577.pebblesAt
    rw [upd_same, ← e1]
end
theorem scPerf : FnScope ["edges", "pebbles", "moves", "moves_of_graph", "configuration", "move_count", "k", "move"] ["edges", "pebbles", "moves"] (defScope sPerf) := ⟨rfl, rfl, rfl, by decide +kernel, rfl, by decide +kernel, by decide +kernel⟩
/-! ### a pair among pairs, as data -/
def prM (m : Nat × Nat) : PyData := .tuple [.int m.1, .int m.2]
theorem prM_lay (m : Nat × Nat) : (prM m).canLay0 = true := by simp [prM, PyData.canLay0, PyData.canLayAll0]
theorem prM_depth (m : Nat × Nat) : (prM m).depth = 1 := by simp [prM, PyData.depth, PyData.depthAll]
theorem prMs_lay : ∀ ms : List (Nat × Nat), PyData.canLayAll0 (ms.map prM) = true
  | [] => by simp [PyData.canLayAll0]
  | m :: r => by simp [PyData.canLayAll0, prM_lay m, prMs_lay r]
theorem prMs_depth : ∀ ms : List (Nat × Nat), PyData.depthAll (ms.map prM) ≤ 1
  | [] => by simp [PyData.depthAll]
  | m :: r => by
    have h1 := prMs_depth r
    have h2 := prM_depth m
    simp only [List.map_cons, PyData.depthAll]
    omega
theorem prM_shaped (m : Nat × Nat) : SeqAt.shaped (prM m) = true := by
  have h := prM_depth m
  show ((prM m).canLay0 && decide ((prM m).depth ≤ 64)) = true
  rw [Bool.and_eq_true]
  exact ⟨prM_lay m, decide_eq_true (by omega)⟩
theorem prMs_shaped (ms : List (Nat × Nat)) : SeqAt.shaped (.list (ms.map prM)) = true := by
  have h1 := prMs_depth ms
  have h2 : PyData.depth (.list (ms.map prM)) ≤ 64 := by
    simp only [PyData.depth]
    omega
  show (PyData.canLay0 (.list (ms.map prM)) && decide (PyData.depth (.list (ms.map prM)) ≤ 64)) = true
  rw [Bool.and_eq_true]
  exact ⟨by simp only [PyData.canLay0]; exact prMs_lay ms, decide_eq_true h2⟩
theorem prM_eqv (a b : Nat × Nat) : PyData.eqv (prM a) (prM b) = decide (a = b) := by
  obtain ⟨u, v⟩ := a
  obtain ⟨x, y⟩ := b
  have e : PyData.eqv (prM (u, v)) (prM (x, y)) = (((u : Int) == (x : Int)) && (((v : Int) == (y : Int)) && true)) := by simp only [prM, PyData.eqv, PyData.eqvAll]
  rw [e]
  by_cases h : ((u, v) : Nat × Nat) = (x, y)
  · cases h
    simp
  · rw [decide_eq_false h]
    by_cases h1 : u = x
    · by_cases h2 : v = y
      · exact absurd (by rw [h1, h2]) h
      · have q : ((v : Int) == (y : Int)) = false := beq_eq_false_iff_ne.mpr (by omega)
        rw [q, Bool.false_and, Bool.and_false]
    · have q : ((u : Int) == (x : Int)) = false := beq_eq_false_iff_ne.mpr (by omega)
      rw [q, Bool.false_and]
theorem prM_any (m : Nat × Nat) (ms : List (Nat × Nat)) : ((ms.map prM).any fun z => PyData.eqv z (prM m)) = decide (m ∈ ms) := by
  rw [Bool.eq_iff_iff, decide_eq_true_iff, List.any_eq_true]
  constructor
  · rintro ⟨z, hz, e⟩
    obtain ⟨x, hx, rfl⟩ := List.mem_map.mp hz
    rw [prM_eqv] at e
    exact of_decide_eq_true e ▸ hx
  · intro h
    exact ⟨prM m, List.mem_map.mpr ⟨m, h, rfl⟩, by rw [prM_eqv]; exact decide_eq_true rfl⟩
theorem prM_dp {K : PySem.W.Frag} {H : Hp} {b : Addr} {m : Nat × Nat} (h : MoveAt H b m) : Dp K H (.ref b) (prM m) := .tup (SqT.of h) (.cons (.int _) (.cons (.int _) .nil))
theorem prMs_dp {K : PySem.W.Frag} {H : Hp} : ∀ {bs : List Addr} {ms : List (Nat × Nat)}, Paired (MoveAt H) bs ms → DpAll K H (bs.map V.ref) (ms.map prM)
  | _, _, .nil => .nil
  | _, _, .cons h r => .cons (prM_dp h) (prMs_dp r)
theorem hu65 {A : Around} {k : Nat} (hr : Room k A) : A.units + 65 < cLine := by have := hr.un; omega
/-! ### the moves that are performed -/
theorem apply_go {g : Ks577.Graph} {c : List Nat} {u v : Nat} {r : List Nat} (h : Ks577.canMove g c u v = true) : Ks577.applyMoves g c (u :: v :: r) = ((Ks577.applyMoves g (Ks577.move c u v) r).1 + 1, (Ks577.applyMoves g (Ks577.move c u v) r).2) := by
  rw [Ks577.applyMoves, if_pos h]
theorem apply_no {g : Ks577.Graph} {c : List Nat} {u v : Nat} {r : List Nat} (h : ¬ Ks577.canMove g c u v = true) : Ks577.applyMoves g c (u :: v :: r) = (0, c) := by
  rw [Ks577.applyMoves, if_neg h]
theorem apply_nil {g : Ks577.Graph} {c : List Nat} : Ks577.applyMoves g c [] = (0, c) := by
  rw [Ks577.applyMoves]
  intro _ _ _ e
  cases e
theorem can_is {g : Ks577.Graph} (G : GoodG g) {c : List Nat} {u v : Nat} : Ks577.canMove g c u v = true ↔ (u, v) ∈ allM g ∧ 2 ≤ c.getD u 0 := by
  rw [mem_allM_good G, ← adj_moves]
  unfold Ks577.canMove Ks577.pebblesAt
  rw [Bool.and_eq_true, decide_eq_true_iff]
/-- what stands behind i performed moves -/
def Done (g : Ks577.Graph) (ps ms : List Nat) (j : Nat) (c r : List Nat) : Prop := Ks577.applyMoves g ps ms = (j + (Ks577.applyMoves g c r).1, (Ks577.applyMoves g c r).2)
theorem Done.more {g : Ks577.Graph} {ps ms c r : List Nat} {j u v : Nat} (D : Done g ps ms j c (u :: v :: r)) (h : Ks577.canMove g c u v = true) : Done g ps ms (j + 1) (Ks577.move c u v) r := by
  unfold Done at *
  rw [D, apply_go h]
  exact Prod.ext (by show _ = _; omega) rfl
section
variable {P : Program} {w : World} {K : PySem.W.Frag} {mg : Str → Option Value} {base : Heap}
/-! ### performed -/
def spPerf (K : PySem.W.Frag) : Sp := fun vs H Q _ => ∃ (a b d : Addr) (n : Nat) (es ps ms : List Nat), vs = [.ref a, .ref b, .ref d] ∧ SqL K H a ((iN es).map V.int) ∧ es.length ≤ 22 ∧ SqL K H b ((iN ps).map V.int) ∧ Ok n es ps ∧
  SqL K H d ((iN ms).map V.int) ∧ ms.length ≤ 1000 ∧ ms.length % 2 = 0 ∧
  ∀ H' p, Same H H' → H' p = some (.lst (((((Ks577.applyMoves ⟨n, pairsOf es⟩ ps ms).1 : Nat) : Int) :: iN (Ks577.applyMoves ⟨n, pairsOf es⟩ ps ms).2).map V.int)) → Q (.ref p) H'
theorem ok_perf {f fM fA : Addr} {fd fdM fdA : FuncData} (F : Fun K "performed" "performed" sPerf f fd)
    (GM : FnOk P w K mg base CX0 1 fM fdM ["edges"] (spMoves K)) (kM : PySem.W.keepIn K (.ref fM) = true) (bM : Binds K fdM ["edges"] []) (gM : mg "moves_along" = some (.ref fM))
    (GA : FnOk P w K mg base CX0 1 fA fdA ["configuration", "move"] spAfter) (kA : PySem.W.keepIn K (.ref fA) = true) (bA : Binds K fdA ["configuration", "move"] []) (gA : mg "after_move" = some (.ref fA))
    (ml : mg "len" = none) (mr : mg "range" = none) (mT : mg "tuple" = none) (mL : mg "list" = none) : FnOk P w K mg base CX0 2 f fd ["edges", "pebbles", "moves"] (spPerf K) := by
  refine F.ok scPerf (fun vs H Q E h => ?_) (fun cdv A outer s H vs Q E hr h => ?_)
  · obtain ⟨a, b, d, n, es, ps, ms, rfl, _⟩ := h
    rfl
  · obtain ⟨a, b, d, n, es, ps, ms, rfl, hS, hlen, hT, ok, hM, hml, hev, q⟩ := h
    refine ⟨_, pss_cons (ps_set (i := 3) scPerf.nd rfl (.inl rfl) (pe_call GM hr (by rfl) gM kM bM .nil pass0 (pa_cons (pv 0) pa_nil)))
      (pss_cons (ps_set (i := 4) scPerf.nd rfl (.inl rfl) (pe_callTy call_tuple_of (by rfl) mT PyProof.Rows.boot_tuple (pa_cons (pv 1) pa_nil)))
      (pss_cons (ps_set (i := 5) scPerf.nd rfl (.inl rfl) pe_int)
      (pss_cons (ps_for PassesOwn.never rfl (pi_range3 rfl mr (pa_cons pe_int (pa_cons (pe_callB call_len_seq (by rfl) ml PySem.boot_len (pa_cons (pv 2) pa_nil)) (pa_cons pe_int pa_nil)))) (pg_name (i := 6) scPerf.nd rfl (.inl rfl))
        (pss_cons (ps_set (i := 7) scPerf.nd rfl (.inl rfl) (pe_tup (pa_cons (pe_ix ix_list (pv 2) (pv 6) (fun _ _ => rfl)) (pa_cons (pe_ix ix_list (pv 2) (pe_op op_add (pv 6) pe_int) (fun _ _ => rfl)) pa_nil))))
        (pss_cons (ps_if (PW.pt (pw_or (pt_cmpR (op_notInD (hu65 hr)) (pv 7) (pv 3) (by rfl))
            (pw_or1 (pt_cmpR op_lt (pe_ix ix_tup (pv 4) (pe_ix ix_tup (pv 7) pe_int (fun _ _ => rfl)) (fun _ _ => rfl)) pe_int (nomark _))))) (pss_one ps_break) pss_nil)
        (pss_cons (ps_set (i := 4) scPerf.nd rfl (.inl rfl) (pe_call GA hr (by rfl) gA kA bA .nil pass0 (pa_cons (pv 4) (pa_cons (pv 7) pa_nil))))
        (pss_one (ps_set (i := 5) scPerf.nd rfl (.inl rfl) (pe_op op_add (pv 5) pe_int)))))))
      (pss_one (ps_ret (pe_op op_cat (pe_lst (pa_cons (pv 5) pa_nil)) (pe_callTy call_list_of (by rfl) mL PyProof.Rows.boot_list (pa_cons (pv 4) pa_nil)))))))), ?_⟩
    have G := ok.good
    have n5 := ok.n5
    -- moves_of_graph = moves_along(edges)
    refine ⟨.ref a, rfl, a, n, es, rfl, hS, by omega, ok.fit, fun H2 mv s2 hmv => ?_⟩
    -- configuration = tuple(pebbles); move_count = 0
    refine ⟨.ref b, rfl, b, _, rfl, .inl ⟨s2.seq hT, fun l nl => ?_⟩⟩
    have s3 : Same H2 (upd H2 l (.tup ((iN ps).map V.int))) := same_upd nl
    have hmv3 := hmv.same s3
    have s03 := s2.trans s3
    have hc3 : ConfAt (upd H2 l (.tup ((iN ps).map V.int))) l ps := upd_same
    generalize upd H2 l (.tup ((iN ps).map V.int)) = H3 at s3 hmv3 s03 hc3
    obtain ⟨cs, hcs, pcs⟩ := hmv3
    -- for k in range(0, len(moves), 2)
    refine ⟨.ref d, rfl, d, _, rfl, .inl (s03.seq hM), 0, _, 2, ms.length / 2, rfl, by rw [iN_length]; exact rg2 hml hev,
      for_rangeC (lo := 0) (c := 2) (n := ms.length / 2) (fun i σ H4 => ∃ cf c y6 y7, σ = [some (.ref a), some (.ref b), some (.ref d), some (.ref mv), some (.ref cf), some (.int (i : Int)), y6, y7] ∧ Same H3 H4 ∧ ConfAt H4 cf c ∧ c.length = n ∧
        Done ⟨n, pairsOf es⟩ ps ms i c (ms.drop (2 * i))) ⟨l, ps, none, none, rfl, fun _ _ z => z, hc3, ok.len, ?_⟩ ?_ ?_⟩
    · unfold Done
      rw [Nat.mul_zero, List.drop_zero, Nat.zero_add]
    · rintro i σ H4 hi ⟨cf, c, y6, y7, rfl, s4, hc4, cl, dn⟩
      have h0 : 2 * i < ms.length := by omega
      have h1 : 2 * i + 1 < ms.length := by omega
      have g0 : ms[2 * i]? = some ms[2 * i] := List.getElem?_eq_getElem h0
      have g1 : ms[2 * i + 1]? = some ms[2 * i + 1] := List.getElem?_eq_getElem h1
      generalize ms[2 * i] = u at g0
      generalize ms[2 * i + 1] = v at g1
      have hd : ms.drop (2 * i) = u :: v :: ms.drop (2 * (i + 1)) := by
        rw [List.drop_eq_getElem_cons h0, List.drop_eq_getElem_cons h1, show 2 * i + 1 + 1 = 2 * (i + 1) by omega]
        rw [List.getElem?_eq_getElem h0] at g0
        rw [List.getElem?_eq_getElem h1] at g1
        rw [Option.some.inj g0, Option.some.inj g1]
      rw [hd] at dn
      have k0 : atI ((iN ms).map V.int) ((0 : Int) + (i : Int) * 2) = some (.int (u : Int)) := at_of (by omega : (0 : Int) + (i : Int) * 2 = ((2 * i : Nat) : Int)) (iN_get g0)
      have k1 : atI ((iN ms).map V.int) ((0 : Int) + (i : Int) * 2 + 1) = some (.int (v : Int)) := at_of (by omega : (0 : Int) + (i : Int) * 2 + 1 = ((2 * i + 1 : Nat) : Int)) (iN_get g1)
      have hM4 := (s03.trans s4).seq hM
      -- move = (moves[k], moves[k + 1])
      refine ⟨.ref d, rfl, _, rfl, d, _, _, _, rfl, rfl, hM4, k0, .ref d, rfl, _, rfl, _, _, rfl, rfl, d, _, _, _, rfl, rfl, hM4, k1, small2, fun t nt => ?_⟩
      have s5 : Same H4 (upd H4 t (.tup [.int (u : Int), .int (v : Int)])) := same_upd nt
      have hm5 : MoveAt (upd H4 t (.tup [.int (u : Int), .int (v : Int)])) t (u, v) := upd_same
      have hc5 : ConfAt (upd H4 t (.tup [.int (u : Int), .int (v : Int)])) cf c := s5 _ _ hc4
      generalize upd H4 t (.tup [.int (u : Int), .int (v : Int)]) = H5 at s5 hm5 hc5
      have s35 := s4.trans s5
      have s05 := s03.trans s35
      have pcs5 : Paired (MoveAt H5) cs (allM ⟨n, pairsOf es⟩) := pd_mono (fun _ _ z => s35 _ _ z) pcs
      -- the way out, if the move isn't possible
      have out : ¬ Ks577.canMove ⟨n, pairsOf es⟩ c u v = true → ∀ h : Addr, H5 h = none → ∀ l2 : Addr, (upd H5 h (.lst [.int (i : Int)])) l2 = none → ∀ p : Addr, (upd (upd H5 h (.lst [.int (i : Int)])) l2 (.lst ((iN c).map V.int))) p = none →
          Q (.ref p) (upd (upd (upd H5 h (.lst [.int (i : Int)])) l2 (.lst ((iN c).map V.int))) p (.lst ([.int (i : Int)] ++ (iN c).map V.int))) := fun no h nh l2 nl2 p np => by
        refine q _ p (s05.trans ((same_upd nh).trans ((same_upd nl2).trans (same_upd np)))) ?_
        unfold Done at dn
        rw [upd_same, dn, apply_no no, Nat.add_zero]; rfl
      have szc : 1 + ((iN c).map V.int).length ≤ sizeLine := by
        rw [iN_length, sizeLine_eq]; omega
      refine ⟨.ref t, rfl, .ref mv, rfl, prM (u, v), (allM ⟨n, pairsOf es⟩).map prM, prM_dp hm5, .lst (SqL.of (s35 _ _ hcs)) (prMs_dp pcs5), prM_shaped _, prMs_shaped _, _, rfl, ?_⟩
      rw [prM_any]
      refine ite2 (fun z => ?_) (fun z => ?_)
      · have z : (u, v) ∉ allM ⟨n, pairsOf es⟩ := fun y => by rw [decide_eq_true y] at z; cases z
        have no : ¬ Ks577.canMove ⟨n, pairsOf es⟩ c u v = true := fun y => z ((can_is G).mp y).1
        refine iteT ?_
        refine ⟨_, rfl, (by show 1 ≤ sizeLine; decide), fun h nh => ⟨.ref cf, rfl, cf, _, rfl, .inr (SqT.of ((same_upd nh) _ _ hc5)), fun l2 nl2 => ⟨h, l2, _, _, rfl, rfl, same_upd nl2 _ _ upd_same, upd_same, szc, fun p np => out no h nh l2 nl2 p np⟩⟩⟩
      · have z : (u, v) ∈ allM ⟨n, pairsOf es⟩ := by
          by_cases y : (u, v) ∈ allM ⟨n, pairsOf es⟩
          · exact y
          · rw [decide_eq_false y] at z; exact absurd rfl z
        obtain ⟨ul, vl⟩ := allM_lt _ z
        have ul : u < c.length := by rw [cl]; exact ul
        have vl : v < c.length := by rw [cl]; exact vl
        have tm : SqT K H5 t [.int (u : Int), .int (v : Int)] := SqT.of hm5
        have tc : SqT K H5 cf ((iN c).map V.int) := SqT.of hc5
        -- configuration[move[0]] < 2
        refine ⟨.ref cf, rfl, .ref t, rfl, t, _, 0, .int (u : Int), rfl, rfl, tm, rfl, cf, _, _, _, rfl, rfl, tc, at_of rfl (iN_get (getD_get ul)), _, _, rfl, rfl, _, rfl, ite2 (fun y => ?_) (fun y => ?_)⟩
        · rw [decide_eq_true_iff] at y
          have no : ¬ Ks577.canMove ⟨n, pairsOf es⟩ c u v = true := fun x => by
            have := ((can_is G).mp x).2
            omega
          refine ⟨_, rfl, (by show 1 ≤ sizeLine; decide), fun h nh => ⟨.ref cf, rfl, cf, _, rfl, .inr (SqT.of ((same_upd nh) _ _ hc5)), fun l2 nl2 => ⟨h, l2, _, _, rfl, rfl, same_upd nl2 _ _ upd_same, upd_same, szc, fun p np => out no h nh l2 nl2 p np⟩⟩⟩
        · rw [decide_eq_true_iff] at y
          have y2 : 2 ≤ c.getD u 0 := by omega
          have yes : Ks577.canMove ⟨n, pairsOf es⟩ c u v = true := (can_is G).mpr ⟨z, y2⟩
          -- configuration = after_move(configuration, move)
          refine ⟨.ref cf, rfl, .ref t, rfl, cf, t, c, (u, v), rfl, hc5, hm5, by omega, ul, vl, y2, fun H6 c6 s6 hc6 => ?_⟩
          refine ⟨_, rfl, _, _, rfl, rfl, c6, Ks577.move c u v, _, _, rfl, s35.trans s6, hc6, by rw [move_length]; exact cl, dn.more yes⟩
    · rintro σ H4 ⟨cf, c, y6, y7, rfl, s4, hc4, cl, dn⟩
      rw [show 2 * (ms.length / 2) = ms.length by omega, List.drop_length] at dn
      have szc : 1 + ((iN c).map V.int).length ≤ sizeLine := by
        rw [iN_length, sizeLine_eq]; omega
      -- return [move_count] + list(configuration)
      refine ⟨_, rfl, (by show 1 ≤ sizeLine; decide), fun h nh => ⟨.ref cf, rfl, cf, _, rfl, .inr (SqT.of ((same_upd nh) _ _ hc4)), fun l2 nl2 => ⟨h, l2, _, _, rfl, rfl, same_upd nl2 _ _ upd_same, upd_same, szc, fun p np => q _ p ((s03.trans s4).trans ((same_upd nh).trans ((same_upd nl2).trans (same_upd np)))) ?_⟩⟩⟩
      unfold Done at dn
      rw [upd_same, dn, apply_nil, Nat.add_zero]; rfl
end
theorem scApply : FnScope ["vertex_count", "edges", "pebbles", "moves", "error"] ["vertex_count", "edges", "pebbles", "moves"] (defScope sApply) := ⟨rfl, rfl, rfl, by decide +kernel, rfl, by decide +kernel, by decide +kernel⟩
def dueApply (n : Nat) (es ps ms : List Nat) : List Int := Ks577Neutral.integers (Ks577.answer (.applyMoves n es ps ms))
section
variable {P : Program} {w : World} {K : PySem.W.Frag} {mg : Str → Option Value} {base : Heap}
/-! ### apply_moves -/
def spApply (K : PySem.W.Frag) : Sp := fun vs H Q _ => ∃ (a b d : Addr) (n : Nat) (es ps ms : List Nat), vs = [.int (n : Int), .ref a, .ref b, .ref d] ∧ SqL K H a ((iN es).map V.int) ∧ es.length ≤ 22 ∧ SqL K H b ((iN ps).map V.int) ∧
  SqL K H d ((iN ms).map V.int) ∧ ms.length ≤ 32 ∧ ∀ H' p, Same H H' → H' p = some (.lst ((dueApply n es ps ms).map V.int)) → Q (.ref p) H'
theorem ok_apply {f fT fM fP : Addr} {fd fdT fdM fdP : FuncData} (F : Fun K "apply_moves" "apply_moves" sApply f fd)
    (GT : FnOk P w K mg base CX0 2 fT fdT ["vertex_count", "edges", "pebbles"] (spLimits K)) (kT : PySem.W.keepIn K (.ref fT) = true) (bT : Binds K fdT ["vertex_count", "edges", "pebbles"] []) (gT : mg "limits_error" = some (.ref fT))
    (GM : FnOk P w K mg base CX0 1 fM fdM ["vertex_count", "moves"] (spFit K)) (kM : PySem.W.keepIn K (.ref fM) = true) (bM : Binds K fdM ["vertex_count", "moves"] []) (gM : mg "moves_fit" = some (.ref fM))
    (GP : FnOk P w K mg base CX0 2 fP fdP ["edges", "pebbles", "moves"] (spPerf K)) (kP : PySem.W.keepIn K (.ref fP) = true) (bP : Binds K fdP ["edges", "pebbles", "moves"] []) (gP : mg "performed" = some (.ref fP)) :
    FnOk P w K mg base CX0 3 f fd ["vertex_count", "edges", "pebbles", "moves"] (spApply K) := by
  refine F.ok scApply (fun vs H Q E h => ?_) (fun cdv A outer s H vs Q E hr h => ?_)
  · obtain ⟨a, b, d, n, es, ps, ms, rfl, _⟩ := h
    rfl
  · obtain ⟨a, b, d, n, es, ps, ms, rfl, hS, hlen, hT, hM, hml, q⟩ := h
    refine ⟨_, pss_cons (ps_set (i := 4) scApply.nd rfl (.inl rfl) (pe_call GT hr (by rfl) gT kT bT .nil pass0 (pa_cons (pv 0) (pa_cons (pv 1) (pa_cons (pv 2) pa_nil)))))
      (pss_cons (ps_if (pt_cmpR op_ne (pv 4) pe_int (nomark _)) (pss_one (ps_ret (pe_lst (pa_cons (pv 4) pa_nil)))) pss_nil)
      (pss_cons (ps_if (pt_not (pt_val (pe_call GM (hr.mono (by decide)) (by rfl) gM kM bM .nil pass0 (pa_cons (pv 0) (pa_cons (pv 3) pa_nil))))) (pss_one (ps_ret (pe_lst (pa_cons (pe_un un_neg pe_int) pa_nil)))) pss_nil)
      (pss_one (ps_ret (pe_call GP hr (by rfl) gP kP bP .nil pass0 (pa_cons (pv 1) (pa_cons (pv 2) (pa_cons (pv 3) pa_nil)))))))), ?_⟩
    have ed : dueApply n es ps ms = if limErr n es ps = 0 then Ks577Neutral.integers (if 30 < ms.length ∨ ms.length % 2 ≠ 0 ∨ (ms.any fun x => decide (n ≤ x)) = true then Ks577.number (-22)
        else { value := (Ks577.applyMoves ⟨n, pairsOf es⟩ ps ms).1, rest := Ks577.integers (Ks577.applyMoves ⟨n, pairsOf es⟩ ps ms).2 }) else [limErr n es ps] :=
      lim_due n es ps fun g c => if 30 < ms.length ∨ ms.length % 2 ≠ 0 ∨ (ms.any fun x => decide (n ≤ x)) = true then Ks577.number (-22)
        else { value := (Ks577.applyMoves g c ms).1, rest := Ks577.integers (Ks577.applyMoves g c ms).2 }
    rw [ed] at q
    clear ed
    -- error = limits_error(..)
    refine ⟨_, rfl, _, rfl, _, rfl, a, b, n, es, ps, rfl, hS, by omega, hT, fun H1 s1 => ⟨_, rfl, rfl, _, rfl, ?_⟩⟩
    rw [ne_zero]
    refine ite2 (fun c => ?_) (fun c => ?_)
    · have c := of_decide_eq_true c
      rw [if_neg c] at q
      exact ⟨_, rfl, (by show 1 ≤ sizeLine; decide), fun p np => q _ p (s1.trans (same_upd np)) upd_same⟩
    have c : limErr n es ps = 0 := by
      rw [decide_eq_true_iff] at c
      exact Decidable.not_not.mp c
    rw [if_pos c] at q
    have ok := lim_ok c
    -- if not moves_fit(vertex_count, moves)
    refine ⟨_, rfl, _, rfl, d, n, ms, rfl, s1.seq hM, by omega, fun H2 s2 => ⟨_, rfl, ite2 (fun z => ?_) (fun z => ?_)⟩⟩
    · rw [Bool.not_eq_true'] at z
      rw [if_pos ((fit_is n ms).mpr z)] at q
      exact ⟨_, rfl, (by show 1 ≤ sizeLine; decide), fun p np => q _ p ((s1.trans s2).trans (same_upd np)) upd_same⟩
    · rw [Bool.not_eq_true', Bool.not_eq_false] at z
      have no : ¬ (30 < ms.length ∨ ms.length % 2 ≠ 0 ∨ (ms.any fun x => decide (n ≤ x)) = true) := fun y => by
        have := (fit_is n ms).mp y
        rw [z] at this; cases this
      rw [if_neg no] at q
      have ev : ms.length % 2 = 0 := by
        by_cases y : ms.length % 2 = 0
        · exact y
        · exact absurd (.inr (.inl y)) no
      have s12 := s1.trans s2
      -- return performed(edges, pebbles, moves)
      refine ⟨_, rfl, _, rfl, _, rfl, a, b, d, n, es, ps, ms, rfl, s12.seq hS, hlen, s12.seq hT, ok, s12.seq hM, by omega, ev, fun H3 p s3 hp => q _ p (s12.trans s3) ?_⟩
      rw [hp]; rfl
end
/-! ### the end: what the top has written -/
theorem all_mk {P : Program} {w : World} {K : PySem.W.Frag} {h : Heap} {mg : Str → Option Value} {fa f1 f2 f3 f4 f5 f6 f7 f8 : Addr} (X : K.In h) (G : h.Ns mainGlobals mg) (hfa : mg "apply_moves" = some (.ref fa))
    {tk0 tk1 tk2 : Tok}    {od1 an1 od2 an2 od3 an3 od4 an4 od5 an5 od6 an6 od7 an7 od8 an8 : Option Addr} {sl1 sl2 sl3 sl4 sl5 sl6 sl7 sl8 : Array (Option Value)} {oc1 kV1 dc1 pm1 cd1 ct1 oc2 kV2 dc2 pm2 cd2 ct2 oc3 kV3 dc3 pm3 cd3 ct3 oc4 kV4 dc4 pm4 cd4 ct4 oc5 kV5 dc5 pm5 cd5 ct5 oc6 kV6 dc6 pm6 cd6 ct6 oc7 kV7 dc7 pm7 cd7 ct7 oc8 kV8 dc8 pm8 cd8 ct8 : Value}
    (v0 : PySem.W.nsIn K mainGlobals "MAX_VERTICES" = some (some (.int 5 tk0)))
    (v1 : PySem.W.nsIn K mainGlobals "MAX_PEBBLES" = some (some (.int 12 tk1)))
    (v2 : PySem.W.nsIn K mainGlobals "MAX_MOVES" = some (some (.int 15 tk2)))
    (a1 : PySem.W.nsIn K mainGlobals "edges_fit" = some (some (.ref f1))) (l1 : K.lookup f1 = some ⟨oc1, od1, .func (PySem.W.fnOf "edges_fit" "edges_fit" (defArgs sEdges) (defBody sEdges) (defScope sEdges) .none kV1 dc1 pm1 an1 cd1 ct1), sl1⟩) (c1 : PySem.W.codeIn K cd1 "edges_fit" = true) (k1 : PySem.W.keepIn K (.ref f1) = true)
    (a2 : PySem.W.nsIn K mainGlobals "pebbles_fit" = some (some (.ref f2))) (l2 : K.lookup f2 = some ⟨oc2, od2, .func (PySem.W.fnOf "pebbles_fit" "pebbles_fit" (defArgs sPebbles) (defBody sPebbles) (defScope sPebbles) .none kV2 dc2 pm2 an2 cd2 ct2), sl2⟩) (c2 : PySem.W.codeIn K cd2 "pebbles_fit" = true) (k2 : PySem.W.keepIn K (.ref f2) = true)
    (a3 : PySem.W.nsIn K mainGlobals "moves_fit" = some (some (.ref f3))) (l3 : K.lookup f3 = some ⟨oc3, od3, .func (PySem.W.fnOf "moves_fit" "moves_fit" (defArgs sFit) (defBody sFit) (defScope sFit) .none kV3 dc3 pm3 an3 cd3 ct3), sl3⟩) (c3 : PySem.W.codeIn K cd3 "moves_fit" = true) (k3 : PySem.W.keepIn K (.ref f3) = true)
    (a4 : PySem.W.nsIn K mainGlobals "limits_error" = some (some (.ref f4))) (l4 : K.lookup f4 = some ⟨oc4, od4, .func (PySem.W.fnOf "limits_error" "limits_error" (defArgs sLimits) (defBody sLimits) (defScope sLimits) .none kV4 dc4 pm4 an4 cd4 ct4), sl4⟩) (c4 : PySem.W.codeIn K cd4 "limits_error" = true) (k4 : PySem.W.keepIn K (.ref f4) = true)
    (a5 : PySem.W.nsIn K mainGlobals "moves_along" = some (some (.ref f5))) (l5 : K.lookup f5 = some ⟨oc5, od5, .func (PySem.W.fnOf "moves_along" "moves_along" (defArgs sMoves) (defBody sMoves) (defScope sMoves) .none kV5 dc5 pm5 an5 cd5 ct5), sl5⟩) (c5 : PySem.W.codeIn K cd5 "moves_along" = true) (k5 : PySem.W.keepIn K (.ref f5) = true)
    (a6 : PySem.W.nsIn K mainGlobals "after_move" = some (some (.ref f6))) (l6 : K.lookup f6 = some ⟨oc6, od6, .func (PySem.W.fnOf "after_move" "after_move" (defArgs sAfter) (defBody sAfter) (defScope sAfter) .none kV6 dc6 pm6 an6 cd6 ct6), sl6⟩) (c6 : PySem.W.codeIn K cd6 "after_move" = true) (k6 : PySem.W.keepIn K (.ref f6) = true)
    (a7 : PySem.W.nsIn K mainGlobals "performed" = some (some (.ref f7))) (l7 : K.lookup f7 = some ⟨oc7, od7, .func (PySem.W.fnOf "performed" "performed" (defArgs sPerf) (defBody sPerf) (defScope sPerf) .none kV7 dc7 pm7 an7 cd7 ct7), sl7⟩) (c7 : PySem.W.codeIn K cd7 "performed" = true) (k7 : PySem.W.keepIn K (.ref f7) = true)
    (a8 : PySem.W.nsIn K mainGlobals "apply_moves" = some (some (.ref f8))) (l8 : K.lookup f8 = some ⟨oc8, od8, .func (PySem.W.fnOf "apply_moves" "apply_moves" (defArgs sApply) (defBody sApply) (defScope sApply) .none kV8 dc8 pm8 an8 cd8 ct8), sl8⟩) (c8 : PySem.W.codeIn K cd8 "apply_moves" = true) (k8 : PySem.W.keepIn K (.ref f8) = true)
    (z0 : PySem.W.nsIn K mainGlobals "len" = some none)
    (z1 : PySem.W.nsIn K mainGlobals "range" = some none)
    (z2 : PySem.W.nsIn K mainGlobals "sum" = some none)
    (z3 : PySem.W.nsIn K mainGlobals "all" = some none)
    (z4 : PySem.W.nsIn K mainGlobals "sorted" = some none)
    (z5 : PySem.W.nsIn K mainGlobals "list" = some none)
    (z6 : PySem.W.nsIn K mainGlobals "tuple" = some none)
    : ∃ fd : FuncData, (∀ (s : Shared) (us : List Value), us.length = (["vertex_count", "edges", "pebbles", "moves"] : List Str).length → BindsTo s fd ⟨us, []⟩ ((["vertex_count", "edges", "pebbles", "moves"] : List Str).zip us)) ∧ ∀ base : Heap, K.In base → base.Ns mainGlobals mg → FnOk P w K mg base CX0 3 fa fd ["vertex_count", "edges", "pebbles", "moves"] (spApply K) := by
  have e := hfa.symm.trans (PySem.W.mg_of X G a8)
  cases e
  have F1 := fun_mk (st := sEdges) l1 c1 k1
  have b1 := F1.binds (ps := ["vertex_count", "edges"]) fun _ _ _ _ _ _ us hl => match us, hl with | [_, _], _ => rfl
  have F2 := fun_mk (st := sPebbles) l2 c2 k2
  have b2 := F2.binds (ps := ["vertex_count", "pebbles"]) fun _ _ _ _ _ _ us hl => match us, hl with | [_, _], _ => rfl
  have F3 := fun_mk (st := sFit) l3 c3 k3
  have b3 := F3.binds (ps := ["vertex_count", "moves"]) fun _ _ _ _ _ _ us hl => match us, hl with | [_, _], _ => rfl
  have F4 := fun_mk (st := sLimits) l4 c4 k4
  have b4 := F4.binds (ps := ["vertex_count", "edges", "pebbles"]) fun _ _ _ _ _ _ us hl => match us, hl with | [_, _, _], _ => rfl
  have F5 := fun_mk (st := sMoves) l5 c5 k5
  have b5 := F5.binds (ps := ["edges"]) fun _ _ _ _ _ _ us hl => match us, hl with | [_], _ => rfl
  have F6 := fun_mk (st := sAfter) l6 c6 k6
  have b6 := F6.binds (ps := ["configuration", "move"]) fun _ _ _ _ _ _ us hl => match us, hl with | [_, _], _ => rfl
  have F7 := fun_mk (st := sPerf) l7 c7 k7
  have b7 := F7.binds (ps := ["edges", "pebbles", "moves"]) fun _ _ _ _ _ _ us hl => match us, hl with | [_, _, _], _ => rfl
  have F8 := fun_mk (st := sApply) l8 c8 k8
  have m0 := PySem.W.mg_none_of X G z0
  have m1 := PySem.W.mg_none_of X G z1
  have m2 := PySem.W.mg_none_of X G z2
  have m3 := PySem.W.mg_none_of X G z3
  have m4 := PySem.W.mg_none_of X G z4
  have m5 := PySem.W.mg_none_of X G z5
  have m6 := PySem.W.mg_none_of X G z6
  refine ⟨PySem.W.fnOf "apply_moves" "apply_moves" (defArgs sApply) (defBody sApply) (defScope sApply) .none kV8 dc8 pm8 an8 cd8 ct8, fun s us hu => match us, hu with | [_, _, _, _], _ => .of_eq rfl, fun base _ _ => ?_⟩
  have G1 := ok_edges (P := P) (w := w) (base := base) (k := 0) F1 m0 m1
  have G2 := ok_pebbles (P := P) (w := w) (base := base) (k := 0) F2 m0 m2 (PySem.W.mg_of X G v1)
  have G4 := ok_limits (P := P) (w := w) (base := base) (k := 0) F4 G1 k1 b1 (PySem.W.mg_of X G a1) G2 k2 b2 (PySem.W.mg_of X G a2) (PySem.W.mg_of X G v0)
  have G3 := ok_fit (P := P) (w := w) (base := base) (k := 0) F3 m0 m3 (PySem.W.mg_of X G v2)
  have G5 := ok_moves (P := P) (w := w) (base := base) (k := 0) F5 m0 m1 m4
  have G6 := ok_after (P := P) (w := w) (base := base) (k := 0) F6 m5 m6
  have G7 := ok_perf (P := P) (w := w) (base := base) F7 G5 k5 b5 (PySem.W.mg_of X G a5) G6 k6 b6 (PySem.W.mg_of X G a6) m0 m1 m6 m5
  exact ok_apply (P := P) (w := w) (base := base) F8 G4 k4 b4 (PySem.W.mg_of X G a4) G3 k3 b3 (PySem.W.mg_of X G a3) G7 k7 b7 (PySem.W.mg_of X G a7)
/-! ### the request -/
theorem nat_int {lo hi : Int} {x : Int} (h : 0 ≤ x) : ∃ n : Nat, x = (n : Int) := ⟨x.toNat, by omega⟩
theorem nat_list : ∀ {l : List Int}, (∀ x ∈ l, 0 ≤ x) → ∃ ns : List Nat, l = iN ns
  | [], _ => ⟨[], rfl⟩
  | x :: r, h => by
    obtain ⟨ns, e⟩ := nat_list (l := r) fun y hy => h y (List.mem_cons_of_mem _ hy)
    have h0 := h x (List.mem_cons_self ..)
    exact ⟨x.toNat :: ns, by rw [e]; show x :: iN ns = ((x.toNat : Nat) : Int) :: iN ns; rw [Int.toNat_of_nonneg h0]⟩
theorem toNat_iN : ∀ l : List Nat, (iN l).map Int.toNat = l
  | [] => rfl
  | x :: r => by
    show ((x : Int)).toNat :: (iN r).map Int.toNat = x :: r
    rw [toNat_iN r]; rfl
end Peb
open PySem PySem.W PyProof.Rows
set_option maxRecDepth 100000 in
set_option maxHeartbeats 16000000 in
theorem PySem.Challenge.cw_halvedpebbles_s07_apply_moves_holds : PySem.Challenge.rw_halvedpebbles_s07_apply_moves.Holds := by
  w_on; k_headS; (case hw => exact ⟨[.int 0, .list [], .list [], .list []], by decide +kernel, by decide +kernel⟩)
  k_fillS
  refine L2.walk_specK (r := PySem.Challenge.rw_halvedpebbles_s07_apply_moves) (k := 3) (CX := L2.CX0) (ps := ["vertex_count", "edges", "pebbles", "moves"]) (sp := Peb.spApply) (by decide +kernel) rfl rfl ⟨rfl, by decide, by decide⟩ (fun w h Y => PySem.W.kIn_of Y) ?F ?S (fun _ _ _ _ z => z)
  case F =>
    intro w mg fa h Y KX G hmg
    refine' Peb.all_mk KX G hmg ?v0 ?v1 ?v2 ?a1 ?l1 ?c1 ?k1 ?a2 ?l2 ?c2 ?k2 ?a3 ?l3 ?c3 ?k3 ?a4 ?l4 ?c4 ?k4 ?a5 ?l5 ?c5 ?k5 ?a6 ?l6 ?c6 ?k6 ?a7 ?l7 ?c7 ?k7 ?a8 ?l8 ?c8 ?k8 ?z0 ?z1 ?z2 ?z3 ?z4 ?z5 ?z6
    (case v0 => k_is); (case v1 => k_is); (case v2 => k_is); (case a1 => k_is); (case l1 => k_is); (case c1 => k_is); (case k1 => k_is); (case a2 => k_is); (case l2 => k_is); (case c2 => k_is); (case k2 => k_is); (case a3 => k_is); (case l3 => k_is); (case c3 => k_is); (case k3 => k_is); (case a4 => k_is); (case l4 => k_is); (case c4 => k_is); (case k4 => k_is); (case a5 => k_is); (case l5 => k_is); (case c5 => k_is); (case k5 => k_is); (case a6 => k_is); (case l6 => k_is); (case c6 => k_is); (case k6 => k_is); (case a7 => k_is); (case l7 => k_is); (case c7 => k_is); (case k7 => k_is); (case a8 => k_is); (case l8 => k_is); (case c8 => k_is); (case k8 => k_is); (case z0 => k_is); (case z1 => k_is); (case z2 => k_is); (case z3 => k_is); (case z4 => k_is); (case z5 => k_is); (case z6 => k_is)
  case S =>
    intro K H xs a hO hwi hask hx
    obtain ⟨v0, v1, v2, v3, u⟩ := a
    have q : (Codec.inInt 0 4294967295 v0 && ((Codec.inLen 0 22 v1 && v1.all (Codec.inInt 0 4294967295)) && ((Codec.inLen 0 7 v2 && v2.all (Codec.inInt 0 4294967295)) && ((Codec.inLen 0 32 v3 && v3.all (Codec.inInt 0 4294967295)) && true)))) = true := hwi
    simp only [Bool.and_eq_true, List.all_eq_true, Codec.inInt_iff] at q
    obtain ⟨⟨pv0, _⟩, ⟨lv1, pv1⟩, ⟨lv2, pv2⟩, ⟨lv3, pv3⟩, _⟩ := q
    obtain ⟨v0, rfl⟩ := Int.eq_ofNat_of_zero_le pv0
    obtain ⟨v1, rfl⟩ := Peb.nat_list fun x hx => (pv1 x hx).1
    have lv1 : (Peb.iN v1).length ≤ 22 := (Codec.inNat_iff.mp lv1).2
    unfold Peb.iN at lv1
    rw [List.length_map] at lv1
    obtain ⟨v2, rfl⟩ := Peb.nat_list fun x hx => (pv2 x hx).1
    have lv2 : (Peb.iN v2).length ≤ 7 := (Codec.inNat_iff.mp lv2).2
    unfold Peb.iN at lv2
    rw [List.length_map] at lv2
    obtain ⟨v3, rfl⟩ := Peb.nat_list fun x hx => (pv3 x hx).1
    have lv3 : (Peb.iN v3).length ≤ 32 := (Codec.inNat_iff.mp lv3).2
    unfold Peb.iN at lv3
    rw [List.length_map] at lv3
    cases hx with
    | cons h0 hx =>
      cases hx with
      | cons h1 hx =>
        cases hx with
        | cons h2 hx =>
          cases hx with
          | cons h3 hx =>
            cases hx
            cases h0
            cases h1 with
            | lst s1 a1 =>
              have e1 := L2.ints_dw (Peb.iN v1) _ a1
              subst e1
              cases h2 with
              | lst s2 a2 =>
                have e2 := L2.ints_dw (Peb.iN v2) _ a2
                subst e2
                cases h3 with
                | lst s3 a3 =>
                  have e3 := L2.ints_dw (Peb.iN v3) _ a3
                  subst e3
                  refine ⟨_, _, _, v0, v1, v2, v3, rfl, s1, lv1, s2, s3, lv3, fun H' p _ hp => ?_⟩
                  have ed : Codec.app PySem.Challenge.rw_halvedpebbles_s07_apply_moves.args PySem.Challenge.rw_halvedpebbles_s07_apply_moves.f ((v0 : Int), Peb.iN v1, Peb.iN v2, Peb.iN v3, u) = Peb.dueApply v0 v1 v2 v3 := by
                    show Ks577Neutral.integers (Ks577.answer (.applyMoves ((v0 : Int)).toNat ((Peb.iN v1).map Int.toNat) ((Peb.iN v2).map Int.toNat) ((Peb.iN v3).map Int.toNat))) = _
                    rw [Peb.toNat_iN, Peb.toNat_iN, Peb.toNat_iN]
                    rfl
                  show L2.Dw K H' (.ref p) (PySem.Challenge.rw_halvedpebbles_s07_apply_moves.ret.enc (Codec.app PySem.Challenge.rw_halvedpebbles_s07_apply_moves.args PySem.Challenge.rw_halvedpebbles_s07_apply_moves.f ((v0 : Int), Peb.iN v1, Peb.iN v2, Peb.iN v3, u)))
                  rw [ed]
                  exact .lst (L2.SqL.of hp) (L2.dw_ints _)
#print axioms PySem.Challenge.cw_halvedpebbles_s07_apply_moves_holds
