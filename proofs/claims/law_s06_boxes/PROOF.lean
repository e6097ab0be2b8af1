import PyProof.Rows.All
import Wide.All
import OpenK.AllK
import Wide.FinOn
import Open.SpecLaws
import KE.OsGo
import PyProof.ListRange
import HandS.Base
import HandS.Call
import HandS.List
import HandS.Comp
import HandS.Ends
import HandS.Iter
import HandS.Text
import HandS.SetFor
import HandS.Conv
import HandS.SortInts
import HandS.RevTup
import HandS.Rev
import HandS.Spec
import HandS.Words
import HandS.WordsList
import PySem.Challenge.RW_hatboxes_s06_boxes
set_option Elab.async false
namespace Hb
open Sn88

/-! ### digits, rows -/
def rowOf (q n r : Nat) : List Nat := ((List.range n).map fun i => r / q ^ i % q).reverse
theorem rowOf_len (q n r : Nat) : (rowOf q n r).length = n := by
  unfold rowOf
  rw [List.length_reverse, List.length_map, List.length_range]
theorem rowOf_succ {q n x r : Nat} (hx : x < q) (hr : r < q ^ n) : rowOf q (n + 1) (x * q ^ n + r) = x :: rowOf q n r := by
  have hq : 0 < q := Nat.lt_of_le_of_lt (Nat.zero_le _) hx
  have hp : 0 < q ^ n := Nat.pow_pos hq
  unfold rowOf
  rw [List.range_succ, List.map_append, List.reverse_append]
  have e1 : (x * q ^ n + r) / q ^ n % q = x := by
    rw [Nat.mul_comm, Nat.mul_add_div hp, Nat.div_eq_of_lt hr, Nat.add_zero, Nat.mod_eq_of_lt hx]
  have e2 : (List.range n).map (fun i => (x * q ^ n + r) / q ^ i % q) = (List.range n).map (fun i => r / q ^ i % q) := by
    apply List.map_congr_left
    intro i hi
    have hi' : i < n := List.mem_range.mp hi
    have hpi : 0 < q ^ i := Nat.pow_pos hq
    have e : x * q ^ n = q ^ i * (q * (x * q ^ (n - i - 1))) := by
      have : q ^ n = q ^ i * (q * q ^ (n - i - 1)) := by
        rw [← Nat.pow_succ', ← Nat.pow_add]
        congr 1
        omega
      rw [this]
      simp only [Nat.mul_left_comm]
    show (x * q ^ n + r) / q ^ i % q = r / q ^ i % q
    rw [e, Nat.mul_add_div hpi, Nat.mul_add_mod]
  rw [e2]
  show [(x * q ^ n + r) / q ^ n % q].reverse ++ _ = _
  rw [e1]
  rfl
theorem range_mul (a b : Nat) : List.range (a * b) = (List.range a).flatMap fun x => (List.range b).map fun r => x * b + r := by
  induction a with
  | zero => simp
  | succ a ih =>
    rw [List.range_succ, List.flatMap_append, ← ih, Nat.succ_mul, List.range_add]
    simp
theorem rows_eq {q : Nat} : ∀ n : Nat, rows q n = (List.range (q ^ n)).map (rowOf q n)
  | 0 => by
    show [[]] = _
    rw [Nat.pow_zero]
    rfl
  | n + 1 => by
    show ((List.range q).flatMap fun x => (rows q n).map fun c => x :: c) = _
    rw [Nat.pow_succ', range_mul, List.map_flatMap]
    rw [List.flatMap_def, List.flatMap_def]
    congr 1
    apply List.map_congr_left
    intro x hx
    have hx' : x < q := List.mem_range.mp hx
    rw [rows_eq n, List.map_map, List.map_map]
    apply List.map_congr_left
    intro r hr
    exact (rowOf_succ hx' (List.mem_range.mp hr)).symm

/-! ### what a row's digits are in the program's own order -/
theorem rest_step (r q i : Nat) : r / q ^ i / q = r / q ^ (i + 1) := by
  rw [Nat.div_div_eq_div_mul, Nat.pow_succ]

/-! ### counts -/
def counts (q : Nat) (g : G) (t : List Nat) : List Nat := (List.range (q ^ g.length)).map fun r => hits q g t (rowOf q g.length r)
theorem counts_rows (q : Nat) (g : G) (t : List Nat) : counts q g t = (rows q g.length).map (hits q g t) := by
  rw [rows_eq, List.map_map]
  rfl
theorem counts_len (q : Nat) (g : G) (t : List Nat) : (counts q g t).length = q ^ g.length := by
  unfold counts
  rw [List.length_map, List.length_range]
theorem filter_count (l : List (List Nat)) (f : List Nat → Nat) : (l.filter fun c => f c == 0).length = (l.map f).count 0 := by
  induction l with
  | nil => rfl
  | cons c l ih =>
    rw [List.filter_cons, List.map_cons, List.count_cons]
    cases h : (f c == 0) with
    | true => simp [ih]
    | false => simp [ih]
theorem misses_count (q : Nat) (g : G) (t : List Nat) : (Sn88.misses q g t).length = (counts q g t).count 0 := by
  rw [counts_rows]
  exact filter_count _ _
theorem filter_head (l : List (List Nat)) (f : List Nat → Nat) (j : Nat) (c : List Nat) (hc : l[j]? = some c) (h0 : f c = 0) (hb : ∀ m z, m < j → l[m]? = some z → f z ≠ 0) : (l.filter fun c => f c == 0).headD [] = c := by
  induction l generalizing j with
  | nil => simp at hc
  | cons a l ih =>
    cases j with
    | zero =>
      have e : a = c := Option.some.inj hc
      subst e
      rw [List.filter_cons, if_pos (by rw [h0]; rfl)]
      rfl
    | succ j =>
      have ha : f a ≠ 0 := hb 0 a (Nat.succ_pos _) rfl
      rw [List.filter_cons, if_neg (by simpa using ha)]
      exact ih j hc fun m z hm hz => hb (m + 1) z (Nat.succ_lt_succ hm) hz
theorem misses_head {q : Nat} {g : G} {t : List Nat} {j : Nat} (hj : (counts q g t)[j]? = some 0) (hb : ∀ m z, m < j → (counts q g t)[m]? = some z → z ≠ 0) : (Sn88.misses q g t).headD [] = rowOf q g.length j := by
  have hlt : j < q ^ g.length := by
    obtain ⟨h, _⟩ := List.getElem?_eq_some_iff.mp hj
    rwa [counts_len] at h
  unfold Sn88.misses
  refine filter_head _ (hits q g t) j _ ?_ ?_ ?_
  · rw [rows_eq, List.getElem?_map, List.getElem?_range hlt]
    rfl
  · rw [counts, List.getElem?_map, List.getElem?_range hlt] at hj
    exact Option.some.inj hj
  · intro m z hm hz
    refine hb m _ hm ?_
    rw [counts_rows, List.getElem?_map, hz]
    rfl

/-! ### the least -/
theorem hits_le (q : Nat) (g : G) (t : List Nat) (c : List Nat) : hits q g t c ≤ g.length := by
  unfold hits
  refine Nat.le_trans (List.length_filter_le _ _) ?_
  rw [List.length_range]
  exact Nat.le_refl _
theorem foldl_min_le : ∀ (l : List Nat) (b : Nat), l.foldl min b ≤ b ∧ (∀ x ∈ l, l.foldl min b ≤ x)
  | [], b => ⟨Nat.le_refl _, fun x h => by cases h⟩
  | a :: l, b => by
    obtain ⟨h1, h2⟩ := foldl_min_le l (min b a)
    refine ⟨Nat.le_trans h1 (Nat.min_le_left _ _), fun x hx => ?_⟩
    rcases List.mem_cons.mp hx with e | e
    · subst e
      exact Nat.le_trans h1 (Nat.min_le_right _ _)
    · exact h2 x e
theorem foldl_min_mem : ∀ (l : List Nat) (b : Nat), l.foldl min b = b ∨ l.foldl min b ∈ l
  | [], b => .inl rfl
  | a :: l, b => by
    show l.foldl min (min b a) = b ∨ l.foldl min (min b a) ∈ a :: l
    rcases foldl_min_mem l (min b a) with e | e
    · rw [e]
      rcases Nat.le_total b a with h | h
      · exact .inl (Nat.min_eq_left h)
      · exact .inr (by rw [Nat.min_eq_right h]; exact List.mem_cons_self)
    · exact .inr (List.mem_cons_of_mem _ e)
theorem least_is {q : Nat} {g : G} {t : List Nat} {M : Nat} (hM : M ∈ counts q g t) (hl : ∀ y ∈ counts q g t, M ≤ y) : M = Sn88.least q g t := by
  unfold Sn88.least
  rw [← counts_rows]
  obtain ⟨h1, h2⟩ := foldl_min_le (counts q g t) g.length
  refine Nat.le_antisymm ?_ (h2 M hM)
  rcases foldl_min_mem (counts q g t) g.length with e | e
  · rw [e]
    unfold counts at hM
    obtain ⟨r, _, e2⟩ := List.mem_map.mp hM
    rw [← e2]
    exact hits_le _ _ _ _
  · exact hl _ e

/-! ### who sees whom -/
theorem isGraph_iff {n : Nat} {g : G} : isGraph n g = true ↔ g.length = n ∧ ∀ v, v < n → g.getD v 0 < 2 ^ n ∧ joined g v v = false ∧ ∀ u, u < n → joined g v u = true → joined g u v = true := by
  unfold isGraph
  simp only [Bool.and_eq_true, beq_iff_eq, List.all_eq_true, List.mem_range, decide_eq_true_eq, Bool.not_eq_true']
  constructor
  · rintro ⟨h, k⟩
    refine ⟨h, fun v hv => ?_⟩
    obtain ⟨a, b, c⟩ := k v hv
    exact ⟨a, b, fun u hu e => by rw [← c u hu]; exact e⟩
  · rintro ⟨h, k⟩
    refine ⟨h, fun v hv => ?_⟩
    obtain ⟨a, b, c⟩ := k v hv
    refine ⟨a, b, fun u hu => ?_⟩
    cases e : joined g v u with
    | true => exact (c u hu e).symm
    | false =>
      cases e2 : joined g u v with
      | false => rfl
      | true =>
        rw [(k u hu).2.2 v hv e2] at e
        cases e
theorem start_succ (q : Nat) (g : G) (v : Nat) : start q g (v + 1) = start q g v + q ^ (seen g v).length := by
  unfold start
  rw [List.range_succ, List.map_append, List.sum_append]
  simp
theorem seen_lt {g : G} {v u : Nat} (h : u ∈ seen g v) : u < g.length := by
  unfold seen at h
  exact List.mem_range.mp (List.mem_filter.mp h).1
theorem seen_len (g : G) (v : Nat) : (seen g v).length ≤ g.length := by
  unfold seen
  refine Nat.le_trans (List.length_filter_le _ _) ?_
  rw [List.length_range]
  exact Nat.le_refl _
theorem entry_lt {q : Nat} {g : G} {v : Nat} {c : List Nat} (hc : ∀ u, u < g.length → c.getD u 0 < q) : entry q g v c < q ^ (seen g v).length := by
  unfold entry
  have : ∀ l : List Nat, (∀ u ∈ l, u < g.length) → l.foldr (fun u s => c.getD u 0 + q * s) 0 < q ^ l.length := by
    intro l
    induction l with
    | nil => intro _; exact Nat.one_pos
    | cons a l ih =>
      intro h
      have h1 := ih fun u hu => h u (List.mem_cons_of_mem _ hu)
      have h2 := hc a (h a List.mem_cons_self)
      show c.getD a 0 + q * _ < q ^ (l.length + 1)
      rw [Nat.pow_succ']
      calc c.getD a 0 + q * l.foldr (fun u s => c.getD u 0 + q * s) 0 < q + q * l.foldr (fun u s => c.getD u 0 + q * s) 0 := by omega
        _ = q * (l.foldr (fun u s => c.getD u 0 + q * s) 0 + 1) := by rw [Nat.mul_add, Nat.mul_one, Nat.add_comm]
        _ ≤ q * q ^ l.length := Nat.mul_le_mul_left _ h1
  exact this _ fun u hu => seen_lt hu
theorem rowOf_lt {q n r : Nat} (hq : 0 < q) (u : Nat) : (rowOf q n r).getD u 0 < q := by
  rw [List.getD_eq_getElem?_getD]
  cases e : (rowOf q n r)[u]? with
  | none => exact hq
  | some x =>
    have h := List.mem_of_getElem? e
    unfold rowOf at h
    rw [List.mem_reverse] at h
    obtain ⟨i, _, e2⟩ := List.mem_map.mp h
    subst e2
    exact Nat.mod_lt _ hq
theorem start_le {q : Nat} {g : G} : ∀ {m v : Nat}, v ≤ m → start q g v ≤ start q g m
  | 0, v, h => by
    have : v = 0 := by omega
    subst this
    exact Nat.le_refl _
  | m + 1, v, h => by
    by_cases e : v = m + 1
    · subst e
      exact Nat.le_refl _
    · rw [start_succ]
      exact Nat.le_trans (start_le (m := m) (by omega)) (Nat.le_add_right _ _)
/-- the place of the guess stands within the table -/
theorem place_lt {q : Nat} {g : G} {v : Nat} {c : List Nat} {n : Nat} (hv : v < n) (hc : ∀ u, u < g.length → c.getD u 0 < q) : start q g v + entry q g v c < start q g n := by
  have h1 := entry_lt (v := v) hc
  have h2 : start q g (v + 1) ≤ start q g n := start_le hv
  rw [start_succ] at h2
  omega
theorem pow_small {q k : Nat} (hq : q ≤ 4) (hk : k ≤ 6) : q ^ k ≤ 4096 :=
  Nat.le_trans (Nat.pow_le_pow_left hq k) (Nat.le_trans (Nat.pow_le_pow_right (by decide) hk) (by decide))
theorem start_small {q : Nat} {g : G} (hq : q ≤ 4) (hg : g.length ≤ 6) : ∀ v, start q g v ≤ v * 4096
  | 0 => by simp [start]
  | v + 1 => by
    have h1 := start_small hq hg v
    have h2 : q ^ (seen g v).length ≤ 4096 := pow_small hq (Nat.le_trans (seen_len g v) hg)
    rw [start_succ]
    omega
/-- the first so many hits -/
def hitsTo (q : Nat) (g : G) (t : List Nat) (c : List Nat) (i : Nat) : Nat := ((List.range i).filter fun v => guess q g t v c == c.getD v 0).length
theorem hitsTo_succ (q : Nat) (g : G) (t : List Nat) (c : List Nat) (i : Nat) : hitsTo q g t c (i + 1) = hitsTo q g t c i + if guess q g t i c = c.getD i 0 then 1 else 0 := by
  unfold hitsTo
  rw [List.range_succ, List.filter_append, List.length_append]
  congr 1
  by_cases h : guess q g t i c = c.getD i 0
  · rw [if_pos h, List.filter_cons, if_pos (beq_iff_eq.mpr h)]
    rfl
  · rw [if_neg h, List.filter_cons, if_neg (fun z => h (beq_iff_eq.mp z))]
    rfl
theorem hitsTo_le (q : Nat) (g : G) (t : List Nat) (c : List Nat) (i : Nat) : hitsTo q g t c i ≤ i := by
  unfold hitsTo
  refine Nat.le_trans (List.length_filter_le _ _) ?_
  rw [List.length_range]
  exact Nat.le_refl _

/-! ### a call's refusal -/
def refusal (n q len : Int) (g : G) (t : List Nat) : Int := if tableOk n q len = false then -2 else if tableGood n q g len t = false then -3 else 0
theorem tableOk_iff {n q len : Int} : tableOk n q len = true ↔ (1 ≤ n ∧ n ≤ 6) ∧ (1 ≤ q ∧ q ≤ 4) ∧ (0 ≤ len ∧ len ≤ 8192) := by
  unfold tableOk between
  simp only [Bool.and_eq_true, decide_eq_true_eq]
theorem nats_cast (l : List Nat) : Sn88Neutral.nats (l.map fun (x : Nat) => (x : Int)) = l := by
  unfold Sn88Neutral.nats
  rw [List.map_map]
  conv => rhs; rw [← List.map_id l]
  apply List.map_congr_left
  intro x _
  rfl
theorem cast_nats {l : List Int} (h : ∀ x ∈ l, 0 ≤ x) : l = (Sn88Neutral.nats l).map fun (x : Nat) => (x : Int) := by
  unfold Sn88Neutral.nats
  rw [List.map_map]
  conv => lhs; rw [← List.map_id l]
  apply List.map_congr_left
  intro x hx
  exact (Int.toNat_of_nonneg (h x hx)).symm
def outs (l : List Nat) : List Int := l.map fun (x : Nat) => (x : Int)
theorem misses_is (n q len : Int) (g t : List Nat) : PySn88.misses n q len (outs g) (outs t) =
    if refusal n q len g t < 0 then [refusal n q len g t] else ((Sn88.misses q.toNat g t).length : Int) :: outs ((Sn88.misses q.toNat g t).headD []) := by
  have e : PySn88.misses n q len (outs g) (outs t) = (match Sn88Neutral.answered (.misses n q (Sn88Neutral.nats (outs g)) len (Sn88Neutral.nats (outs t))) with
    | some a => a.v :: a.l.map fun (x : Nat) => (x : Int)
    | none => []) := rfl
  rw [e]
  unfold outs
  rw [nats_cast, nats_cast]
  unfold refusal
  show (if _ then _ else if _ then _ else _ : Ans).v :: (if _ then _ else if _ then _ else _ : Ans).l.map _ = _
  cases h1 : tableOk n q len with
  | false => rfl
  | true =>
    cases h2 : tableGood n q g len t with
    | false => rfl
    | true => rfl
theorem least_eq (n q len : Int) (g t : List Nat) : PySn88.least n q len (outs g) (outs t) =
    if refusal n q len g t < 0 then [refusal n q len g t] else [(Sn88.least q.toNat g t : Int)] := by
  have e : PySn88.least n q len (outs g) (outs t) = (match Sn88Neutral.answered (.least n q (Sn88Neutral.nats (outs g)) len (Sn88Neutral.nats (outs t))) with
    | some a => a.v :: a.l.map fun (x : Nat) => (x : Int)
    | none => []) := rfl
  rw [e]
  unfold outs
  rw [nats_cast, nats_cast]
  unfold refusal
  show (if _ then _ else if _ then _ else _ : Ans).v :: (if _ then _ else if _ then _ else _ : Ans).l.map _ = _
  cases h1 : tableOk n q len with
  | false => rfl
  | true =>
    cases h2 : tableGood n q g len t with
    | false => rfl
    | true => rfl
end Hb

set_option Elab.async false
/-! what is due of line, pass, code: closed forms (no program here) -/
namespace Hb
open Sn88
/-! ### line -/
theorem line_nil (q : Nat) (heard : List Nat) : line q heard [] = heard := rfl
theorem line_cons (q : Nat) (heard r : List Nat) (x : Nat) : line q heard (x :: r) = line q (heard ++ [says q heard r]) r := rfl
/-- one in the middle says their own hat: first = what the others' hats leave, b: those said since -/
theorem says_own {q a x : Nat} {b r : List Nat} (hx : x < q) (ha : a = (b.sum + x + r.sum) % q) : says q (a :: b) r = x := by
  show (((a : Int) - (b.sum : Int) - (r.sum : Int)) % (q : Int)).toNat = x
  have e : (((a : Int) - (b.sum : Int) - (r.sum : Int)) % (q : Int)) = (x : Int) := by
    have h1 : (a : Int) = ((b.sum : Int) + (x : Int) + (r.sum : Int)) % (q : Int) := by
      rw [ha]
      rw [Int.natCast_emod, Int.natCast_add, Int.natCast_add]
    have h2 : ((b.sum : Int) + (x : Int) + (r.sum : Int)) = (q : Int) * (((b.sum : Int) + (x : Int) + (r.sum : Int)) / (q : Int)) + (a : Int) := by
      rw [h1]
      exact (Int.mul_ediv_add_emod _ _).symm
    have h3 : (a : Int) - (b.sum : Int) - (r.sum : Int) = (x : Int) + (q : Int) * (-(((b.sum : Int) + (x : Int) + (r.sum : Int)) / (q : Int))) := by
      rw [Int.mul_neg]
      omega
    rw [h3, Int.add_mul_emod_self_left]
    exact Int.emod_eq_of_lt (by omega) (by omega)
  rw [e]
  rfl
theorem line_go {q a : Nat} : ∀ (r b : List Nat), (∀ x ∈ r, x < q) → a = (b.sum + r.sum) % q → line q (a :: b) r = (a :: b) ++ r
  | [], b, _, _ => by rw [line_nil, List.append_nil]
  | x :: r, b, h, ha => by
    have hx : x < q := h x List.mem_cons_self
    rw [line_cons, says_own hx (by rw [ha, List.sum_cons, Nat.add_assoc])]
    show line q (a :: (b ++ [x])) r = _
    rw [line_go r (b ++ [x]) (fun y hy => h y (List.mem_cons_of_mem _ hy)) (by
      rw [ha, List.sum_cons, List.sum_append, List.sum_cons, List.sum_nil]
      congr 1
      omega)]
    simp
/-- all that's said along a line of colours: what the others leave, then each their own hat -/
theorem line_is {q x : Nat} {r : List Nat} (h : ∀ y ∈ r, y < q) : line q [] (x :: r) = (r.sum % q) :: r := by
  show line q ([] ++ [says q [] r]) r = _
  show line q [r.sum % q] r = _
  rw [line_go r [] h (by simp)]
  rfl
theorem line_is_nil (q : Nat) : line q [] [] = [] := rfl

/-! ### code -/
def xors (l : List Nat) : Nat := l.foldl (fun s i => Nat.xor s (i + 1)) 0
theorem xors_from (l : List Nat) : ∀ s : Nat, l.foldl (fun s i => Nat.xor s (i + 1)) s = s ^^^ xors l := by
  induction l with
  | nil => intro s; exact (Nat.xor_zero s).symm
  | cons a l ih =>
    intro s
    unfold xors
    rw [List.foldl_cons, List.foldl_cons, ih, ih (Nat.xor 0 (a + 1))]
    show (s ^^^ (a + 1)) ^^^ xors l = s ^^^ ((0 ^^^ (a + 1)) ^^^ xors l)
    rw [Nat.zero_xor, Nat.xor_assoc]
theorem xors_append (a b : List Nat) : xors (a ++ b) = xors a ^^^ xors b := by
  show (a ++ b).foldl _ 0 = _
  rw [List.foldl_append, xors_from]
  rfl
/-- the numbers of the first m persons with a 1 -/
def notedTo (c : List Nat) (m : Nat) : Nat := xors ((List.range m).filter fun i => c.getD i 0 == 1)
theorem notedTo_zero (c : List Nat) : notedTo c 0 = 0 := rfl
theorem notedTo_succ (c : List Nat) (m : Nat) : notedTo c (m + 1) = if c.getD m 0 = 1 then notedTo c m ^^^ (m + 1) else notedTo c m := by
  unfold notedTo
  rw [List.range_succ, List.filter_append, xors_append]
  by_cases h : c.getD m 0 = 1
  · rw [if_pos h, List.filter_cons, if_pos (beq_iff_eq.mpr h)]
    congr 1
    show Nat.xor 0 (m + 1) = m + 1
    exact Nat.zero_xor _
  · rw [if_neg h, List.filter_cons, if_neg (fun z => h (beq_iff_eq.mp z))]
    exact Nat.xor_zero _
theorem noted_is (c : List Nat) : noted c = notedTo c c.length := rfl
theorem notedTo_set (c : List Nat) (i : Nat) (hi : i < c.length) : ∀ m : Nat, notedTo (c.set i 0) m = if i < m ∧ c.getD i 0 = 1 then notedTo c m ^^^ (i + 1) else notedTo c m
  | 0 => by
    rw [if_neg (fun h => absurd h.1 (Nat.not_lt_zero i))]
    rfl
  | m + 1 => by
    have ih := notedTo_set c i hi m
    rw [notedTo_succ, notedTo_succ, ih]
    by_cases e : m = i
    · subst e
      have e1 : (c.set m 0).getD m 0 = 0 := by
        rw [List.getD_eq_getElem?_getD, List.getElem?_set_self hi]
        rfl
      rw [e1, if_neg (by decide), if_neg (fun h => absurd h.1 (Nat.lt_irrefl m))]
      by_cases h : c.getD m 0 = 1
      · have h' : m < m + 1 ∧ c.getD m 0 = 1 := ⟨Nat.lt_succ_self m, h⟩
        rw [if_pos h', if_pos h, Nat.xor_assoc, Nat.xor_self, Nat.xor_zero]
      · have h' : ¬ (m < m + 1 ∧ c.getD m 0 = 1) := fun z => h z.2
        rw [if_neg h', if_neg h]
    · have e1 : (c.set i 0).getD m 0 = c.getD m 0 := by
        rw [List.getD_eq_getElem?_getD, List.getD_eq_getElem?_getD, List.getElem?_set_ne (fun z => e z.symm)]
      rw [e1]
      have p1 : (i < m + 1 ∧ c.getD i 0 = 1) ↔ (i < m ∧ c.getD i 0 = 1) := ⟨fun z => ⟨by omega, z.2⟩, fun z => ⟨by omega, z.2⟩⟩
      by_cases hA : i < m ∧ c.getD i 0 = 1
      · by_cases hB : c.getD m 0 = 1
        · rw [if_pos hB, if_pos hA, if_pos (p1.mpr hA), if_pos hB, Nat.xor_assoc, Nat.xor_assoc, Nat.xor_comm (i + 1)]
        · rw [if_neg hB, if_pos hA, if_pos (p1.mpr hA), if_neg hB]
      · by_cases hB : c.getD m 0 = 1
        · rw [if_pos hB, if_neg hA, if_neg (fun z => hA (p1.mp z)), if_pos hB]
        · rw [if_neg hB, if_neg hA, if_neg (fun z => hA (p1.mp z)), if_neg hB]
/-- what the others have: all, without one's own number if one's hat is 1 -/
theorem noted_others (c : List Nat) (i : Nat) (hi : i < c.length) : noted (c.set i 0) = if c.getD i 0 = 1 then noted c ^^^ (i + 1) else noted c := by
  rw [noted_is, noted_is, List.length_set, notedTo_set c i hi]
  by_cases h : c.getD i 0 = 1
  · rw [if_pos ⟨hi, h⟩, if_pos h]
  · rw [if_neg (fun z => h z.2), if_neg h]
theorem notedTo_lt {c : List Nat} {r : Nat} : ∀ {m : Nat}, m < 2 ^ r → notedTo c m < 2 ^ r
  | 0, h => h
  | m + 1, h => by
    rw [notedTo_succ]
    have ih := notedTo_lt (c := c) (r := r) (m := m) (by omega)
    split
    · exact Nat.xor_lt_two_pow ih h
    · exact ih
def guessOf (s i : Nat) : Nat := if s = 0 then 1 else if s = i + 1 then 0 else 2
theorem code_is (c : List Nat) : code c = (List.range c.length).map fun i => guessOf (noted (c.set i 0)) i := rfl

/-! ### pass -/
theorem crowd_len (n : Nat) : (crowd n).length = n := by
  unfold crowd
  rw [List.length_map, List.length_range]
theorem crowd_at {n v : Nat} (hv : v < n) : (crowd n).getD v 0 = 2 ^ n - 1 - 2 ^ v := by
  unfold crowd
  rw [List.getD_eq_getElem?_getD, List.getElem?_map, List.getElem?_range hv]
  rfl
theorem crowd_bit : ∀ n, n < 9 → ∀ v, v < n → ∀ u, u < n → (2 ^ n - 1 - 2 ^ v).testBit u = (decide (u = v) == false) := by decide
theorem crowd_joined {n v u : Nat} (hn : n < 9) (hv : v < n) (hu : u < n) : joined (crowd n) v u = (decide (u = v) == false) := by
  unfold joined
  rw [crowd_at hv]
  exact crowd_bit n hn v hv u hu
theorem crowd_seen {n v : Nat} (hn : n < 9) (hv : v < n) : seen (crowd n) v = (List.range n).filter fun u => decide (u = v) == false := by
  unfold seen
  rw [crowd_len]
  apply List.filter_congr
  intro u hu
  exact crowd_joined hn hv (List.mem_range.mp hu)
theorem others_len : ∀ n, n < 9 → ∀ v, v < n → ((List.range n).filter fun u => decide (u = v) == false).length = n - 1 := by decide
theorem crowd_seen_len {n v : Nat} (hn : n < 9) (hv : v < n) : (seen (crowd n) v).length = n - 1 := by
  rw [crowd_seen hn hv]
  exact others_len n hn v hv
theorem crowd_start {n q : Nat} (hn : n < 9) : ∀ v, v ≤ n → start q (crowd n) v = v * q ^ (n - 1)
  | 0, _ => by simp [start]
  | v + 1, h => by
    rw [start_succ, crowd_start hn v (by omega), crowd_seen_len hn (by omega), Nat.succ_mul]
end Hb

set_option Elab.async false
/-! won rows of pass, counted row by row (no program here) -/
namespace Hb
open Sn88
def guessesTo (q : Nat) (g t c : List Nat) (i : Nat) : List Nat := (List.range i).map fun v => guess q g t v c
theorem guessesTo_succ (q : Nat) (g t c : List Nat) (i : Nat) : guessesTo q g t c (i + 1) = guessesTo q g t c i ++ [guess q g t i c] := by
  unfold guessesTo
  rw [List.range_succ, List.map_append]
  rfl
theorem guessesTo_len (q : Nat) (g t c : List Nat) (i : Nat) : (guessesTo q g t c i).length = i := by
  unfold guessesTo
  rw [List.length_map, List.length_range]
theorem guessesTo_at {q : Nat} {g t c : List Nat} {i v : Nat} (h : v < i) : (guessesTo q g t c i).getD v 0 = guess q g t v c := by
  unfold guessesTo
  rw [List.getD_eq_getElem?_getD, List.getElem?_map, List.getElem?_range h]
  rfl
/-- who are right among the first i, l what each says, c what each wears -/
def rightTo (l c : List Nat) (i : Nat) : List Nat := (List.range i).filter fun v => l.getD v 0 == c.getD v 0
theorem rightTo_succ (l c : List Nat) (i : Nat) : rightTo l c (i + 1) = rightTo l c i ++ if l.getD i 0 = c.getD i 0 then [i] else [] := by
  unfold rightTo
  rw [List.range_succ, List.filter_append, List.filter_cons]
  by_cases h : l.getD i 0 = c.getD i 0
  · rw [if_pos (beq_iff_eq.mpr h), if_pos h]
    rfl
  · rw [if_neg (fun z => h (beq_iff_eq.mp z)), if_neg h]
    rfl
theorem rightTo_len (l c : List Nat) (i : Nat) : (rightTo l c i).length ≤ i := by
  unfold rightTo
  refine Nat.le_trans (List.length_filter_le _ _) ?_
  rw [List.length_range]
  exact Nat.le_refl _
theorem hits_right (q : Nat) (g t c : List Nat) : hits q g t c = (rightTo (guessesTo q g t c g.length) c g.length).length := by
  unfold hits rightTo
  congr 1
  apply List.filter_congr
  intro v hv
  rw [guessesTo_at (List.mem_range.mp hv)]
/-- one right at least, and all right or passing -/
def wonB (l c : List Nat) : Bool := decide (0 < (rightTo l c l.length).length) && decide ((rightTo l c l.length).length + l.count 2 = l.length)
theorem both_len {f h : Nat → Bool} : ∀ {l : List Nat}, (∀ x ∈ l, f x = true → h x = false) → (l.filter f).length + (l.filter h).length = (l.filter fun x => f x || h x).length
  | [], _ => rfl
  | a :: l, d => by
    have ih := both_len (f := f) (h := h) (l := l) fun x hx => d x (List.mem_cons_of_mem _ hx)
    have da := d a List.mem_cons_self
    rw [List.filter_cons, List.filter_cons, List.filter_cons]
    cases ef : f a with
    | true =>
      rw [da ef]
      simp only [Bool.or_false, if_true, List.length_cons]
      simp
      omega
    | false =>
      cases eh : h a with
      | true =>
        simp
        omega
      | false =>
        simp
        omega
theorem all_len {f : Nat → Bool} : ∀ {l : List Nat}, ((l.filter f).length = l.length) = (l.all f = true)
  | [] => by simp
  | a :: l => by
    have ih := all_len (f := f) (l := l)
    have le := List.length_filter_le f l
    rw [List.filter_cons, List.all_cons]
    cases ef : f a with
    | true => simpa using ih
    | false =>
      simp
      omega
theorem count_map (f : Nat → Nat) (a : Nat) : ∀ l : List Nat, (l.map f).count a = (l.filter fun x => f x == a).length
  | [] => rfl
  | x :: l => by
    rw [List.map_cons, List.count_cons, List.filter_cons, count_map f a l]
    cases h : (f x == a) with
    | true => simp
    | false => simp
theorem pos_any {f : Nat → Bool} : ∀ {l : List Nat}, decide (0 < (l.filter f).length) = l.any f
  | [] => rfl
  | a :: l => by
    rw [List.filter_cons, List.any_cons]
    cases ef : f a with
    | true => simp
    | false => simpa using pos_any (f := f) (l := l)
theorem won_is {n : Nat} {t c : List Nat} (hc : ∀ u, u < n → c.getD u 0 < 2) : wonB (guessesTo 2 (crowd n) t c n) c = won n t c := by
  have el := guessesTo_len 2 (crowd n) t c n
  have er : rightTo (guessesTo 2 (crowd n) t c n) c n = (List.range n).filter fun v => guess 2 (crowd n) t v c == c.getD v 0 := by
    unfold rightTo
    apply List.filter_congr
    intro v hv
    rw [guessesTo_at (List.mem_range.mp hv)]
  have ec : (guessesTo 2 (crowd n) t c n).count 2 = ((List.range n).filter fun v => guess 2 (crowd n) t v c == 2).length := count_map _ _ _
  unfold wonB won
  rw [el, er, ec, pos_any, both_len]
  · congr 1
    rw [Bool.eq_iff_iff, decide_eq_true_iff]
    have z := all_len (f := fun v => guess 2 (crowd n) t v c == c.getD v 0 || guess 2 (crowd n) t v c == 2) (l := List.range n)
    rw [List.length_range] at z
    rw [z]
  · intro v hv h
    have h1 := hc v (List.mem_range.mp hv)
    have h2 := beq_iff_eq.mp h
    refine beq_eq_false_iff_ne.mpr ?_
    omega
/-- the won rows among the first i -/
def wonTo (n : Nat) (t : List Nat) (i : Nat) : Nat := ((List.range i).filter fun r => won n t (rowOf 2 n r)).length
theorem wonTo_succ (n : Nat) (t : List Nat) (i : Nat) : wonTo n t (i + 1) = wonTo n t i + if won n t (rowOf 2 n i) = true then 1 else 0 := by
  unfold wonTo
  rw [List.range_succ, List.filter_append, List.length_append, List.filter_cons]
  cases h : won n t (rowOf 2 n i) with
  | true => rfl
  | false => rfl
theorem wonTo_all (n : Nat) (t : List Nat) : ((rows 2 n).filter (won n t)).length = wonTo n t (2 ^ n) := by
  rw [rows_eq, List.filter_map, List.length_map]
  rfl
/-! ### what is due -/
def lineIs (n q : Int) (c : List Nat) : List Int := if lineOk n q = false then [-2] else if below n.toNat q.toNat c = false then [-3] else 0 :: outs (Sn88.line q.toNat [] c)
theorem line_due (n q : Int) (c : List Nat) : PySn88.line n q (outs c) = lineIs n q c := by
  have e : PySn88.line n q (outs c) = (match Sn88Neutral.answered (.line n q (Sn88Neutral.nats (outs c))) with
    | some a => a.v :: a.l.map fun (x : Nat) => (x : Int)
    | none => []) := rfl
  rw [e]
  unfold outs
  rw [nats_cast]
  show (if _ then _ else if _ then _ else _ : Ans).v :: (if _ then _ else if _ then _ else _ : Ans).l.map _ = _
  unfold lineIs
  cases h1 : lineOk n q with
  | false => rfl
  | true =>
    cases h2 : below n.toNat q.toNat c with
    | false => rfl
    | true => rfl
def passIs (n : Int) (t : List Nat) : List Int := if between n 1 8 = false then [-2] else if passGood n t = false then [-3] else [((wonTo n.toNat t (2 ^ n.toNat) : Nat) : Int)]
theorem pass_due (n : Int) (t : List Nat) : PySn88.passing n (outs t) = passIs n t := by
  have e : PySn88.passing n (outs t) = (match Sn88Neutral.answered (.pass n (Sn88Neutral.nats (outs t))) with
    | some a => a.v :: a.l.map fun (x : Nat) => (x : Int)
    | none => []) := rfl
  rw [e]
  unfold outs
  rw [nats_cast]
  show (if _ then _ else if _ then _ else _ : Ans).v :: (if _ then _ else if _ then _ else _ : Ans).l.map _ = _
  unfold passIs
  rw [← wonTo_all]
  cases h1 : between n 1 8 with
  | false => rfl
  | true =>
    cases h2 : passGood n t with
    | false => rfl
    | true => rfl
end Hb

set_option Elab.async false
/-! orders, and the rounds in which their boxes lie (no program here) -/
namespace Hb
open Sn88
/-! ### lists of all numbers -/
theorem perm_range : ∀ (n : Nat) (l : List Nat), l.length = n → (∀ i, i < n → i ∈ l) → l.Perm (List.range n)
  | 0, l, hl, _ => by
    have e : l = [] := List.eq_nil_of_length_eq_zero hl
    subst e
    exact List.Perm.refl _
  | n + 1, l, hl, h => by
    have hm : n ∈ l := h n (Nat.lt_succ_self n)
    have p1 := List.perm_cons_erase hm
    have hl2 : (l.erase n).length = n := by
      rw [List.length_erase_of_mem hm, hl]
      rfl
    have ih := perm_range n (l.erase n) hl2 fun i hi => (List.mem_erase_of_ne (Nat.ne_of_lt hi)).mpr (h i (by omega))
    rw [List.range_succ]
    exact (p1.trans (List.Perm.cons n ih)).trans (List.perm_append_comm (l₁ := [n]) (l₂ := List.range n))
theorem order_perm {n : Nat} {p : List Nat} (h : isOrder n p = true) : p.Perm (List.range n) := by
  unfold isOrder at h
  simp only [Bool.and_eq_true, beq_iff_eq, List.all_eq_true, List.mem_range] at h
  exact perm_range n p h.1 fun i hi => List.contains_iff_mem.mp (h.2 i hi)
theorem order_of {n : Nat} {p : List Nat} (hl : p.length = n) (h : ∀ i, i < n → i ∈ p) : isOrder n p = true := by
  unfold isOrder
  simp only [Bool.and_eq_true, beq_iff_eq, List.all_eq_true, List.mem_range]
  exact ⟨hl, fun i hi => List.contains_iff_mem.mpr (h i hi)⟩
theorem order_len {n : Nat} {p : List Nat} (h : isOrder n p = true) : p.length = n := by
  rw [(order_perm h).length_eq, List.length_range]
/-- a function that stays below n and hits nothing twice -/
structure Inj (n : Nat) (f : Nat → Nat) : Prop where
  lt : ∀ i, i < n → f i < n
  inj : ∀ i j, i < n → j < n → f i = f j → i = j
def fn (p : List Nat) : Nat → Nat := fun x => p.getD x 0
theorem fn_at {p : List Nat} {i : Nat} (h : i < p.length) : fn p i = p[i] := by
  unfold fn
  rw [List.getD_eq_getElem?_getD, List.getElem?_eq_getElem h]
  rfl
theorem order_inj {n : Nat} {p : List Nat} (h : isOrder n p = true) : Inj n (fn p) := by
  have pm := order_perm h
  have hl := order_len h
  have nd : p.Nodup := pm.nodup_iff.mpr List.nodup_range
  refine ⟨fun i hi => ?_, fun i j hi hj e => ?_⟩
  · rw [fn_at (by omega)]
    exact List.mem_range.mp (pm.mem_iff.mp (List.getElem_mem _))
  · rw [fn_at (by omega), fn_at (by omega)] at e
    exact (List.getElem_inj nd).mp e
/-! ### from box to box -/
def al (f : Nat → Nat) (i : Nat) : Nat → Nat
  | 0 => i
  | k + 1 => f (al f i k)
theorem along_is (p : List Nat) (i : Nat) : ∀ k, along p i k = al (fn p) i k
  | 0 => rfl
  | k + 1 => by
    show p.getD (along p i k) 0 = fn p (al (fn p) i k)
    rw [along_is p i k]
    rfl
theorem al_add (f : Nat → Nat) (i a : Nat) : ∀ b, al f i (a + b) = al f (al f i a) b
  | 0 => rfl
  | b + 1 => by
    show f (al f i (a + b)) = f (al f (al f i a) b)
    rw [al_add f i a b]
section
variable {n : Nat} {f : Nat → Nat} (F : Inj n f)
include F
theorem al_lt {i : Nat} (hi : i < n) : ∀ k, al f i k < n
  | 0 => hi
  | k + 1 => F.lt _ (al_lt hi k)
theorem al_inj {i j : Nat} (hi : i < n) (hj : j < n) : ∀ k, al f i k = al f j k → i = j
  | 0, e => e
  | k + 1, e => al_inj hi hj k (F.inj _ _ (al_lt F hi k) (al_lt F hj k) e)
omit F in
theorem short_of_nodup : ∀ (n : Nat) (l : List Nat), l.Nodup → (∀ x ∈ l, x < n) → l.length ≤ n
  | 0, l, _, h => by
    cases l with
    | nil => exact Nat.le_refl _
    | cons a l => exact absurd (h a List.mem_cons_self) (Nat.not_lt_zero a)
  | n + 1, l, nd, h => by
    have ih := short_of_nodup n (l.erase n) (nd.erase n) fun x hx => by
      have h1 := nd.mem_erase_iff.mp hx
      have h2 := h x h1.2
      have h3 := h1.1
      omega
    have := List.le_length_erase (l := l) (a := n)
    omega
/-- one comes back -/
theorem comes_back {i : Nat} (hi : i < n) : ∃ m, 1 ≤ m ∧ m ≤ n ∧ al f i m = i := by
  by_cases h : ∃ m, 1 ≤ m ∧ m ≤ n ∧ al f i m = i
  · exact h
  · exfalso
    have nd : ((List.range (n + 1)).map (al f i)).Nodup := by
      rw [List.nodup_iff_pairwise_ne, List.pairwise_map]
      refine List.Pairwise.imp_of_mem ?_ (List.pairwise_lt_range (n := n + 1))
      intro a b ha hb hab e
      have hb' := List.mem_range.mp hb
      refine h ⟨b - a, by omega, by omega, ?_⟩
      have e2 : al f i b = al f (al f i (b - a)) a := by
        rw [← al_add]
        congr 1
        omega
      rw [e2] at e
      exact (al_inj F hi (al_lt F hi _) a e).symm
    have := short_of_nodup n _ nd fun x hx => by
      obtain ⟨k, _, e⟩ := List.mem_map.mp hx
      rw [← e]
      exact al_lt F hi k
    rw [List.length_map, List.length_range] at this
    omega
end
/-- in so many steps one is back for the first time -/
structure Back1 (f : Nat → Nat) (i m : Nat) : Prop where
  pos : 1 ≤ m
  back : al f i m = i
  first : ∀ k, 1 ≤ k → k < m → al f i k ≠ i
theorem Back1.unique {f : Nat → Nat} {i m m' : Nat} (a : Back1 f i m) (b : Back1 f i m') : m = m' := by
  rcases Nat.lt_trichotomy m m' with h | h | h
  · exact absurd a.back (b.first m a.pos h)
  · exact h
  · exact absurd b.back (a.first m' b.pos h)
/-- how long the round is on which i lies -/
def rnd (n : Nat) (f : Nat → Nat) (i : Nat) : Nat := (((List.range n).map fun k => k + 1).find? fun k => al f i k == i).getD 0
theorem opens_is {n : Nat} {p : List Nat} (hl : p.length = n) (i : Nat) : opens p i = rnd n (fn p) i := by
  unfold opens rnd
  rw [hl]
  congr 2
  funext k
  rw [along_is]
section
variable {n : Nat} {f : Nat → Nat} (F : Inj n f)
include F
theorem rnd_back {i : Nat} (hi : i < n) : Back1 f i (rnd n f i) ∧ rnd n f i ≤ n := by
  unfold rnd
  rw [List.find?_map]
  cases e : (List.range n).find? ((fun k => al f i k == i) ∘ fun k => k + 1) with
  | none =>
    exfalso
    obtain ⟨m, h1, h2, h3⟩ := comes_back F hi
    have := List.find?_eq_none.mp e (m - 1) (List.mem_range.mpr (by omega))
    apply this
    show (al f i (m - 1 + 1) == i) = true
    rw [Nat.sub_add_cancel h1, h3]
    exact beq_self_eq_true i
  | some j =>
    obtain ⟨h1, h2, h3⟩ := List.find?_range_eq_some.mp e
    show Back1 f i (j + 1) ∧ j + 1 ≤ n
    refine ⟨⟨by omega, beq_iff_eq.mp h1, fun k k1 k2 z => ?_⟩, List.mem_range.mp h2⟩
    have h4 := h3 (k - 1) (by omega)
    have h5 : ((fun k => al f i k == i) ∘ fun k => k + 1) (k - 1) = true := by
      show (al f i (k - 1 + 1) == i) = true
      rw [Nat.sub_add_cancel k1, z]
      exact beq_self_eq_true i
    rw [h5] at h4
    cases h4
theorem rnd_is {i m : Nat} (hi : i < n) (h : Back1 f i m) : rnd n f i = m := (rnd_back F hi).1.unique h
/-- on one round nothing is met twice -/
theorem al_ne {i a b : Nat} (hi : i < n) (hab : a < b) (hb : b < rnd n f i) : al f i a ≠ al f i b := by
  intro e
  have e2 : al f i b = al f (al f i (b - a)) a := by
    rw [← al_add]
    congr 1
    omega
  rw [e2] at e
  exact (rnd_back F hi).1.first (b - a) (by omega) (by omega) (al_inj F hi (al_lt F hi _) a e).symm
/-- who lies on one round has one length -/
theorem rnd_along {i : Nat} (hi : i < n) (a : Nat) : rnd n f (al f i a) = rnd n f i := by
  have hb := (rnd_back F hi).1
  refine rnd_is F (al_lt F hi a) ⟨hb.pos, ?_, fun k k1 k2 e => ?_⟩
  · rw [← al_add, Nat.add_comm, al_add, hb.back]
  · rw [← al_add, Nat.add_comm, al_add] at e
    exact hb.first k k1 k2 (al_inj F (al_lt F hi k) hi a e)
theorem al_mul {i : Nat} (hi : i < n) : ∀ t, al f i (rnd n f i * t) = i
  | 0 => rfl
  | t + 1 => by rw [Nat.mul_succ, al_add, al_mul hi t, (rnd_back F hi).1.back]
theorem al_mod {i : Nat} (hi : i < n) (a : Nat) : al f i (a % rnd n f i) = al f i a := by
  have e : a = rnd n f i * (a / rnd n f i) + a % rnd n f i := (Nat.div_add_mod _ _).symm
  conv => rhs; rw [e, al_add, al_mul F hi]
end
/-- y lies on the round of i -/
def On (f : Nat → Nat) (i y : Nat) : Prop := ∃ a, al f i a = y
section
variable {n : Nat} {f : Nat → Nat} (F : Inj n f)
include F
theorem On.lt {i y : Nat} (hi : i < n) (h : On f i y) : y < n := by
  obtain ⟨a, e⟩ := h
  rw [← e]
  exact al_lt F hi a
theorem On.near {i y : Nat} (hi : i < n) (h : On f i y) : ∃ a, a < rnd n f i ∧ al f i a = y := by
  obtain ⟨a, e⟩ := h
  exact ⟨a % rnd n f i, Nat.mod_lt _ (rnd_back F hi).1.pos, by rw [al_mod F hi, e]⟩
theorem On.rnd {i y : Nat} (hi : i < n) (h : On f i y) : rnd n f y = Hb.rnd n f i := by
  obtain ⟨a, e⟩ := h
  rw [← e]
  exact rnd_along F hi a
omit F in
theorem On.refl (i : Nat) : On f i i := ⟨0, rfl⟩
omit F in
theorem On.trans {i y z : Nat} (h : On f i y) (k : On f y z) : On f i z := by
  obtain ⟨a, rfl⟩ := h
  obtain ⟨b, rfl⟩ := k
  exact ⟨a + b, al_add f i a b⟩
theorem On.symm {i y : Nat} (hi : i < n) (h : On f i y) : On f y i := by
  obtain ⟨a, ha, e⟩ := h.near F hi
  refine ⟨Hb.rnd n f i - a, ?_⟩
  rw [← e, ← al_add, Nat.add_sub_cancel' (by omega), (rnd_back F hi).1.back]
end
/-! ### two boxes exchanged -/
def ex (f : Nat → Nat) (i j : Nat) : Nat → Nat := fun x => if x = j then f i else if x = i then f j else f x
theorem exchanged_fn {p : List Nat} {i j : Nat} (hi : i < p.length) (hj : j < p.length) : fn (exchanged p i j) = ex (fn p) i j := by
  funext x
  unfold exchanged fn ex
  rw [List.getD_eq_getElem?_getD]
  by_cases e : x = j
  · subst e
    rw [if_pos rfl, List.getElem?_set_self (by rw [List.length_set]; exact hj)]
    rfl
  · rw [if_neg e, List.getElem?_set_ne (fun z => e z.symm)]
    by_cases e2 : x = i
    · subst e2
      rw [if_pos rfl, List.getElem?_set_self hi]
      rfl
    · rw [if_neg e2, List.getElem?_set_ne (fun z => e2 z.symm)]
      exact (List.getD_eq_getElem?_getD ..).symm
theorem exchanged_len (p : List Nat) (i j : Nat) : (exchanged p i j).length = p.length := by
  unfold exchanged
  rw [List.length_set, List.length_set]
section
variable {n : Nat} {f : Nat → Nat} (F : Inj n f)
include F
theorem ex_inj {i j : Nat} (hi : i < n) (hj : j < n) : Inj n (ex f i j) := by
  refine ⟨fun x hx => ?_, fun x y hx hy e => ?_⟩
  · unfold ex
    split
    · exact F.lt i hi
    · split
      · exact F.lt j hj
      · exact F.lt x hx
  · unfold ex at e
    by_cases x1 : x = j
    · by_cases y1 : y = j
      · omega
      · rw [if_pos x1, if_neg y1] at e
        by_cases y2 : y = i
        · rw [if_pos y2] at e
          have := F.inj _ _ hi hj e
          omega
        · rw [if_neg y2] at e
          have := F.inj _ _ hi hy e
          omega
    · rw [if_neg x1] at e
      by_cases x2 : x = i
      · rw [if_pos x2] at e
        by_cases y1 : y = j
        · rw [if_pos y1] at e
          have := F.inj _ _ hj hi e
          omega
        · rw [if_neg y1] at e
          by_cases y2 : y = i
          · omega
          · rw [if_neg y2] at e
            have := F.inj _ _ hj hy e
            omega
      · rw [if_neg x2] at e
        by_cases y1 : y = j
        · rw [if_pos y1] at e
          have := F.inj _ _ hx hi e
          omega
        · rw [if_neg y1] at e
          by_cases y2 : y = i
          · rw [if_pos y2] at e
            have := F.inj _ _ hx hj e
            omega
          · rw [if_neg y2] at e
            exact F.inj _ _ hx hy e
omit F in
theorem ex_j {i j : Nat} : ex f i j j = f i := if_pos rfl
omit F in
theorem ex_i {i j : Nat} (h : i ≠ j) : ex f i j i = f j := by
  unfold ex
  rw [if_neg h, if_pos rfl]
omit F in
theorem ex_else {i j x : Nat} (h1 : x ≠ i) (h2 : x ≠ j) : ex f i j x = f x := by
  unfold ex
  rw [if_neg h2, if_neg h1]
omit F in
/-- a round with neither stays as it is -/
theorem ex_far {i j x : Nat} (hi : ¬ On f x i) (hj : ¬ On f x j) : ∀ k, al (ex f i j) x k = al f x k
  | 0 => rfl
  | k + 1 => by
    show ex f i j (al (ex f i j) x k) = f (al f x k)
    rw [ex_far hi hj k]
    exact ex_else (fun z => hi ⟨k, z⟩) (fun z => hj ⟨k, z⟩)
omit F in
theorem rnd_far {i j x : Nat} (hi : ¬ On f x i) (hj : ¬ On f x j) : rnd n (ex f i j) x = rnd n f x := by
  unfold rnd
  congr 2
  funext k
  rw [ex_far hi hj k]
/-- both on one round: it falls into two -/
theorem split_i {i d : Nat} (hi : i < n) (h0 : 0 < d) (hd : d < rnd n f i) : ∀ m, 1 ≤ m → d + m ≤ rnd n f i → al (ex f i (al f i d)) i m = al f i (d + m)
  | 0, h, _ => absurd h (by omega)
  | 1, _, _ => by
    show ex f i (al f i d) i = f (al f i d)
    exact ex_i (al_ne F hi h0 hd)
  | m + 2, _, h => by
    show ex f i (al f i d) (al (ex f i (al f i d)) i (m + 1)) = f (al f i (d + (m + 1)))
    rw [split_i hi h0 hd (m + 1) (by omega) (by omega)]
    exact ex_else (fun z => al_ne F hi (a := 0) (b := d + (m + 1)) (by omega) (by omega) z.symm) (fun z => al_ne F hi (a := d) (b := d + (m + 1)) (by omega) (by omega) z.symm)
theorem split_j {i d : Nat} (hi : i < n) (h0 : 0 < d) (hd : d < rnd n f i) : ∀ m, 1 ≤ m → m ≤ d → al (ex f i (al f i d)) (al f i d) m = al f i m
  | 0, h, _ => absurd h (by omega)
  | 1, _, _ => ex_j
  | m + 2, _, h => by
    show ex f i (al f i d) (al (ex f i (al f i d)) (al f i d) (m + 1)) = f (al f i (m + 1))
    rw [split_j hi h0 hd (m + 1) (by omega) (by omega)]
    exact ex_else (fun z => al_ne F hi (a := 0) (b := m + 1) (by omega) (by omega) z.symm) (fun z => al_ne F hi (a := m + 1) (b := d) (by omega) (by omega) z)
theorem rnd_split_i {i d : Nat} (hi : i < n) (h0 : 0 < d) (hd : d < rnd n f i) : rnd n (ex f i (al f i d)) i = rnd n f i - d := by
  refine rnd_is (ex_inj F hi (al_lt F hi d)) hi ⟨by omega, ?_, fun k k1 k2 e => ?_⟩
  · rw [split_i F hi h0 hd _ (by omega) (by omega), Nat.add_sub_cancel' (by omega), (rnd_back F hi).1.back]
  · rw [split_i F hi h0 hd k k1 (by omega)] at e
    exact (rnd_back F hi).1.first (d + k) (by omega) (by omega) e
theorem rnd_split_j {i d : Nat} (hi : i < n) (h0 : 0 < d) (hd : d < rnd n f i) : rnd n (ex f i (al f i d)) (al f i d) = d := by
  refine rnd_is (ex_inj F hi (al_lt F hi d)) (al_lt F hi d) ⟨h0, ?_, fun k k1 k2 e => ?_⟩
  · rw [split_j F hi h0 hd d h0 (Nat.le_refl d)]
  · rw [split_j F hi h0 hd k k1 (by omega)] at e
    exact al_ne F hi k2 hd e
/-- .. and each on it lies on one of the two -/
theorem rnd_split {i d : Nat} (hi : i < n) (h0 : 0 < d) (hd : d < rnd n f i) {x : Nat} (hx : On f i x) : rnd n (ex f i (al f i d)) x = rnd n f i - d ∨ rnd n (ex f i (al f i d)) x = d := by
  have G := ex_inj F hi (al_lt F hi d)
  obtain ⟨a, ha, rfl⟩ := hx.near F hi
  by_cases h1 : a = 0
  · subst h1
    exact .inl (rnd_split_i F hi h0 hd)
  · by_cases h2 : a ≤ d
    · right
      rw [← split_j F hi h0 hd a (by omega) h2, rnd_along G (al_lt F hi d), rnd_split_j F hi h0 hd]
    · left
      have e := split_i F hi h0 hd (a - d) (by omega) (by omega)
      rw [Nat.add_sub_cancel' (by omega)] at e
      rw [← e, rnd_along G hi, rnd_split_i F hi h0 hd]
/-- each on a round of its own: they become one -/
theorem join_1 {i j : Nat} (hi : i < n) (hj : j < n) (far : ¬ On f j i) : ∀ m, 1 ≤ m → m ≤ rnd n f j → al (ex f i j) i m = al f j m
  | 0, h, _ => absurd h (by omega)
  | 1, _, _ => ex_i fun z => far (z ▸ On.refl i)
  | m + 2, _, h => by
    show ex f i j (al (ex f i j) i (m + 1)) = f (al f j (m + 1))
    rw [join_1 hi hj far (m + 1) (by omega) (by omega)]
    exact ex_else (fun z => far ⟨_, z⟩) ((rnd_back F hj).1.first (m + 1) (by omega) (by omega))
theorem join_2 {i j : Nat} (hi : i < n) (hj : j < n) (far : ¬ On f j i) (far' : ¬ On f i j) : ∀ m, 1 ≤ m → m ≤ rnd n f i → al (ex f i j) i (rnd n f j + m) = al f i m
  | 0, h, _ => absurd h (by omega)
  | 1, _, _ => by
    show ex f i j (al (ex f i j) i (rnd n f j)) = f i
    rw [join_1 F hi hj far _ (rnd_back F hj).1.pos (Nat.le_refl _), (rnd_back F hj).1.back]
    exact ex_j
  | m + 2, _, h => by
    show ex f i j (al (ex f i j) i (rnd n f j + (m + 1))) = f (al f i (m + 1))
    rw [join_2 hi hj far far' (m + 1) (by omega) (by omega)]
    exact ex_else ((rnd_back F hi).1.first (m + 1) (by omega) (by omega)) (fun z => far' ⟨_, z⟩)
theorem rnd_join {i j : Nat} (hi : i < n) (hj : j < n) (far : ¬ On f i j) : rnd n (ex f i j) i = rnd n f j + rnd n f i := by
  have far' : ¬ On f j i := fun z => far (z.symm F hj)
  have bi := (rnd_back F hi).1
  have bj := (rnd_back F hj).1
  refine rnd_is (ex_inj F hi hj) hi ⟨by have := bi.pos; omega, ?_, fun k k1 k2 e => ?_⟩
  · rw [join_2 F hi hj far' far _ bi.pos (Nat.le_refl _), bi.back]
  · by_cases h : k ≤ rnd n f j
    · rw [join_1 F hi hj far' k k1 h] at e
      exact far' ⟨_, e⟩
    · have e2 : k = rnd n f j + (k - rnd n f j) := by omega
      rw [e2, join_2 F hi hj far' far _ (by omega) (by omega)] at e
      exact bi.first _ (by omega) (by omega) e
omit F in
theorem ex_comm (i j : Nat) : ex f i j = ex f j i := by
  funext x
  unfold ex
  by_cases h1 : x = j
  · by_cases h2 : x = i
    · rw [if_pos h1, if_pos h2]
      rw [← h1, ← h2]
    · rw [if_pos h1, if_neg h2, if_pos h1]
  · rw [if_neg h1]
    by_cases h2 : x = i
    · rw [if_pos h2, if_pos h2]
    · rw [if_neg h2, if_neg h2, if_neg h1]
/-! ### all find theirs -/
def Fine (n k : Nat) (f : Nat → Nat) : Prop := ∀ x, x < n → rnd n f x ≤ k
/-- which two boxes do, if one round (that of x) is too long -/
theorem fine_ex {k x i j : Nat} (hx : x < n) (hk : k < rnd n f x) (hi : i < n) (hj : j < n) (hij : i ≠ j) :
    Fine n k (ex f i j) ↔ (∀ y, y < n → ¬ On f x y → rnd n f y ≤ k) ∧ On f x i ∧ ∃ d, 0 < d ∧ d < rnd n f x ∧ j = al f i d ∧ d ≤ k ∧ rnd n f x ≤ k + d := by
  constructor
  · intro h
    have far : ∀ y, y < n → k < rnd n f y → On f y i ∨ On f y j := fun y hy hk => by
      by_cases h1 : On f y i
      · exact .inl h1
      · by_cases h2 : On f y j
        · exact .inr h2
        · have := h y hy
          rw [rnd_far h1 h2] at this
          omega
    have one : On f i j := by
      by_cases z : On f i j
      · exact z
      · exfalso
        have e1 := rnd_join F hi hj z
        have h1 := h i hi
        rcases far x hx hk with q | q
        · have := q.rnd F hx
          omega
        · have := q.rnd F hx
          omega
    have onx : On f x i := by
      rcases far x hx hk with q | q
      · exact q
      · exact q.trans (one.symm F hi)
    have er := onx.rnd F hx
    obtain ⟨d, hd, e⟩ := one.near F hi
    have d0 : 0 < d := by
      rcases Nat.eq_zero_or_pos d with z | z
      · subst z
        exact absurd e hij
      · exact z
    subst e
    refine ⟨fun y hy hn => ?_, onx, d, d0, by omega, rfl, ?_, ?_⟩
    · rcases Nat.lt_or_ge k (rnd n f y) with z | z
      · exfalso
        apply hn
        rcases far y hy z with q | q
        · exact onx.trans (q.symm F hy)
        · exact (onx.trans one).trans (q.symm F hy)
      · exact z
    · have := h _ hj
      rw [rnd_split_j F hi d0 hd] at this
      exact this
    · have := h i hi
      rw [rnd_split_i F hi d0 hd] at this
      omega
  · rintro ⟨h1, onx, d, d0, hd, rfl, dk, ld⟩ y hy
    have er := onx.rnd F hx
    by_cases hn : On f x y
    · rcases rnd_split F hi d0 (by omega) (On.trans (onx.symm F hx) hn) with e | e
      · rw [e]
        omega
      · rw [e]
        exact dk
    · have f1 : ¬ On f y i := fun z => hn (onx.trans (z.symm F hy))
      have f2 : ¬ On f y (al f i d) := fun z => hn ((onx.trans ⟨d, rfl⟩).trans (z.symm F hy))
      rw [rnd_far f1 f2]
      exact h1 y hy hn
end
theorem all_iff {n k : Nat} {p : List Nat} (hl : p.length = n) : Sn88.all k p = true ↔ Fine n k (fn p) := by
  unfold Sn88.all Fine
  rw [hl]
  simp only [List.all_eq_true, List.mem_range, decide_eq_true_eq, opens_is hl]
theorem all_ex_iff {n k i j : Nat} {p : List Nat} (hl : p.length = n) (hi : i < n) (hj : j < n) : Sn88.all k (exchanged p i j) = true ↔ Fine n k (ex (fn p) i j) := by
  rw [all_iff (n := n) (by rw [exchanged_len]; exact hl), exchanged_fn (by omega) (by omega)]
end Hb

set_option Elab.async false
/-! what is due of code, boxes and swap, in cases; what is asked of them (no program here) -/
namespace Hb
open Sn88
/-! ### code -/
theorem between_iff {z lo hi : Int} : between z lo hi = true ↔ lo ≤ z ∧ z ≤ hi := by
  unfold between
  simp only [Bool.and_eq_true, decide_eq_true_eq]
theorem not_true {b : Bool} (h : ¬ b = true) : b = false := by
  cases b with
  | false => rfl
  | true => exact absurd rfl h
theorem below_iff {n q : Nat} {c : List Nat} : below n q c = true ↔ c.length = n ∧ ∀ x ∈ c, x < q := by
  unfold below
  simp only [Bool.and_eq_true, beq_iff_eq, List.all_eq_true, decide_eq_true_eq]
theorem code_due (r : Int) (c : List Nat) : PySn88.code r (outs c) = if between r 1 8 = false then [-2] else if below (2 ^ r.toNat - 1) 2 c = false then [-3] else 0 :: outs (Sn88.code c) := by
  have e : PySn88.code r (outs c) = (match Sn88Neutral.answered (.code r (Sn88Neutral.nats (outs c))) with
    | some a => a.v :: a.l.map fun (x : Nat) => (x : Int)
    | none => []) := rfl
  rw [e]
  unfold outs
  rw [nats_cast]
  show (if _ then _ else if _ then _ else _ : Ans).v :: (if _ then _ else if _ then _ else _ : Ans).l.map _ = _
  cases h1 : between r 1 8 with
  | false => rfl
  | true =>
    cases h2 : below (2 ^ r.toNat - 1) 2 c with
    | false => rfl
    | true => rfl
theorem code_2 {r : Int} {c : List Nat} (h : ¬ (1 ≤ r ∧ r ≤ 8)) : PySn88.code r (outs c) = [-2] := by
  rw [code_due, if_pos (not_true fun z => h (between_iff.mp z))]
theorem code_3 {r : Int} {c : List Nat} (h : 1 ≤ r ∧ r ≤ 8) (h3 : ¬ ∀ x ∈ c, x < 2) : PySn88.code r (outs c) = [-3] := by
  rw [code_due, if_neg (by rw [between_iff.mpr h]; decide), if_pos (not_true fun z => h3 (below_iff.mp z).2)]
theorem code_0 {r : Int} {c : List Nat} (h : 1 ≤ r ∧ r ≤ 8) (hl : c.length = 2 ^ r.toNat - 1) (h3 : ∀ x ∈ c, x < 2) : PySn88.code r (outs c) = 0 :: outs (Sn88.code c) := by
  rw [code_due, if_neg (by rw [between_iff.mpr h]; decide), if_neg (by rw [below_iff.mpr ⟨hl, h3⟩]; decide)]
theorem asked_code {r : Int} {t : List Int} (h : PySn88.code_asked r t = true) : ∃ T : List Nat, t = outs T ∧ (1 ≤ r → r ≤ 8 → T.length = 2 ^ r.toNat - 1) := by
  have h0 : Sn88Neutral.asked [[[4, r], t]] = true := h
  unfold Sn88Neutral.asked at h0
  rw [Bool.and_eq_true] at h0
  have h1 := h0.1
  rw [List.all_cons, show Sn88Neutral.asked1 [[4, r], t] = (Sn88Neutral.whole32 r && (t.all (fun (z : Int) => Sn88Neutral.natural z 8) && (decide ((t.length : Int) = if 1 ≤ r ∧ r ≤ 8 then 2 ^ r.toNat - 1 else 0)))) from rfl] at h1
  simp only [Bool.and_eq_true, decide_eq_true_eq, List.all_eq_true, Sn88Neutral.natural] at h1
  obtain ⟨⟨_, ht, htl⟩, _⟩ := h1
  refine ⟨Sn88Neutral.nats t, cast_nats (l := t) fun x hx => (ht x hx).1, fun a b => ?_⟩
  rw [if_pos ⟨a, b⟩] at htl
  unfold Sn88Neutral.nats
  rw [List.length_map]
  have e : ((2 : Int) ^ r.toNat) = ((2 ^ r.toNat : Nat) : Int) := by
    rw [Int.natCast_pow]
    rfl
  rw [e] at htl
  have := Nat.two_pow_pos r.toNat
  generalize 2 ^ r.toNat = m at htl this ⊢
  omega
/-! ### boxes -/
theorem boxOk_iff {n k : Int} : boxOk n k = true ↔ (1 ≤ n ∧ n ≤ 1024) ∧ (0 ≤ k ∧ k ≤ n) := by
  unfold boxOk
  rw [Bool.and_eq_true, between_iff, between_iff]
theorem boxes_due (n k : Int) (p : List Nat) : PySn88.boxes n k (outs p) = if boxOk n k = false then [-2] else if isOrder n.toNat p = false then [-3] else [if all k.toNat p = true then 1 else 0] := by
  have e : PySn88.boxes n k (outs p) = (match Sn88Neutral.answered (.boxes n k (Sn88Neutral.nats (outs p))) with
    | some a => a.v :: a.l.map fun (x : Nat) => (x : Int)
    | none => []) := rfl
  rw [e]
  unfold outs
  rw [nats_cast]
  show (if _ then _ else if _ then _ else _ : Ans).v :: (if _ then _ else if _ then _ else _ : Ans).l.map _ = _
  cases h1 : boxOk n k with
  | false => rfl
  | true =>
    cases h2 : isOrder n.toNat p with
    | false => rfl
    | true => rfl
theorem boxes_2 {n k : Int} {p : List Nat} (h : ¬ ((1 ≤ n ∧ n ≤ 1024) ∧ (0 ≤ k ∧ k ≤ n))) : PySn88.boxes n k (outs p) = [-2] := by
  rw [boxes_due, if_pos (not_true fun z => h (boxOk_iff.mp z))]
theorem boxes_3 {n k : Int} {p : List Nat} (h : (1 ≤ n ∧ n ≤ 1024) ∧ (0 ≤ k ∧ k ≤ n)) (h3 : ¬ isOrder n.toNat p = true) : PySn88.boxes n k (outs p) = [-3] := by
  rw [boxes_due, if_neg (by rw [boxOk_iff.mpr h]; decide), if_pos (not_true h3)]
theorem boxes_0 {n k : Int} {p : List Nat} (h : (1 ≤ n ∧ n ≤ 1024) ∧ (0 ≤ k ∧ k ≤ n)) (h3 : isOrder n.toNat p = true) : PySn88.boxes n k (outs p) = [if all k.toNat p = true then 1 else 0] := by
  rw [boxes_due, if_neg (by rw [boxOk_iff.mpr h]; decide), if_neg (by rw [h3]; decide)]
theorem asked_box1 {n k c : Int} {t : List Int} (hk : Sn88Neutral.asked1 [[c, n, k], t] = (Sn88Neutral.whole32 n && (Sn88Neutral.whole32 k && (t.all (fun (z : Int) => Sn88Neutral.natural z 16) && (decide ((t.length : Int) = if 1 ≤ n ∧ n ≤ 1024 then n else 0))))))
    (h : Sn88Neutral.asked [[[c, n, k], t]] = true) : ∃ T : List Nat, t = outs T ∧ T.length ≤ 1024 ∧ (∀ x ∈ T, x < 65536) ∧ (1 ≤ n → n ≤ 1024 → T.length = n.toNat) := by
  unfold Sn88Neutral.asked at h
  rw [Bool.and_eq_true] at h
  have h1 := h.1
  rw [List.all_cons, hk] at h1
  simp only [Bool.and_eq_true, decide_eq_true_eq, List.all_eq_true, Sn88Neutral.natural] at h1
  obtain ⟨⟨_, _, ht, htl⟩, _⟩ := h1
  have el : (Sn88Neutral.nats t).length = t.length := by
    unfold Sn88Neutral.nats
    rw [List.length_map]
  refine ⟨Sn88Neutral.nats t, cast_nats (l := t) fun x hx => (ht x hx).1, ?_, fun x hx => ?_, fun a b => ?_⟩
  · rw [el]
    by_cases z : 1 ≤ n ∧ n ≤ 1024
    · rw [if_pos z] at htl
      omega
    · rw [if_neg z] at htl
      omega
  · unfold Sn88Neutral.nats at hx
    obtain ⟨y, hy, e⟩ := List.mem_map.mp hx
    have := (ht y hy).2
    omega
  · rw [if_pos ⟨a, b⟩] at htl
    rw [el]
    omega
theorem asked_boxes {n k : Int} {t : List Int} (h : PySn88.boxes_asked n k t = true) : ∃ T : List Nat, t = outs T ∧ T.length ≤ 1024 ∧ (∀ x ∈ T, x < 65536) ∧ (1 ≤ n → n ≤ 1024 → T.length = n.toNat) := asked_box1 (c := 5) rfl h
/-! ### swap -/
theorem asked_swap {n k : Int} {t : List Int} (h : PySn88.swap_asked n k t = true) : ∃ T : List Nat, t = outs T ∧ T.length ≤ 1024 ∧ (∀ x ∈ T, x < 65536) ∧ (1 ≤ n → n ≤ 1024 → T.length = n.toNat) := asked_box1 (c := 6) rfl h
def swapTold (n k : Nat) (p : List Nat) : List Int := if all k p = true then [0] else match (pairs n).find? (fun x => all k (exchanged p x.1 x.2)) with
  | some x => [1, (x.1 : Int), (x.2 : Int)]
  | none => [-5]
theorem swap_due (n k : Int) (p : List Nat) : PySn88.swap n k (outs p) = if boxOk n k = false then [-2] else if isOrder n.toNat p = false then [-3] else swapTold n.toNat k.toNat p := by
  have e : PySn88.swap n k (outs p) = (match Sn88Neutral.answered (.swap n k (Sn88Neutral.nats (outs p))) with
    | some a => a.v :: a.l.map fun (x : Nat) => (x : Int)
    | none => []) := rfl
  rw [e]
  unfold outs
  rw [nats_cast]
  have e2 : Sn88Neutral.answered (.swap n k p) = some (if boxOk n k = false then ok (-2) else if isOrder n.toNat p = false then ok (-3) else if all k.toNat p = true then ok 0 else
      match (pairs n.toNat).find? (fun x => all k.toNat (exchanged p x.1 x.2)) with
      | some x => ⟨1, [x.1, x.2]⟩
      | none => ok (-5)) := rfl
  rw [e2]
  unfold swapTold
  cases h1 : boxOk n k with
  | false => rfl
  | true =>
    cases h2 : isOrder n.toNat p with
    | false => rfl
    | true =>
      cases h3 : all k.toNat p with
      | true => rfl
      | false =>
        cases h4 : (pairs n.toNat).find? (fun x => all k.toNat (exchanged p x.1 x.2)) with
        | none => rfl
        | some x => rfl
theorem swap_2 {n k : Int} {p : List Nat} (h : ¬ ((1 ≤ n ∧ n ≤ 1024) ∧ (0 ≤ k ∧ k ≤ n))) : PySn88.swap n k (outs p) = [-2] := by
  rw [swap_due, if_pos (not_true fun z => h (boxOk_iff.mp z))]
theorem swap_3 {n k : Int} {p : List Nat} (h : (1 ≤ n ∧ n ≤ 1024) ∧ (0 ≤ k ∧ k ≤ n)) (h3 : ¬ isOrder n.toNat p = true) : PySn88.swap n k (outs p) = [-3] := by
  rw [swap_due, if_neg (by rw [boxOk_iff.mpr h]; decide), if_pos (not_true h3)]
theorem swap_1 {n k : Int} {p : List Nat} (h : (1 ≤ n ∧ n ≤ 1024) ∧ (0 ≤ k ∧ k ≤ n)) (h3 : isOrder n.toNat p = true) : PySn88.swap n k (outs p) = swapTold n.toNat k.toNat p := by
  rw [swap_due, if_neg (by rw [boxOk_iff.mpr h]; decide), if_neg (by rw [h3]; decide)]
/-! ### the first pair -/
theorem find_first {α : Type} {R : α → α → Prop} {P : α → Bool} {b : α} : ∀ {l : List α}, l.Pairwise R → b ∈ l → P b = true → (∀ a ∈ l, P a = true → a ≠ b → ¬ R a b) → l.find? P = some b
  | [], _, h, _, _ => by cases h
  | a :: l, pw, hb, pb, first => by
    rw [List.pairwise_cons] at pw
    cases pa : P a with
    | true =>
      rw [List.find?_cons_of_pos pa]
      rcases List.mem_cons.mp hb with e | hb2
      · rw [e]
      · by_cases e : a = b
        · rw [e]
        · exact absurd (pw.1 b hb2) (first a List.mem_cons_self pa e)
    | false =>
      rw [List.find?_cons_of_neg (by rw [pa]; decide)]
      rcases List.mem_cons.mp hb with e | hb2
      · rw [← e, pb] at pa
        cases pa
      · exact find_first pw.2 hb2 pb fun c hc => first c (List.mem_cons_of_mem _ hc)
theorem mem_pairs {n i j : Nat} : (i, j) ∈ pairs n ↔ i < j ∧ j < n := by
  unfold pairs
  simp only [List.mem_flatMap, List.mem_map, List.mem_filter, List.mem_range, decide_eq_true_eq, Prod.mk.injEq]
  constructor
  · rintro ⟨a, ha, b, ⟨hb, hab⟩, rfl, rfl⟩
    exact ⟨hab, hb⟩
  · rintro ⟨h1, h2⟩
    exact ⟨i, by omega, j, ⟨h2, h1⟩, rfl, rfl⟩
def Lex (a b : Nat × Nat) : Prop := a.1 < b.1 ∨ (a.1 = b.1 ∧ a.2 < b.2)
theorem pairs_lex (n : Nat) : (pairs n).Pairwise Lex := by
  unfold pairs
  rw [List.pairwise_flatMap]
  refine ⟨fun i _ => ?_, ?_⟩
  · rw [List.pairwise_map]
    refine List.Pairwise.imp ?_ (List.Pairwise.filter _ (List.pairwise_lt_range (n := n)))
    intro a b h
    exact .inr ⟨rfl, h⟩
  · refine List.Pairwise.imp ?_ (List.pairwise_lt_range (n := n))
    intro a b h x hx y hy
    obtain ⟨u, _, rfl⟩ := List.mem_map.mp hx
    obtain ⟨v, _, rfl⟩ := List.mem_map.mp hy
    exact .inl h
theorem first_pair {n i j : Nat} {P : Nat × Nat → Bool} (hij : i < j) (hj : j < n) (h : P (i, j) = true) (first : ∀ a b, a < b → b < n → P (a, b) = true → i < a ∨ (i = a ∧ j ≤ b)) : (pairs n).find? P = some (i, j) := by
  refine find_first (pairs_lex n) (mem_pairs.mpr ⟨hij, hj⟩) h ?_
  rintro ⟨a, b⟩ hab pab ne lx
  obtain ⟨h1, h2⟩ := mem_pairs.mp hab
  have lx : a < i ∨ (a = i ∧ b < j) := lx
  rcases first a b h1 h2 pab with q | ⟨q, q2⟩
  · omega
  · subst q
    rcases Nat.lt_or_ge b j with z | z
    · omega
    · omega
theorem no_pair {n : Nat} {P : Nat × Nat → Bool} (h : ∀ a b, a < b → b < n → ¬ P (a, b) = true) : (pairs n).find? P = none := by
  rw [List.find?_eq_none]
  rintro ⟨a, b⟩ hab
  obtain ⟨h1, h2⟩ := mem_pairs.mp hab
  exact h a b h1 h2
theorem told_0 {n k : Nat} {p : List Nat} (h : all k p = true) : swapTold n k p = [0] := by
  unfold swapTold
  rw [if_pos h]
theorem told_5 {n k : Nat} {p : List Nat} (h : ¬ all k p = true) (h2 : ∀ a b, a < b → b < n → ¬ all k (exchanged p a b) = true) : swapTold n k p = [-5] := by
  unfold swapTold
  rw [if_neg h, no_pair h2]
theorem told_1 {n k i j : Nat} {p : List Nat} (h : ¬ all k p = true) (hij : i < j) (hj : j < n) (h1 : all k (exchanged p i j) = true) (first : ∀ a b, a < b → b < n → all k (exchanged p a b) = true → i < a ∨ (i = a ∧ j ≤ b)) : swapTold n k p = [1, (i : Int), (j : Int)] := by
  unfold swapTold
  rw [if_neg h, first_pair (P := fun x => all k (exchanged p x.1 x.2)) hij hj h1 first]
/-! ### swap by rounds: x the least box whose round is too long -/
section
variable {n k : Nat} {p : List Nat} (ho : isOrder n p = true)
include ho
theorem told_far {x y : Nat} (hx : x < n) (hk : k < rnd n (fn p) x) (hy : y < n) (hky : k < rnd n (fn p) y) (off : ¬ On (fn p) x y) : swapTold n k p = [-5] := by
  have hl := order_len ho
  have F := order_inj ho
  refine told_5 (fun z => ?_) (fun a b hab hb z => ?_)
  · have := (all_iff hl).mp z x hx
    omega
  · have q := ((fine_ex F hx hk (by omega) hb (by omega)).mp ((all_ex_iff hl (by omega) hb).mp z)).1 y hy off
    omega
theorem told_long {x : Nat} (hx : x < n) (hk : k < rnd n (fn p) x) (h2 : 2 * k < rnd n (fn p) x) : swapTold n k p = [-5] := by
  have hl := order_len ho
  have F := order_inj ho
  refine told_5 (fun z => ?_) (fun a b hab hb z => ?_)
  · have := (all_iff hl).mp z x hx
    omega
  · obtain ⟨_, _, d, _, _, _, h3, h4⟩ := (fine_ex F hx hk (by omega) hb (by omega)).mp ((all_ex_iff hl (by omega) hb).mp z)
    omega
/-- the pair told: x is the least box on its round, the only one too long; j the least of those that part it well -/
theorem told_pair {x j : Nat} (hx : x < n) (hk : k < rnd n (fn p) x) (least : ∀ y, On (fn p) x y → x ≤ y) (only : ∀ y, y < n → ¬ On (fn p) x y → rnd n (fn p) y ≤ k)
    (hj : ∃ d, d ≤ k ∧ rnd n (fn p) x ≤ k + d ∧ j = al (fn p) x d) (min : ∀ d, d ≤ k → rnd n (fn p) x ≤ k + d → j ≤ al (fn p) x d) : swapTold n k p = [1, (x : Int), (j : Int)] := by
  have hl := order_len ho
  have F := order_inj ho
  obtain ⟨d, d1, d2, rfl⟩ := hj
  have d0 : 0 < d := by omega
  have dR : d < rnd n (fn p) x := by omega
  have jn : al (fn p) x d < n := al_lt F hx d
  have ne : x ≠ al (fn p) x d := fun z => al_ne F hx d0 dR (by
    show al (fn p) x 0 = _
    exact z)
  have xj : x < al (fn p) x d := by
    have := least _ ⟨d, rfl⟩
    omega
  refine told_1 (fun z => ?_) xj jn ?_ (fun a b hab hb z => ?_)
  · have := (all_iff hl).mp z x hx
    omega
  · exact (all_ex_iff hl hx jn).mpr ((fine_ex F hx hk hx jn ne).mpr ⟨only, On.refl x, d, d0, dR, rfl, d1, d2⟩)
  · obtain ⟨_, ona, e, e0, eR, eb, e1, e2⟩ := (fine_ex F hx hk (by omega) hb (by omega)).mp ((all_ex_iff hl (by omega) hb).mp z)
    have xa := least a ona
    rcases Nat.lt_or_ge x a with q | q
    · exact .inl q
    · have ea : a = x := by omega
      subst ea
      refine .inr ⟨rfl, ?_⟩
      rw [eb]
      exact min e e1 e2
end
/-! ### orders by other words -/
theorem order_iff {n : Nat} {p : List Nat} (hl : p.length = n) : isOrder n p = true ↔ ∀ i, i < n → i ∈ p := by
  refine ⟨fun h i hi => ?_, order_of hl⟩
  exact (order_perm h).mem_iff.mpr (List.mem_range.mpr hi)
theorem order_iff2 {n : Nat} {p : List Nat} (hl : p.length = n) : isOrder n p = true ↔ p.Nodup ∧ ∀ x ∈ p, x < n := by
  refine ⟨fun h => ?_, fun ⟨nd, lt⟩ => ?_⟩
  · have pm := order_perm h
    exact ⟨pm.nodup_iff.mpr List.nodup_range, fun x hx => List.mem_range.mp (pm.mem_iff.mp hx)⟩
  · refine order_of hl fun i hi => ?_
    by_cases z : i ∈ p
    · exact z
    · exfalso
      have nd2 : (i :: p).Nodup := List.nodup_cons.mpr ⟨z, nd⟩
      have := short_of_nodup n (i :: p) nd2 fun x hx => by
        rcases List.mem_cons.mp hx with e | e
        · omega
        · exact lt x e
      rw [List.length_cons] at this
      omega
end Hb

set_option Elab.async false
/-! all rounds of an order, each from its lowest box on; those that are too long; what swap tells by them (no program here) -/
namespace Hb
open Sn88
/-- the boxes on the round of x, from x on -/
def roundL (n : Nat) (f : Nat → Nat) (x : Nat) : List Nat := (List.range (rnd n f x)).map (al f x)
theorem roundL_len (n : Nat) (f : Nat → Nat) (x : Nat) : (roundL n f x).length = rnd n f x := by
  unfold roundL
  rw [List.length_map, List.length_range]
theorem roundL_at {n : Nat} {f : Nat → Nat} {x d : Nat} (h : d < rnd n f x) : (roundL n f x)[d]? = some (al f x d) := by
  unfold roundL
  rw [List.getElem?_map, List.getElem?_range h]
  rfl
section
variable {n : Nat} {f : Nat → Nat} (F : Inj n f)
include F
theorem mem_roundL {x y : Nat} (hx : x < n) : y ∈ roundL n f x ↔ On f x y := by
  unfold roundL
  rw [List.mem_map]
  constructor
  · rintro ⟨d, _, e⟩
    exact ⟨d, e⟩
  · intro h
    obtain ⟨d, hd, e⟩ := h.near F hx
    exact ⟨d, List.mem_range.mpr hd, e⟩
theorem roundL_lt {x y : Nat} (hx : x < n) (h : y ∈ roundL n f x) : y < n := ((mem_roundL F hx).mp h).lt F hx
end
theorem take_more {r : List Nat} {i x : Nat} (h : r[i]? = some x) : r.take (i + 1) = r.take i ++ [x] := by
  rw [List.take_add_one, h]
  rfl
/-- y lies on the round of one below i -/
def reached (n : Nat) (f : Nat → Nat) (i y : Nat) : Bool := (List.range i).any fun x => (roundL n f x).contains y
theorem reached_zero (n : Nat) (f : Nat → Nat) (y : Nat) : reached n f 0 y = false := rfl
theorem reached_succ (n : Nat) (f : Nat → Nat) (i y : Nat) : reached n f (i + 1) y = (reached n f i y || (roundL n f i).contains y) := by
  unfold reached
  rw [List.range_succ, List.any_append]
  congr 1
  show ((roundL n f i).contains y || false) = _
  rw [Bool.or_false]
def lead (n : Nat) (f : Nat → Nat) (i : Nat) : Bool := !reached n f i i
def leads (n : Nat) (f : Nat → Nat) (i : Nat) : List Nat := (List.range i).filter (lead n f)
theorem leads_succ (n : Nat) (f : Nat → Nat) (i : Nat) : leads n f (i + 1) = leads n f i ++ if reached n f i i = true then [] else [i] := by
  unfold leads
  rw [List.range_succ, List.filter_append]
  congr 1
  rw [List.filter_cons]
  unfold lead
  cases h : reached n f i i with
  | true => rfl
  | false => rfl
theorem leads_len (n : Nat) (f : Nat → Nat) (i : Nat) : (leads n f i).length ≤ i := by
  unfold leads
  refine Nat.le_trans (List.length_filter_le _ _) ?_
  rw [List.length_range]
  exact Nat.le_refl _
theorem leads_lt {n : Nat} {f : Nat → Nat} {i x : Nat} (h : x ∈ leads n f i) : x < i := by
  unfold leads at h
  exact List.mem_range.mp (List.mem_filter.mp h).1
/-- the rounds that are too long, by their lowest boxes -/
def longs (n : Nat) (f : Nat → Nat) (k : Nat) : List Nat := (leads n f n).filter fun x => decide (k < rnd n f x)
theorem longs_lt {n : Nat} {f : Nat → Nat} {k x : Nat} (h : x ∈ longs n f k) : x < n := by
  unfold longs at h
  exact leads_lt (List.mem_filter.mp h).1
theorem longs_far {n : Nat} {f : Nat → Nat} {k x : Nat} (h : x ∈ longs n f k) : k < rnd n f x := by
  unfold longs at h
  exact of_decide_eq_true (List.mem_filter.mp h).2
theorem longs_nodup (n : Nat) (f : Nat → Nat) (k : Nat) : (longs n f k).Nodup := by
  unfold longs leads
  exact List.Pairwise.filter _ (List.Pairwise.filter _ List.nodup_range)
section
variable {n : Nat} {f : Nat → Nat} (F : Inj n f)
include F
theorem reached_iff {i y : Nat} (hi : i ≤ n) : reached n f i y = true ↔ ∃ x, x < i ∧ On f x y := by
  unfold reached
  rw [List.any_eq_true]
  constructor
  · rintro ⟨x, hx, hc⟩
    have h1 := List.mem_range.mp hx
    exact ⟨x, h1, (mem_roundL F (by omega)).mp (List.contains_iff_mem.mp hc)⟩
  · rintro ⟨x, hx, ho⟩
    exact ⟨x, List.mem_range.mpr hx, List.contains_iff_mem.mpr ((mem_roundL F (by omega)).mpr ho)⟩
/-- who is reached already brings nothing new -/
theorem reached_same {i : Nat} (hi : i < n) (h : reached n f i i = true) (y : Nat) : reached n f (i + 1) y = reached n f i y := by
  cases e : reached n f i y with
  | true => rw [reached_succ, e, Bool.true_or]
  | false =>
    rw [reached_succ, e, Bool.false_or]
    cases e2 : (roundL n f i).contains y with
    | false => rfl
    | true =>
      exfalso
      have ho := (mem_roundL F hi).mp (List.contains_iff_mem.mp e2)
      obtain ⟨x, hx, h1⟩ := (reached_iff F (by omega)).mp h
      have := (reached_iff F (i := i) (y := y) (by omega)).mpr ⟨x, hx, h1.trans ho⟩
      rw [e] at this
      cases this
theorem lead_iff {i : Nat} (hi : i < n) : lead n f i = true ↔ ∀ y, On f i y → i ≤ y := by
  unfold lead
  constructor
  · intro h y ho
    rcases Nat.lt_or_ge y i with z | z
    · exfalso
      have := (reached_iff F (i := i) (y := i) (by omega)).mpr ⟨y, z, ho.symm F hi⟩
      rw [this] at h
      cases h
    · exact z
  · intro h
    cases e : reached n f i i with
    | false => rfl
    | true =>
      exfalso
      obtain ⟨x, hx, h1⟩ := (reached_iff F (by omega)).mp e
      have := h x (h1.symm F (by omega))
      omega
/-- each lies on the round of a lowest box -/
theorem has_lead : ∀ (y : Nat), y < n → ∃ x, x < n ∧ lead n f x = true ∧ On f x y := fun y => by
  induction y using Nat.strongRecOn with
  | _ y ih =>
    intro hy
    cases e : reached n f y y with
    | false => exact ⟨y, hy, by unfold lead; rw [e]; rfl, On.refl y⟩
    | true =>
      obtain ⟨x, hx, h1⟩ := (reached_iff F (by omega)).mp e
      obtain ⟨z, hz, lz, oz⟩ := ih x hx (by omega)
      exact ⟨z, hz, lz, oz.trans h1⟩
omit F in
theorem mem_longs {k x : Nat} : x ∈ longs n f k ↔ x < n ∧ lead n f x = true ∧ k < rnd n f x := by
  unfold longs leads
  rw [List.mem_filter, List.mem_filter, List.mem_range, decide_eq_true_eq]
  exact ⟨fun ⟨⟨a, b⟩, c⟩ => ⟨a, b, c⟩, fun ⟨a, b, c⟩ => ⟨⟨a, b⟩, c⟩⟩
theorem fine_of_longs {k : Nat} (h : ∀ x, x ∈ longs n f k → False) : Fine n k f := fun y hy => by
  rcases Nat.lt_or_ge k (rnd n f y) with z | z
  · exfalso
    obtain ⟨x, hx, lx, ox⟩ := has_lead F y hy
    have e := ox.rnd F hx
    exact h x (mem_longs.mpr ⟨hx, lx, by omega⟩)
  · exact z
omit F in
theorem longs_of_fine {k : Nat} (h : Fine n k f) : longs n f k = [] := by
  refine List.eq_nil_iff_forall_not_mem.mpr fun x hx => ?_
  have h1 := h x (longs_lt hx)
  have h2 := longs_far hx
  omega
theorem longs_least {k x y : Nat} (h : x ∈ longs n f k) (ho : On f x y) : x ≤ y := (lead_iff F (longs_lt h)).mp (mem_longs.mp h).2.1 y ho
theorem longs_apart {k x y : Nat} (hx : x ∈ longs n f k) (hy : y ∈ longs n f k) (ne : x ≠ y) : ¬ On f x y := fun ho => by
  have h1 := longs_least F hx ho
  have h2 := longs_least F hy (ho.symm F (longs_lt hx))
  omega
theorem longs_only {k x y : Nat} (e : longs n f k = [x]) (hy : y < n) (off : ¬ On f x y) : rnd n f y ≤ k := by
  rcases Nat.lt_or_ge k (rnd n f y) with z | z
  · exfalso
    obtain ⟨u, hu, lu, ou⟩ := has_lead F y hy
    have er := ou.rnd F hu
    have hm : u ∈ longs n f k := mem_longs.mpr ⟨hu, lu, by omega⟩
    rw [e] at hm
    have : u = x := List.mem_singleton.mp hm
    subst this
    exact off ou
  · exact z
end
/-! ### boxes and swap by the rounds that are too long -/
section
variable {n k : Nat} {p : List Nat} (ho : isOrder n p = true)
include ho
theorem all_longs : Sn88.all k p = true ↔ longs n (fn p) k = [] := by
  rw [all_iff (order_len ho)]
  refine ⟨longs_of_fine, fun h => fine_of_longs (order_inj ho) fun x hx => ?_⟩
  rw [h] at hx
  cases hx
theorem swap_none (h : longs n (fn p) k = []) : swapTold n k p = [0] := told_0 ((all_longs ho).mpr h)
theorem swap_many (h : 1 < (longs n (fn p) k).length) : swapTold n k p = [-5] := by
  have nd := longs_nodup n (fn p) k
  cases e : longs n (fn p) k with
  | nil =>
    rw [e] at h
    cases h
  | cons x r =>
    cases r with
    | nil =>
      rw [e] at h
      exact absurd h (Nat.lt_irrefl 1)
    | cons y r =>
      have hx : x ∈ longs n (fn p) k := by
        rw [e]
        exact List.mem_cons_self
      have hy : y ∈ longs n (fn p) k := by
        rw [e]
        exact List.mem_cons_of_mem _ List.mem_cons_self
      have ne : x ≠ y := fun z => by
        rw [e] at nd
        rw [z] at nd
        exact (List.nodup_cons.mp nd).1 List.mem_cons_self
      exact told_far ho (longs_lt hx) (longs_far hx) (longs_lt hy) (longs_far hy) (longs_apart (order_inj ho) hx hy ne)
theorem swap_long {x : Nat} (e : longs n (fn p) k = [x]) (h : 2 * k < rnd n (fn p) x) : swapTold n k p = [-5] := by
  have hx : x ∈ longs n (fn p) k := by
    rw [e]
    exact List.mem_cons_self
  exact told_long ho (longs_lt hx) (longs_far hx) h
/-- the boxes that part the round x well, as the slice of it -/
def parts (n k : Nat) (f : Nat → Nat) (x : Nat) : List Nat := ((roundL n f x).drop (rnd n f x - k)).take (k + 1 - (rnd n f x - k))
omit ho in
theorem mem_parts {f : Nat → Nat} {x y : Nat} (hk : k < rnd n f x) : y ∈ parts n k f x ↔ ∃ d, d ≤ k ∧ rnd n f x ≤ k + d ∧ y = al f x d := by
  unfold parts
  constructor
  · intro h
    obtain ⟨j, hj, e⟩ := List.getElem_of_mem h
    rw [List.length_take, List.length_drop, roundL_len] at hj
    have e2 := List.getElem?_eq_getElem (l := ((roundL n f x).drop (rnd n f x - k)).take (k + 1 - (rnd n f x - k))) (i := j) (by rw [List.length_take, List.length_drop, roundL_len]; exact hj)
    rw [e, List.getElem?_take_of_lt (by omega), List.getElem?_drop, roundL_at (by omega)] at e2
    exact ⟨rnd n f x - k + j, by omega, by omega, (Option.some.inj e2).symm⟩
  · rintro ⟨d, h1, h2, rfl⟩
    refine List.mem_of_getElem? (i := d - (rnd n f x - k)) ?_
    rw [List.getElem?_take_of_lt (by omega), List.getElem?_drop, show rnd n f x - k + (d - (rnd n f x - k)) = d by omega]
    exact roundL_at (by omega)
omit ho in
theorem parts_pos {f : Nat → Nat} {x : Nat} (hk : k < rnd n f x) (h2 : rnd n f x ≤ 2 * k) : 0 < (parts n k f x).length := by
  have h : al f x k ∈ parts n k f x := (mem_parts hk).mpr ⟨k, by omega, by omega, rfl⟩
  exact List.length_pos_of_mem h
theorem swap_one {x j : Nat} (e : longs n (fn p) k = [x]) (hj : j ∈ parts n k (fn p) x) (min : ∀ y, y ∈ parts n k (fn p) x → j ≤ y) : swapTold n k p = [1, (x : Int), (j : Int)] := by
  have hx : x ∈ longs n (fn p) k := by
    rw [e]
    exact List.mem_cons_self
  have hk := longs_far hx
  refine told_pair ho (longs_lt hx) hk (fun y hy => longs_least (order_inj ho) hx hy) (fun y hy off => longs_only (order_inj ho) e hy off) ((mem_parts hk).mp hj) fun d h1 h2 => min _ ((mem_parts hk).mpr ⟨d, h1, h2, rfl⟩)
end
end Hb

set_option Elab.async false
set_option linter.all false
set_option maxRecDepth 100000
/-! list(reversed(a list)): a new list, the items backwards -/
namespace HbR
open PySem PySem.Spec PyProof.Rows L2 RT
section
variable {prog : Program} {w : World} {A : Around} {s : Shared} {it l : Addr} {items : Array Value}
/-- where list's own steps go on to -/
abbrev Go (prog : Program) (w : World) (A : Around) (R : Result → Shared → Prop) (c : Sem Fin) (s : Shared) : Prop :=
  wpAny (model prog w) A.in1 c (fun fin t => match fin with | .done f => R (.ok f) t | .again d => d.quiet = true ∧ codeAny (model prog w) A d R t) (fun e t => R (.error e) t) s
/-- a list's iterator from its end tells no length that counts -/
theorem rev_hint {E : Value → Shared → Prop} {Q : Bool → Shared → Prop} (ty : s.TypeIs (.ref it) "list_reverseiterator") (q : Q false s) : wpAny (model prog w) A (Builtin.List.listLengthHint (.ref it)) Q E s := by
  unfold Builtin.List.listLengthHint
  refine wpAny_bind (wpAny_specialOf ty nolen_lri (show wpAny _ A (specialOf (.ref it) (Str.ofString "__length_hint__") >>= _) _ _ _ from wpAny_bind (wpAny_specialOf ty hint_lri ?_)))
  have own : ∀ x, "list_reverseiterator.__length_hint__" = x → splitId x = some ("list_reverseiterator", "__length_hint__") := fun x e => by
    rw [← e]
    decide +kernel
  generalize is : ("list_reverseiterator.__length_hint__" : String) = name
  wp_delta
  rw [own name is]
  cases is
  exact wpAny_bind (wpAny_isInstance (b := true) ty (by rw [isSubtype_type]; kernel_rfl) (wpAny_pure q))
structure Back (h : Heap) (it l : Addr) (items : Array Value) : Prop where
  at_end : h.IsRevIter it l ((items.size : Int) - 1)
  list : h.IsList l items
  apart : l ≠ it
theorem Back.moved {h h' : Heap} (b : Back h it l items) (k : ∀ p, p = it ∨ p = l → ∀ o, h.get? p = some o → h'.get? p = some o) : Back h' it l items :=
  ⟨b.at_end.at (k it (.inl rfl)), let ⟨o, e, r⟩ := b.list; ⟨o, k l (.inr rfl) o e, r⟩, b.apart⟩
def Told (items : Array Value) (i : Nat) (v : Value) : Prop := items[items.size - 1 - i]? = some v
theorem rev_extend {R : Result → Shared → Prop} (ok : A.handled = none) (b : Back s.heap it l items) (few : items.size ≤ sizeLine) (S : Addr) (c : Nat) (here : s.heap.get? S = some { cls := .type "list", data := .seq #[] c }) (away : S ∉ [it, l])
    (fin : ∀ h tk acc d, (∀ p o, p ≠ S → p ≠ it → s.heap.get? p = some o → h.get? p = some o) → h.get? S = some { cls := .type "list", dict := none, data := .seq acc d, slots := #[] } → ItemsOf (Told items) acc items.size → R (.ok (.ret .none)) { s with heap := h, toks := tk }) :
    Go prog w A R (Builtin.List.listExtendWith (.ref S) (.ref it) .none) s := by
  have ty : s.TypeIs (.ref it) "list_reverseiterator" := Heap.IsRevIter.typeIs b.at_end
  have other : Builtin.List.listSameRef (.ref S) (.ref it) = false := by
    have ne : S ≠ it := fun e => away (by rw [e]; exact List.mem_cons_self)
    simp [Builtin.List.listSameRef, ne]
  have walk := (Walks.listRev (A := A.in1) (prog := prog) (w := w) ok it l b.apart items).toS
  have first : ((items.size : Nat) : Int) - 1 = (items.size : Int) - 1 - ((0 : Nat) : Int) := by omega
  have from0 := b.at_end
  rw [first] at from0
  unfold Go Builtin.List.listExtendWith
  refine wpAny_bind (wpAny_typeOf ty (by
    rw [if_neg (by rw [other] <;> decide)]
    refine wpAny_bind (wpAny_pyIter_revIter b.at_end (wpAny_bind (wpAny_holding (rev_hint ty ?_))))
    rw [if_neg (by decide)]
    refine wpAny_pure ⟨plainId_quiet F.plain_extend_loop _, codeAny_extend_loopS walk few S away .none items.size 0 _ _ _ rfl (Nat.zero_le _) ⟨Nat.zero_le _, from0, b.list⟩ here (ItemsOf.nil _) fun t acc d moved there told => ?_⟩
    rw [Moved.eq_with moved]
    refine fin t.heap t.toks acc d (fun p o p1 p2 e => moved.heap p o (fun m => ?_) e) there told
    cases m with
    | head => exact p1 rfl
    | tail _ m => exact p2 (List.mem_singleton.mp m)))
theorem rev_init {R : Result → Shared → Prop} (ok : A.handled = none) (b : Back s.heap it l items) (few : items.size ≤ sizeLine) (S : Addr) (here : s.heap.get? S = some { cls := .type "list", data := .seq #[] }) (away : S ∉ [it, l])
    (fin : ∀ h tk acc d, (∀ p o, p ≠ S → p ≠ it → s.heap.get? p = some o → h.get? p = some o) → h.get? S = some { cls := .type "list", dict := none, data := .seq acc d, slots := #[] } → ItemsOf (Told items) acc items.size → R (.ok (.ret .none)) { s with heap := h, toks := tk }) :
    Go prog w A R (Builtin.«list.__init__» ⟨[.ref S, .ref it], []⟩) s := by
  have off : ∀ p o, p ≠ S → s.heap.get? p = some o → (s.heap.update S (Obj.mapSeq fun _ => (#[] : Array Value))).get? p = some o := fun p o ne e => by
    rw [Heap.get?_update_other _ _ (fun z => ne z.symm)]
    exact e
  have b2 : Back (s.heap.update S (Obj.mapSeq fun _ => (#[] : Array Value))) it l items := b.moved fun p hp o e => off p o (fun z => away (by
    rw [← z]
    rcases hp with z | z <;> rw [z] <;> simp)) e
  have blank : Go prog w A R (letGo (#[] : Array Value).toList.reverse >>= fun _ => Builtin.List.listExtendWith (.ref S) (.ref it) .none) { s with heap := s.heap.update S (Obj.mapSeq fun _ => (#[] : Array Value)) } :=
    wpAny_bind (wpAny_letGo (rev_extend ok b2 few S _ (Heap.get?_update_self (Obj.mapSeq fun _ => (#[] : Array Value)) here rfl) away fun h tk acc d kept => fin h tk acc d fun p o p1 p2 e => kept p o p1 p2 (off p o p1 e)))
  have clear : Go prog w A R (updateSeq S (fun _ => #[]) >>= fun _ => letGo (#[] : Array Value).toList.reverse >>= fun _ => Builtin.List.listExtendWith (.ref S) (.ref it) .none) s := wpAny_bind (wpAny_updateSeq here rfl blank)
  show Go prog w A R (Builtin.List.listItems (.ref S) >>= fun old => Builtin.List.listUpdate (.ref S) (fun _ => #[]) >>= fun _ => letGo old.toList.reverse >>= fun _ => Builtin.List.listExtendWith (.ref S) (.ref it) .none) s
  exact wpAny_bind (by
    unfold Builtin.List.listItems
    exact wpAny_bind (wpAny_seqItems here rfl (wpAny_pure clear)))
theorem rev_list {E : Value → Shared → Prop} {Q : Value → Shared → Prop} (ok : A.handled = none) (b : Back s.heap it l items) (few : items.size ≤ sizeLine)
    (fin : ∀ h tk acc d, (∀ p o, p ≠ it → s.heap.get? p = some o → h.get? p = some o) → h.get? s.heap.objs.size = some { cls := .type "list", dict := none, data := .seq acc d, slots := #[] } → ItemsOf (Told items) acc items.size → Q (.ref s.heap.objs.size) { s with heap := h, toks := tk }) :
    wpAny (model prog w) A (call (.type "list") [.ref it]) Q E s := by
  have lt1 : it < s.heap.objs.size := let ⟨_, e, _⟩ := b.at_end; Heap.lt_size e
  have lt2 : l < s.heap.objs.size := let ⟨_, e, _⟩ := b.list; Heap.lt_size e
  have made : (s.heap.push { cls := .type "list", data := .seq #[] }).get? s.heap.objs.size = some _ := Heap.get?_push_size _ rfl
  refine callType_codes F.called_list (F.typeCall_list_1 _) F.entry_list_init (code_list_new (Q₁ := fun v t => v = .ref s.heap.objs.size ∧ t = { s with heap := s.heap.push { cls := .type "list", data := .seq #[] } }) _ ⟨rfl, rfl⟩) fun v t hv => ?_
  cases hv.1
  cases hv.2
  have b2 : Back (s.heap.push { cls := .type "list", data := .seq #[] }) it l items := b.moved fun p _ o e => Heap.get?_push_of_some _ e
  refine ⟨⟨_, made, rfl⟩, F.args_list_init_2 _ _, rev_init (A := A.in1) (s := { s with heap := s.heap.push { cls := .type "list", data := .seq #[] } }) ok b2 few _ made (by simp only [List.mem_cons, List.not_mem_nil, or_false, not_or]; exact ⟨Nat.ne_of_gt lt1, Nat.ne_of_gt lt2⟩) fun h tk acc d kept there told => ⟨rfl, fin h tk acc d (fun p o ne e => kept p o (Nat.ne_of_lt (Heap.lt_size e)) ne (Heap.get?_push_of_some _ e)) there told⟩⟩
end
/-- the reading of list(reversed(x)), x a list -/
def tLstRev (K : PySem.W.Frag) (te : TE) : TE := fun σ H Q => te σ H fun v H1 => ∃ (a : Addr) (xs : List V), v = .ref a ∧ SqL K H1 a xs ∧ ∀ q, H1 q = none → Q (.ref q) (upd H1 q (.lst xs.reverse))
theorem pe_lstRev {X : Cx} {e : Expr} {te : TE} {p p2 pos pos2 : Pos} (calm : X.calm = true) (hg : Gl X "list") (hm : X.mg "list" = none) (hg2 : Gl X "reversed") (hm2 : X.mg "reversed" = none) (he : PE X e te) (one : starEach [e] X.env = (false, eval e X.env) :: starEach [] X.env := by rfl) (two : starEach [.Call (.Name "reversed" p2) [e] [] pos2] X.env = (false, eval (.Call (.Name "reversed" p2) [e] [] pos2) X.env) :: starEach [] X.env := by rfl) :
    PE X (.Call (.Name "list" p) [.Call (.Name "reversed" p2) [e] [] pos2] [] pos) (tLstRev X.K te) := by
  constructor
  intro pins s σ H Q I h
  have inner : ∀ {R : List Value → Shared → Prop}, (∀ (a : Addr) (xs : List V) (t : Shared) (H1 : Hp) (its : List Value), Inv X pins σ H1 t → SqL X.K H1 a xs → (∀ q, H1 q = none → Q (.ref q) (upd H1 q (.lst xs.reverse))) → Vals xs its → t.heap.IsList a its.toArray → xs.length ≤ sizeLine →
      R [.ref t.heap.objs.size] { t with heap := t.heap.push (revObj a ((its.toArray.size : Int) - 1)) }) → wpAny (model X.prog X.w) X.A (spliced (backTo pos (starEach [.Call (.Name "reversed" p2) [e] [] pos2] X.env))) R X.xe s := fun k =>
    args_cons (Call_ (ld_blt I hg2 hm2 PyProof.Rows.boot_reversed (PyProof.Rows.callWith_type1 (args_cons (thn (he.run pins s σ H _ I h) fun u t ⟨v, H1, I1, r, a, xs, ev, hq, q⟩ => args_nil (by
      subst ev
      cases r
      obtain ⟨its, rv, pl, hz⟩ := I1.list hq
      exact call_reversed_list pl.isList (args_nil (k a xs t H1 its I1 hq q rv pl.isList hz)))) one) one rfl))) two
  refine Call_ (ld_blt I hg hm boot_list (PyProof.Rows.callWith_type1 (inner fun a xs t H1 its I1 hq q rv pl hz => ?_) two rfl))
  have lt : a < t.heap.objs.size := let ⟨_, e, _⟩ := pl; Heap.lt_size e
  have I2 : Inv X pins σ H1 { t with heap := t.heap.push (revObj a ((its.toArray.size : Int) - 1)) } := I1.kept (t' := t.toks) fun b o e => Heap.get?_push_of_some _ e
  have len : its.toArray.size = xs.length := by rw [List.size_toArray, rv.length]
  have hfr : H1 (t.heap.push (revObj a ((its.toArray.size : Int) - 1))).objs.size = none := I2.hok.fresh (Nat.le_refl _)
  refine rev_list (I1.ok.hd calm) (s := { t with heap := t.heap.push (revObj a ((its.toArray.size : Int) - 1)) }) ⟨⟨_, Heap.get?_push_size _ rfl, rfl, rfl⟩, pl.push _, Nat.ne_of_lt lt⟩ (by rw [len]; exact hz) fun h' tk acc d kept there told => ⟨.ref _, upd H1 _ (.lst xs.reverse), ?_, rfl, q _ hfr⟩
  refine I2.turnedNew (t' := tk) (ch := [t.heap.objs.size]) (fun b ob hb e => kept b ob (fun z => hb (by rw [z]; exact List.mem_cons_self)) e) (fun b hb => ?_) (Nat.le_refl _) ⟨by rw [List.length_reverse] <;> exact hz, acc.toList, d, RT.vals_rev rv told, there⟩
  cases List.mem_singleton.mp hb
  exact I1.fpOk (Nat.le_refl _) (I1.hok.fresh (Nat.le_refl _))
end HbR

set_option Elab.async false
set_option linter.all false
set_option maxRecDepth 100000
set_option maxHeartbeats 4000000
namespace Hb
open PySem PySem.Spec PyProof.Rows L2
/-! ### lists of numbers as values -/
def nv (l : List Nat) : List V := (outs l).map V.int
theorem nv_len (l : List Nat) : (nv l).length = l.length := by
  unfold nv outs
  rw [List.length_map, List.length_map]
theorem nv_get {l : List Nat} {i x : Nat} (h : l[i]? = some x) : (nv l)[i]? = some (.int (x : Int)) := by
  unfold nv outs
  rw [List.getElem?_map, List.getElem?_map, h]
  rfl
theorem getD_at {l : List Nat} {i : Nat} (h : i < l.length) : l[i]? = some (l.getD i 0) := by
  rw [List.getD_eq_getElem?_getD, List.getElem?_eq_getElem h]
  rfl
theorem nv_at {l : List Nat} {i : Nat} (h : i < l.length) : (nv l)[i]? = some (.int ((l.getD i 0 : Nat) : Int)) := nv_get (getD_at h)
theorem nv_app (l : List Nat) (x : Nat) : nv l ++ [.int (x : Int)] = nv (l ++ [x]) := by
  unfold nv outs
  rw [List.map_append, List.map_append]
  rfl
theorem nv_rev (l : List Nat) : (nv l).reverse = nv l.reverse := by
  unfold nv outs
  rw [List.map_reverse, List.map_reverse]
theorem nv_inv {l : List Nat} {i : Nat} {v : V} (h : (nv l)[i]? = some v) : ∃ x, l[i]? = some x ∧ v = .int (x : Int) := by
  unfold nv outs at h
  rw [List.getElem?_map, List.getElem?_map] at h
  cases e : l[i]? with
  | none =>
    rw [e] at h
    cases h
  | some x =>
    rw [e] at h
    exact ⟨x, rfl, (Option.some.inj h).symm⟩
theorem ifB {c : Bool} {A B : Prop} (h1 : c = true → A) (h2 : c = false → B) : if c = true then A else B := by
  cases c with
  | true => exact iteT (h1 rfl)
  | false => exact iteF (h2 rfl)
theorem same_upd {H : Hp} {p : Addr} {o : HO} (h : H p = none) : Same H (upd H p o) := fun b x e => by
  rw [upd_ne (ne_of_none e h)]
  exact e
theorem same_at {H H' : Hp} {p : Addr} {o : HO} (h : H p = none) (s : Same H H') : Same H (upd H' p o) := fun b x e => by
  rw [upd_ne (ne_of_none e h)]
  exact s b x e
theorem seq_upd {K : PySem.W.Frag} {H : Hp} {a p : Addr} {xs : List V} {o : HO} (h : SqL K H a xs) (hp : H p = none) : SqL K (upd H p o) a xs := (same_upd hp).seq h
/-! ### loops -/
/-- what a for asks of its walked thing J, behind its start -/
abbrev ForIt (J : It) (g : TG) (tb : TS) (D : Ends) (σ : L2.St) (H : Hp) : Prop := ∃ W : Nat → Nat → L2.St → Hp → Prop, (∃ m, W 0 m σ H) ∧ ∀ i m τ G, W i m τ G → (J.stop i G ∧ D.nx τ G) ∨
  (J.go i G ∧ ∃ N : L2.St → Hp → Prop, (∀ τ' G', N τ' G' → ∃ m', m' < m ∧ W (i + 1) m' τ' G') ∧ ∀ x G', J.yld i G x G' → g x τ G' fun τ2 G2 => tb { D with nx := N, ct := N, bk := D.nx } τ2 G2)
/-- one turn of it -/
abbrev Turn1 (g : TG) (tb : TS) (D : Ends) (N : L2.St → Hp → Prop) (x : V) (σ : L2.St) (H : Hp) : Prop := g x σ H fun σ2 H2 => tb { D with nx := N, ct := N, bk := D.nx } σ2 H2
theorem for_range0 {n : Nat} {g : TG} {tb : TS} {D : Ends} {σ : L2.St} {H : Hp} (Pv : Nat → L2.St → Hp → Prop) (start : Pv 0 σ H) (turn : ∀ i τ G, i < n → Pv i τ G → Turn1 g tb D (Pv (i + 1)) (.int (i : Int)) τ G) (done : ∀ τ G, Pv n τ G → D.nx τ G) : ForIt (Itr 0 n) g tb D σ H :=
  for_range (lo := 0) Pv start (fun i τ G hi p => by
    rw [Int.zero_add]
    exact turn i τ G hi p) done
/-- one turn of a comprehension: the item x, the new list at D -/
abbrev Comp1 (g : TG) (tt : TT) (te : TE) (vs : List Nat) (σ : L2.St) (D : Addr) (N : Hp → Prop) (x : V) (H : Hp) : Prop := g x (wipe σ vs) H fun σ2 H2 => wipe σ2 vs = wipe σ vs ∧ tt σ2 H2 fun b H3 =>
  if b = true then te σ2 H3 fun y H4 => ∃ acc, H4 D = some (.lst acc) ∧ acc.length < sizeLine ∧ N (upd H4 D (.lst (acc ++ [y]))) else N H3
abbrev CompIt (J : It) (g : TG) (tt : TT) (te : TE) (vs : List Nat) (σ : L2.St) (H : Hp) (D : Addr) (Qd : Hp → Prop) : Prop := ∃ W : Nat → Nat → Hp → Prop, (∃ m, W 0 m (upd H D (.lst []))) ∧ ∀ i m G, W i m G → (J.stop i G ∧ Qd G) ∨
  (J.go i G ∧ ∃ N : Hp → Prop, (∀ G', N G' → ∃ m', m' < m ∧ W (i + 1) m' G') ∧ ∀ x G', J.yld i G x G' → Comp1 g tt te vs σ D N x G')
theorem lc_range0 {n : Nat} {g : TG} {tt : TT} {te : TE} {vs : List Nat} {σ : L2.St} {H : Hp} {D : Addr} {Qd : Hp → Prop} (Pv : Nat → Hp → Prop) (start : Pv 0 (upd H D (.lst []))) (turn : ∀ i G, i < n → Pv i G → Comp1 g tt te vs σ D (Pv (i + 1)) (.int (i : Int)) G) (done : ∀ G, Pv n G → Qd G) : CompIt (Itr 0 n) g tt te vs σ H D Qd :=
  lc_range (lo := 0) Pv start (fun i G hi p => by
    rw [Int.zero_add]
    exact turn i G hi p) done
/-- a loop over enumerate(a list) -/
theorem for_Ite {K : PySem.W.Frag} {a : Addr} {xs : List V} {g : TG} {tb : TS} {D : Ends} {σ : L2.St} {H : Hp} (Pv : Nat → L2.St → Hp → Prop) (start : Pv 0 σ H) (still : ∀ i τ G, Pv i τ G → SqL K G a xs)
    (turn : ∀ (i : Nat) (x : V) (T : Addr) (τ : L2.St) (G : Hp), xs[i]? = some x → Pv i τ G → G T = none → Turn1 g tb D (Pv (i + 1)) (.ref T) τ (upd G T (.tup [.int (i : Nat), x]))) (done : ∀ τ G, Pv xs.length τ G → D.nx τ G) : ForIt (Ite K a) g tb D σ H := by
  refine ⟨fun i m τ G => m + i = xs.length ∧ Pv i τ G, ⟨xs.length, Nat.add_zero _, start⟩, fun i m τ G hw => ?_⟩
  obtain ⟨em, p⟩ := hw
  have q := still i τ G p
  cases m with
  | zero =>
    have e : i = xs.length := by omega
    refine .inl ⟨⟨xs, q, by omega⟩, done τ G ?_⟩
    rw [← e]
    exact p
  | succ m =>
    have lt : i < xs.length := by omega
    refine .inr ⟨⟨xs, _, q, List.getElem?_eq_getElem lt⟩, Pv (i + 1), fun τ' G' p' => ⟨m, Nat.lt_succ_self m, by omega, p'⟩, fun v G' y => ?_⟩
    obtain ⟨T, x, rfl, fresh, rfl, item⟩ := y
    exact turn i x T τ G (item xs q) p fresh
theorem shr_val (x n : Nat) : ((x : Int) / 2 ^ ((n : Int)).toNat) = ((x / 2 ^ n : Nat) : Int) := by
  rw [show ((n : Int)).toNat = n from rfl, Int.natCast_ediv, Int.natCast_pow]
  rfl
theorem dec_int (x y : Nat) : decide (V.int (x : Int) = V.int (y : Int)) = decide (x = y) := by
  by_cases h : x = y
  · subst h
    rw [decide_eq_true rfl, decide_eq_true rfl]
  · rw [decide_eq_false h, decide_eq_false]
    intro z
    have z' := V.int.inj z
    omega
end Hb

set_option Elab.async false
set_option linter.all false
set_option maxRecDepth 100000
set_option maxHeartbeats 4000000
namespace Hb
open PySem PySem.Spec PyProof.Rows L2
/-- a comprehension over enumerate(a list) -/
theorem lc_Ite {K : PySem.W.Frag} {a : Addr} {xs : List V} {g : TG} {tt : TT} {te : TE} {vs : List Nat} {σ : L2.St} {H : Hp} {D : Addr} {Qd : Hp → Prop} (Pv : Nat → Hp → Prop) (start : Pv 0 (upd H D (.lst []))) (still : ∀ i G, Pv i G → SqL K G a xs)
    (turn : ∀ (i : Nat) (x : V) (T : Addr) (G : Hp), xs[i]? = some x → Pv i G → G T = none → Comp1 g tt te vs σ D (Pv (i + 1)) (.ref T) (upd G T (.tup [.int (i : Nat), x]))) (done : ∀ G, Pv xs.length G → Qd G) : CompIt (Ite K a) g tt te vs σ H D Qd := by
  refine ⟨fun i m G => m + i = xs.length ∧ Pv i G, ⟨xs.length, Nat.add_zero _, start⟩, fun i m G hw => ?_⟩
  obtain ⟨em, p⟩ := hw
  have q := still i G p
  cases m with
  | zero =>
    have e : i = xs.length := by omega
    refine .inl ⟨⟨xs, q, by omega⟩, done G ?_⟩
    rw [← e]
    exact p
  | succ m =>
    have lt : i < xs.length := by omega
    refine .inr ⟨⟨xs, _, q, List.getElem?_eq_getElem lt⟩, Pv (i + 1), fun G' p' => ⟨m, Nat.lt_succ_self m, by omega, p'⟩, fun v G' y => ?_⟩
    obtain ⟨T, x, rfl, fresh, rfl, item⟩ := y
    exact turn i x T G (item xs q) p fresh
/-- a comprehension over a list -/
theorem lc_Itl {K : PySem.W.Frag} {a : Addr} {xs : List V} {g : TG} {tt : TT} {te : TE} {vs : List Nat} {σ : L2.St} {H : Hp} {D : Addr} {Qd : Hp → Prop} (Pv : Nat → Hp → Prop) (start : Pv 0 (upd H D (.lst []))) (still : ∀ i G, i ≤ xs.length → Pv i G → SqL K G a xs)
    (turn : ∀ (i : Nat) (x : V) (G : Hp), xs[i]? = some x → Pv i G → Comp1 g tt te vs σ D (Pv (i + 1)) x G) (done : ∀ G, Pv xs.length G → Qd G) : CompIt (Itl K a) g tt te vs σ H D Qd :=
  lc_list Pv start still turn done
theorem sq_new {K : PySem.W.Frag} {H : Hp} {a : Addr} {xs : List V} (h : H a = some (.lst xs)) : SqL K H a xs := .inl (.inl h)
theorem ltLine {n : Nat} (h : n ≤ 70000) : n < sizeLine := Nat.lt_of_le_of_lt h (by decide)
theorem leLine {n : Nat} (h : n ≤ 70000) : n ≤ sizeLine := Nat.le_of_lt (ltLine h)
end Hb

set_option Elab.async false
set_option linter.all false
set_option maxRecDepth 100000
set_option maxHeartbeats 4000000
namespace Hb
open PySem PySem.Spec PyProof.Rows L2 RT HbR
/-! ### the text -/
def topS (i : Nat) : Stmt := PySem.Challenge.pw_hatboxes_s06_boxes.main.body.getD i (.Pass ⟨0, 0, 0, 0⟩)
abbrev s_main : Stmt := topS 1
abbrev n_main : List Str := ["n", "k", "p", "refused"]
abbrev p_main : List Str := ["n", "k", "p"]
theorem sc_main : FnScope n_main p_main (defScope s_main) := ⟨rfl, rfl, rfl, by decide +kernel, rfl, by decide +kernel, by decide +kernel⟩
abbrev s_order_refusal : Stmt := topS 2
abbrev n_order_refusal : List Str := ["n", "k", "p"]
abbrev p_order_refusal : List Str := ["n", "k", "p"]
theorem sc_order_refusal : FnScope n_order_refusal p_order_refusal (defScope s_order_refusal) := ⟨rfl, rfl, rfl, by decide +kernel, rfl, by decide +kernel, by decide +kernel⟩
abbrev s_round_from : Stmt := topS 3
abbrev n_round_from : List Str := ["first", "p", "found"]
abbrev p_round_from : List Str := ["first", "p"]
theorem sc_round_from : FnScope n_round_from p_round_from (defScope s_round_from) := ⟨rfl, rfl, rfl, by decide +kernel, rfl, by decide +kernel, by decide +kernel⟩
abbrev s_rounds_of : Stmt := topS 4
abbrev n_rounds_of : List Str := ["p", "rounds", "reached", "first", "found", "box"]
abbrev p_rounds_of : List Str := ["p"]
theorem sc_rounds_of : FnScope n_rounds_of p_rounds_of (defScope s_rounds_of) := ⟨rfl, rfl, rfl, by decide +kernel, rfl, by decide +kernel, by decide +kernel⟩
abbrev s_rounds_longer_than : Stmt := topS 5
abbrev n_rounds_longer_than : List Str := ["k", "p", "found"]
abbrev p_rounds_longer_than : List Str := ["k", "p"]
theorem sc_rounds_longer_than : FnScope n_rounds_longer_than p_rounds_longer_than (defScope s_rounds_longer_than) := ⟨rfl, rfl, rfl, by decide +kernel, rfl, by decide +kernel, by decide +kernel⟩
/-- a def of the module, where it lies, how it binds, its name in the module -/
structure Fn (K : PySem.W.Frag) (mg : Str → Option Value) (nm : Str) (st : Stmt) (ps : List Str) where
  f : Addr
  fd : FuncData
  F : Fun K nm nm st f fd
  b : Binds K fd ps []
  g : mg nm = some (.ref f)
section
variable {P : Program} {w : World} {K : PySem.W.Frag} {mg : Str → Option Value} {base : Heap}

/-! ### order_refusal -/
theorem lay_ints : ∀ ns : List Int, PyData.canLayAll0 (ns.map PyData.int) = true
  | [] => by simp only [List.map_nil, PyData.canLayAll0]
  | n :: ns => by
    simp only [List.map_cons, PyData.canLayAll0, PyData.canLay0, Bool.true_and]
    exact lay_ints ns
theorem depth_ints : ∀ ns : List Int, PyData.depthAll (ns.map PyData.int) = 0
  | [] => by simp only [List.map_nil, PyData.depthAll]
  | n :: ns => by
    simp only [List.map_cons, PyData.depthAll, PyData.depth, depth_ints ns]
    rfl
theorem shaped_ints (ns : List Int) : SeqAt.shaped (.list (ns.map PyData.int)) = true := by
  have h2 : PyData.depth (.list (ns.map PyData.int)) ≤ 64 := by
    simp only [PyData.depth, depth_ints]
    decide
  show (PyData.canLay0 (.list (ns.map PyData.int)) && decide (PyData.depth (.list (ns.map PyData.int)) ≤ 64)) = true
  rw [Bool.and_eq_true]
  exact ⟨by simp only [PyData.canLay0]; exact lay_ints ns, decide_eq_true h2⟩
theorem eqv_all_ints : ∀ ns ms : List Int, PyData.eqvAll (ns.map PyData.int) (ms.map PyData.int) = decide (ns = ms)
  | [], [] => by simp only [List.map_nil, PyData.eqvAll]; rfl
  | [], m :: ms => by simp only [List.map_nil, List.map_cons, PyData.eqvAll]; rfl
  | n :: ns, [] => by simp only [List.map_nil, List.map_cons, PyData.eqvAll]; rfl
  | n :: ns, m :: ms => by
    simp only [List.map_cons, PyData.eqvAll, PyData.eqv, eqv_all_ints ns ms]
    by_cases h : n = m
    · subst h
      by_cases h2 : ns = ms
      · subst h2
        simp
      · simp [h2]
    · simp [h]
theorem eqv_ints (ns ms : List Int) : PyData.eqv (.list (ns.map PyData.int)) (.list (ms.map PyData.int)) = decide (ns = ms) := by
  simp only [PyData.eqv, eqv_all_ints]
theorem dp_ints {H : Hp} : ∀ ns : List Int, DpAll K H (ns.map V.int) (ns.map PyData.int)
  | [] => .nil
  | n :: ns => .cons (.int n) (dp_ints ns)
theorem rg_nv (n : Nat) : rgV 0 (n : Int) = (outs (List.range n)).map V.int := by
  unfold rgV outs
  rw [Int.sub_zero, Int.toNat_natCast, List.map_map]
  refine List.map_congr_left fun i _ => ?_
  show V.int (0 + (i : Int)) = V.int (i : Int)
  rw [Int.zero_add]
theorem outs_range_le (n : Nat) : (outs (List.range n)).Pairwise (· ≤ ·) := by
  unfold outs
  rw [List.pairwise_map]
  refine List.Pairwise.imp ?_ (List.pairwise_lt_range (n := n))
  intro a b h
  omega
/-- sorted, it is 0, 1, .. if and only if it is an order -/
theorem sorted_order {n : Nat} {p : List Nat} {ns : List Int} (hl : p.length = n) (pm : ns.Perm (outs p)) (up : ns.Pairwise (· ≤ ·)) : ns = outs (List.range n) ↔ Sn88.isOrder n p = true := by
  constructor
  · intro e
    subst e
    refine order_of hl fun i hi => ?_
    have h1 : (i : Int) ∈ outs (List.range n) := List.mem_map.mpr ⟨i, List.mem_range.mpr hi, rfl⟩
    obtain ⟨x, hx, e⟩ := List.mem_map.mp (pm.mem_iff.mp h1)
    have e2 : x = i := by
      have e3 : (x : Int) = (i : Int) := e
      omega
    subst e2
    exact hx
  · intro h
    have p2 : (outs p).Perm (outs (List.range n)) := (order_perm h).map _
    exact List.Perm.eq_of_pairwise (le := (· ≤ ·)) (fun a b _ _ h1 h2 => Int.le_antisymm h1 h2) up (outs_range_le n) (pm.trans p2)
def refusalO (n k : Int) (p : List Nat) : Int := if Sn88.boxOk n k = false then -2 else if Sn88.isOrder n.toNat p = false then -3 else 0
theorem refusalO_2 {n k : Int} {p : List Nat} (h : ¬ ((1 ≤ n ∧ n ≤ 1024) ∧ (0 ≤ k ∧ k ≤ n))) : refusalO n k p = -2 := by
  unfold refusalO
  rw [if_pos (not_true fun z => h (boxOk_iff.mp z))]
theorem refusalO_3 {n k : Int} {p : List Nat} (h : (1 ≤ n ∧ n ≤ 1024) ∧ (0 ≤ k ∧ k ≤ n)) (h3 : ¬ Sn88.isOrder n.toNat p = true) : refusalO n k p = -3 := by
  unfold refusalO
  rw [if_neg (by rw [boxOk_iff.mpr h]; decide), if_pos (not_true h3)]
theorem refusalO_0 {n k : Int} {p : List Nat} (h : (1 ≤ n ∧ n ≤ 1024) ∧ (0 ≤ k ∧ k ≤ n)) (h3 : Sn88.isOrder n.toNat p = true) : refusalO n k p = 0 := by
  unfold refusalO
  rw [if_neg (by rw [boxOk_iff.mpr h]; decide), if_neg (by rw [h3]; decide)]
/-- refused or not -/
theorem refusalO_cases (n k : Int) (p : List Nat) : (refusalO n k p = -2 ∧ ¬ ((1 ≤ n ∧ n ≤ 1024) ∧ (0 ≤ k ∧ k ≤ n))) ∨ (refusalO n k p = -3 ∧ ((1 ≤ n ∧ n ≤ 1024) ∧ (0 ≤ k ∧ k ≤ n)) ∧ ¬ Sn88.isOrder n.toNat p = true) ∨
    (refusalO n k p = 0 ∧ ((1 ≤ n ∧ n ≤ 1024) ∧ (0 ≤ k ∧ k ≤ n)) ∧ Sn88.isOrder n.toNat p = true) := by
  by_cases h : (1 ≤ n ∧ n ≤ 1024) ∧ (0 ≤ k ∧ k ≤ n)
  · by_cases h3 : Sn88.isOrder n.toNat p = true
    · exact .inr (.inr ⟨refusalO_0 h h3, h, h3⟩)
    · exact .inr (.inl ⟨refusalO_3 h h3, h, h3⟩)
  · exact .inl ⟨refusalO_2 h, h⟩
def spRefusal (K : PySem.W.Frag) : Sp := fun vs H Q _ => ∃ (a : Addr) (p : List Nat) (n k : Int), vs = [.int n, .int k, .ref a] ∧ SqL K H a (nv p) ∧ (1 ≤ n → n ≤ 1024 → p.length = n.toNat) ∧ ∀ H', Same H H' → Q (.int (refusalO n k p)) H'
theorem ok_order_refusal {k : Nat} (M : Fn K mg "order_refusal" s_order_refusal p_order_refusal) (mso : mg "sorted" = none) (mli : mg "list" = none) (mr : mg "range" = none) : FnOk P w K mg base CX0 (k + 1) M.f M.fd p_order_refusal (spRefusal K) := by
  refine M.F.ok sc_order_refusal (fun vs H Q E h => ?_) (fun cdv A outer s H vs Q E hr h => ?_)
  · obtain ⟨a, p, n, k, rfl, _⟩ := h
    rfl
  · obtain ⟨a, p, n, k, rfl, hS, hlen, q⟩ := h
    refine ⟨_, pss_cons (ps_if (PW.pt (pw_or (pt_cmpR op_lt (pv 0) pe_int (nomark _)) (pw_or (pt_cmpR op_gt (pv 0) pe_int (nomark _)) (pw_or (pt_cmpR op_lt (pv 1) pe_int (nomark _)) (pw_or1 (pt_cmpR op_gt (pv 1) (pv 0) (nomark _))))))) (pss_one (ps_ret (pe_un un_neg pe_int))) pss_nil)
      (pss_cons (ps_if (pt_cmpR (op_neD hr.units) (pe_callB cr_sortedI (by rfl) mso (by decide +kernel) (pa_cons (pv 2) pa_nil)) (pe_listRg rfl (by rfl) mli (prg_1 (by rfl) mr (pv 0))) (nomark _)) (pss_one (ps_ret (pe_un un_neg pe_int))) pss_nil)
      (pss_one (ps_ret pe_int))), ?_⟩
    have bad2 : ¬ ((1 ≤ n ∧ n ≤ 1024) ∧ (0 ≤ k ∧ k ≤ n)) → Q (.int (-2)) H := fun hb => by
      have e := q H (Same.refl H)
      rw [refusalO_2 hb] at e
      exact e
    refine ⟨_, rfl, _, _, rfl, rfl, _, rfl, ifB (fun c => iteT ⟨_, rfl, bad2 fun hb => ?_⟩) (fun c1 => ?_)⟩
    · have := of_decide_eq_true c
      omega
    refine ⟨_, rfl, _, _, rfl, rfl, _, rfl, ifB (fun c => iteT ⟨_, rfl, bad2 fun hb => ?_⟩) (fun c2 => ?_)⟩
    · have := of_decide_eq_true c
      omega
    refine ⟨_, rfl, _, _, rfl, rfl, _, rfl, ifB (fun c => iteT ⟨_, rfl, bad2 fun hb => ?_⟩) (fun c3 => ?_)⟩
    · have := of_decide_eq_true c
      omega
    refine ⟨_, rfl, _, rfl, _, _, rfl, rfl, _, rfl, ifB (fun c => ⟨_, rfl, bad2 fun hb => ?_⟩) (fun c4 => ?_)⟩
    · have := of_decide_eq_true c
      omega
    have hok : (1 ≤ n ∧ n ≤ 1024) ∧ (0 ≤ k ∧ k ≤ n) := by
      have h1 := of_decide_eq_false c1
      have h2 := of_decide_eq_false c2
      have h3 := of_decide_eq_false c3
      have h4 := of_decide_eq_false c4
      omega
    have hl := hlen hok.1.1 hok.1.2
    obtain ⟨n', rfl⟩ := Int.eq_ofNat_of_zero_le (show 0 ≤ n by omega)
    rw [Int.toNat_natCast] at hl
    refine ⟨.ref a, rfl, a, outs p, rfl, hS, fun ns S pm up hSn => ?_⟩
    refine ⟨.int (n' : Int), rfl, (n' : Int), rfl, RgOk.of_le (by omega) (by omega) (by omega) (by omega), fun L hL => ?_⟩
    have hSL : S ≠ L := fun e => by
      rw [← e, upd_same] at hL
      cases hL
    refine ⟨.list (ns.map PyData.int), .list ((outs (List.range n')).map PyData.int), .lst (sq_new (by rw [upd_ne hSL, upd_same])) (dp_ints ns), .lst (sq_new (by rw [upd_same, rg_nv])) (dp_ints _), shaped_ints _, shaped_ints _, _, rfl, ?_⟩
    have sm : Same H (upd (upd H S (.lst (ns.map V.int))) L (.lst (rgV 0 (n' : Int)))) := (same_upd hSn).trans (same_upd hL)
    rw [eqv_ints]
    have e := q _ sm
    have so := sorted_order hl pm up
    refine ifB (fun c => ?_) (fun c => ?_)
    · refine ⟨_, rfl, ?_⟩
      have h3 : ¬ Sn88.isOrder (n' : Int).toNat p = true := fun z => by
        have z2 := so.mpr z
        rw [decide_eq_true z2] at c
        cases c
      rw [refusalO_3 hok h3] at e
      exact e
    · have h3 : Sn88.isOrder (n' : Int).toNat p = true := by
        refine so.mp ?_
        by_cases z : ns = outs (List.range n')
        · exact z
        · rw [decide_eq_false z] at c
          cases c
      rw [refusalO_0 hok h3] at e
      exact e

/-! ### round_from -/
def pathL (f : Nat → Nat) (x m : Nat) : List Nat := (List.range m).map (al f x)
theorem pathL_succ (f : Nat → Nat) (x m : Nat) : pathL f x (m + 1) = pathL f x m ++ [al f x m] := by
  unfold pathL
  rw [List.range_succ, List.map_append]
  rfl
theorem pathL_len (f : Nat → Nat) (x m : Nat) : (pathL f x m).length = m := by
  unfold pathL
  rw [List.length_map, List.length_range]
def spRound (K : PySem.W.Frag) : Sp := fun vs H Q _ => ∃ (a : Addr) (p : List Nat) (x n : Nat), vs = [.int (x : Int), .ref a] ∧ SqL K H a (nv p) ∧ Sn88.isOrder n p = true ∧ n ≤ 1024 ∧ x < n ∧ ∀ H' D, Same H H' → H D = none → H' D = some (.lst (nv (roundL n (fn p) x))) → Q (.ref D) H'
theorem ok_round_from {k : Nat} (M : Fn K mg "round_from" s_round_from p_round_from) : FnOk P w K mg base CX0 (k + 1) M.f M.fd p_round_from (spRound K) := by
  refine M.F.ok sc_round_from (fun vs H Q E h => ?_) (fun cdv A outer s H vs Q E hr h => ?_)
  · obtain ⟨a, p, x, n, rfl, _⟩ := h
    rfl
  · obtain ⟨a, p, x, n, rfl, hS, ho, hn, hx, k⟩ := h
    refine ⟨_, pss_cons (ps_set (i := 2) sc_round_from.nd rfl (.inl rfl) (pe_lst (pa_cons (pv 0) pa_nil)))
      (pss_cons (ps_while PassesOwn.never (pt_cmpR op_ne (pe_ix ix_list (pv 1) (pe_ix ix_list (pv 2) (pe_un un_neg pe_int) (fun _ _ => rfl)) (fun _ _ => rfl)) (pv 0) (nomark _))
        (pss_one (ps_expr (pe_bm PySem.F.plainAttrs_list PySem.F.slot_list_append PySem.F.type_list_append mt_append (pv 2) (pa_cons (pe_ix ix_list (pv 1) (pe_ix ix_list (pv 2) (pe_un un_neg pe_int) (fun _ _ => rfl)) (fun _ _ => rfl)) pa_nil)))))
      (pss_one (ps_ret (pv 2)))), ?_⟩
    have F := order_inj ho
    have hl := order_len ho
    have hb := rnd_back F hx
    refine ⟨.int (x : Int), rfl, (by show 1 ≤ sizeLine; decide), fun D hD => ?_⟩
    refine ⟨fun m σ H' => ∃ j, m + (j + 1) = rnd n (fn p) x ∧ σ = [some (.int (x : Int)), some (.ref a), some (.ref D)] ∧ Same H H' ∧ H' D = some (.lst (nv (pathL (fn p) x (j + 1)))), ⟨rnd n (fn p) x - 1, 0, by have := hb.1.pos; omega, rfl, same_upd hD, upd_same⟩, ?_⟩
    rintro m σ H' ⟨j, hj, rfl, sm, hd⟩
    have hlast : atI (nv (pathL (fn p) x (j + 1))) (-1) = some (.int ((al (fn p) x j : Nat) : Int)) := by
      rw [pathL_succ, ← nv_app]
      exact atI_last _ _
    have hat : al (fn p) x j < p.length := by
      rw [hl]
      exact al_lt F hx j
    have hnext : atI (nv p) ((al (fn p) x j : Nat) : Int) = some (.int ((al (fn p) x (j + 1) : Nat) : Int)) := atI_nat (nv_at hat)
    refine ⟨.ref a, rfl, .ref D, rfl, _, rfl, D, _, _, _, rfl, rfl, sq_new hd, hlast, a, nv p, _, _, rfl, rfl, sm.seq hS, hnext, .int (x : Int), rfl, rfl, _, rfl, ifB (fun c => ?_) (fun c => ?_)⟩
    · have ne : al (fn p) x (j + 1) ≠ x := fun z => by
        have c1 : (!decide (V.int ((al (fn p) x (j + 1) : Nat) : Int) = V.int (x : Int))) = true := c
        rw [dec_int, decide_eq_true z] at c1
        cases c1
      have lt : j + 1 < rnd n (fn p) x := by
        rcases Nat.lt_or_ge (j + 1) (rnd n (fn p) x) with z | z
        · exact z
        · have e : j + 1 = rnd n (fn p) x := by omega
          rw [e] at ne
          exact absurd hb.1.back ne
      refine ⟨fun σ' H2 => σ' = [some (.int (x : Int)), some (.ref a), some (.ref D)] ∧ Same H H2 ∧ H2 D = some (.lst (nv (pathL (fn p) x (j + 2)))), ?_, ?_⟩
      · rintro σ' H2 ⟨rfl, sm2, hd2⟩
        exact ⟨m - 1, by omega, j + 1, by omega, rfl, sm2, hd2⟩
      · refine ⟨.ref D, rfl, .inl ⟨rfl, _, sq_new hd⟩, .ref a, rfl, .ref D, rfl, _, rfl, D, _, _, _, rfl, rfl, sq_new hd, hlast, a, nv p, _, _, rfl, rfl, sm.seq hS, hnext, D, _, _, rfl, rfl, hd, ?_, rfl, same_at hD sm, ?_⟩
        · rw [nv_len, pathL_len]
          exact ltLine (by omega)
        · rw [upd_same, nv_app, ← pathL_succ]
    · have e : al (fn p) x (j + 1) = x := by
        by_cases z : al (fn p) x (j + 1) = x
        · exact z
        · exfalso
          have c1 : (!decide (V.int ((al (fn p) x (j + 1) : Nat) : Int) = V.int (x : Int))) = false := c
          rw [dec_int, decide_eq_false z] at c1
          cases c1
      have ej : j + 1 = rnd n (fn p) x := by
        rcases Nat.lt_or_ge (j + 1) (rnd n (fn p) x) with z | z
        · exact absurd e (hb.1.first (j + 1) (by omega) z)
        · omega
      rw [ej] at hd
      exact ⟨_, rfl, k H' D sm hD hd⟩

/-! ### rounds_of -/
/-- rs: lists, each at an address that keeps N, the rounds from xs on -/
def RdsAt (H : Hp) (N : Addr → Prop) (n : Nat) (f : Nat → Nat) (xs : List Nat) (rs : List Addr) : Prop := rs.length = xs.length ∧ ∀ (j x : Nat), xs[j]? = some x → ∃ r, rs[j]? = some r ∧ N r ∧ H r = some (.lst (nv (roundL n f x)))
theorem RdsAt.nil {H : Hp} {N : Addr → Prop} {n : Nat} {f : Nat → Nat} : RdsAt H N n f [] [] := ⟨rfl, fun j x h => by cases h⟩
theorem RdsAt.move {H H' : Hp} {N N' : Addr → Prop} {n : Nat} {f : Nat → Nat} {xs : List Nat} {rs : List Addr} (h : RdsAt H N n f xs rs) (hm : ∀ r o, N r → H r = some o → N' r ∧ H' r = some o) : RdsAt H' N' n f xs rs :=
  ⟨h.1, fun j x hx => by
    obtain ⟨r, e1, e2, e3⟩ := h.2 j x hx
    exact ⟨r, e1, hm r _ e2 e3⟩⟩
theorem RdsAt.push {H : Hp} {N : Addr → Prop} {n : Nat} {f : Nat → Nat} {xs : List Nat} {rs : List Addr} {x : Nat} {r : Addr} (h : RdsAt H N n f xs rs) (hr : N r) (hx : H r = some (.lst (nv (roundL n f x)))) : RdsAt H N n f (xs ++ [x]) (rs ++ [r]) := by
  refine ⟨by rw [List.length_append, List.length_append, h.1]; rfl, fun j y hy => ?_⟩
  rcases Nat.lt_or_ge j xs.length with z | z
  · rw [List.getElem?_append_left z] at hy
    obtain ⟨u, e1, e2⟩ := h.2 j y hy
    refine ⟨u, ?_, e2⟩
    rw [List.getElem?_append_left (by rw [h.1]; exact z)]
    exact e1
  · rw [List.getElem?_append_right z] at hy
    have hj : j - xs.length = 0 := by
      have := (List.getElem?_eq_some_iff.mp hy).1
      rw [List.length_singleton] at this
      omega
    rw [hj] at hy
    have e : x = y := Option.some.inj hy
    subst e
    refine ⟨r, ?_, hr, hx⟩
    rw [List.getElem?_append_right (by rw [h.1]; exact z), h.1, hj]
    rfl
/-- the Bools of 0 .. n - 1 as values -/
def bv (n : Nat) (g : Nat → Bool) : List V := (List.range n).map fun y => .bl (g y)
theorem bv_len (n : Nat) (g : Nat → Bool) : (bv n g).length = n := by
  unfold bv
  rw [List.length_map, List.length_range]
theorem bv_at {n y : Nat} (g : Nat → Bool) (h : y < n) : (bv n g)[y]? = some (.bl (g y)) := by
  unfold bv
  rw [List.getElem?_map, List.getElem?_range h]
  rfl
theorem bv_set {n y : Nat} (g : Nat → Bool) (h : y < n) : (bv n g).set y (.bl true) = bv n fun z => g z || z == y := by
  refine List.ext_getElem? fun i => ?_
  rcases Nat.lt_or_ge i n with z | z
  · rw [bv_at _ z]
    by_cases e : y = i
    · subst e
      rw [List.getElem?_set_self (by rw [bv_len]; exact h), beq_self_eq_true, Bool.or_true]
    · rw [List.getElem?_set_ne e, bv_at _ z, show (i == y) = false from beq_false_of_ne (fun q => e q.symm), Bool.or_false]
  · rw [List.getElem?_eq_none (by rw [List.length_set, bv_len]; exact z), List.getElem?_eq_none (by rw [bv_len]; exact z)]
theorem bv_false (n : Nat) : (List.replicate n [V.bl false]).flatten = bv n fun _ => false := by
  unfold bv
  induction n with
  | zero => rfl
  | succ n ih =>
    rw [List.replicate_succ', List.flatten_append, ih, List.range_succ, List.map_append]
    rfl
theorem ixN_nat {n j : Nat} (h : j < n) : ixN n (j : Int) = some j := by
  unfold ixN
  rw [if_pos (by omega), if_pos (by omega), Int.toNat_natCast]
def spRounds (K : PySem.W.Frag) : Sp := fun vs H Q _ => ∃ (a : Addr) (p : List Nat) (n : Nat), vs = [.ref a] ∧ SqL K H a (nv p) ∧ Sn88.isOrder n p = true ∧ n ≤ 1024 ∧
  ∀ H' D rs, Same H H' → H D = none → H' D = some (.lst (rs.map V.ref)) → RdsAt H' (fun _ => True) n (fn p) (leads n (fn p) n) rs → Q (.ref D) H'
theorem ok_rounds_of {k : Nat} (M : Fn K mg "rounds_of" s_rounds_of p_rounds_of) (TF : Fn K mg "round_from" s_round_from p_round_from) (ml : mg "len" = none) (mr : mg "range" = none) : FnOk P w K mg base CX0 (k + 2) M.f M.fd p_rounds_of (spRounds K) := by
  have GF : FnOk P w K mg base CX0 (k + 1) TF.f TF.fd p_round_from (spRound K) := ok_round_from TF
  refine M.F.ok sc_rounds_of (fun vs H Q E h => ?_) (fun cdv A outer s H vs Q E hr h => ?_)
  · obtain ⟨a, p, n, rfl, _⟩ := h
    rfl
  · obtain ⟨a, p, n, rfl, hS, ho, hn, k⟩ := h
    refine ⟨_, pss_cons (ps_set (i := 1) sc_rounds_of.nd rfl (.inl rfl) (pe_lst pa_nil))
      (pss_cons (ps_set (i := 2) sc_rounds_of.nd rfl (.inl rfl) (pe_op op_rep (pe_lst (pa_cons pe_bl pa_nil)) (pe_callB call_len_seq (by rfl) ml PySem.boot_len (pa_cons (pv 0) pa_nil))))
      (pss_cons (ps_for PassesOwn.never rfl (pi_range1 (by rfl) mr (pa_cons (pe_callB call_len_seq (by rfl) ml PySem.boot_len (pa_cons (pv 0) pa_nil)) pa_nil)) (pg_name (i := 3) sc_rounds_of.nd rfl (.inl rfl))
        (pss_one (ps_if (pt_not (pt_val (pe_ix ix_list (pv 2) (pv 3) (fun _ _ => rfl))))
          (pss_cons (ps_set (i := 4) sc_rounds_of.nd rfl (.inl rfl) (pe_call GF hr (by rfl) TF.g TF.F.kp TF.b .nil pass0 (pa_cons (pv 3) (pa_cons (pv 0) pa_nil))))
          (pss_cons (ps_for PassesOwn.never rfl (pi_list (pv 4)) (pg_name (i := 5) sc_rounds_of.nd rfl (.inl rfl)) (pss_one (ps_asg pe_bl (pg_sub (pv 2) (pv 5) set_list))))
          (pss_one (ps_expr (pe_bm PySem.F.plainAttrs_list PySem.F.slot_list_append PySem.F.type_list_append mt_append (pv 1) (pa_cons (pv 4) pa_nil))))))
          pss_nil)))
      (pss_one (ps_ret (pv 1))))), ?_⟩
    have F := order_inj ho
    have hl := order_len ho
    refine ⟨Nat.zero_le _, fun D hD => ?_⟩
    have smD : Same H (upd H D (.lst [])) := same_upd hD
    refine ⟨(by show 1 ≤ sizeLine; decide), fun T hT => ?_⟩
    have smT := smD.trans (same_upd (o := .lst [.bl false]) hT)
    refine ⟨.ref a, rfl, a, nv p, rfl, .inl (smT.seq hS), T, _, _, rfl, rfl, upd_same, ?_, ?_, ?_, fun R hR => ?_⟩
    · rw [nv_len]
      omega
    · rw [nv_len]
      omega
    · rw [nv_len, Int.toNat_natCast, hl]
      exact leLine (by show 1 * n ≤ 70000; omega)
    rw [nv_len, hl, Int.toNat_natCast, bv_false]
    have smR := smT.trans (same_upd (o := .lst (bv n fun _ => false)) hR)
    have hRH : H R = none := smT.free hR
    have hDR : D ≠ R := fun e => by
      have h1 : upd (upd H D (.lst [])) T (.lst [.bl false]) D = some (.lst []) := same_upd hT _ _ upd_same
      have h2 := hR
      rw [← e, h1] at h2
      cases h2
    refine ⟨.ref a, rfl, a, nv p, rfl, .inl (smR.seq hS), ((nv p).length : Int), rfl, by omega, ?_, ?_⟩
    · rw [nv_len]
      omega
    rw [nv_len, hl]
    refine for_range0 (n := n) (fun i σ H' => (∃ y z u, σ = [some (.ref a), some (.ref D), some (.ref R), y, z, u]) ∧ Same H H' ∧ H' R = some (.lst (bv n fun y => reached n (fn p) i y)) ∧ ∃ rs, H' D = some (.lst (rs.map V.ref)) ∧ RdsAt H' (fun r => r ≠ R ∧ r ≠ D) n (fn p) (leads n (fn p) i) rs) ?_ ?_ ?_
    · refine ⟨⟨_, _, _, rfl⟩, smR, upd_same, [], ?_, RdsAt.nil⟩
      rw [upd_ne hDR]
      exact same_upd hT _ _ upd_same
    · rintro i σ H' hi ⟨⟨y, z, u, rfl⟩, sm, hr1, rs, hd, hrs⟩
      refine ⟨.ref R, rfl, .int (i : Int), rfl, R, _, _, .bl (reached n (fn p) i i), rfl, rfl, sq_new hr1, atI_nat (bv_at (fun y => reached n (fn p) i y) hi), _, rfl, ifB (fun c => ?_) (fun c => ?_)⟩
      · have c0 : reached n (fn p) i i = false := by
          cases e : reached n (fn p) i i with
          | false => rfl
          | true =>
            rw [e] at c
            cases c
        refine ⟨.int (i : Int), rfl, .ref a, rfl, a, p, i, n, rfl, sm.seq hS, ho, hn, hi, fun H2 G sm2 hG hg => ?_⟩
        have hGR : G ≠ R := fun e => by
          rw [e, hr1] at hG
          cases hG
        have hGD : G ≠ D := fun e => by
          rw [e, hd] at hG
          cases hG
        have hr2 := sm2 _ _ hr1
        refine ⟨.ref G, rfl, G, rfl, ⟨_, sq_new hg⟩, for_list (K := K) (a := G) (xs := nv (roundL n (fn p) i)) (fun j σ H3 => (∃ u, σ = [some (.ref a), some (.ref D), some (.ref R), some (.int (i : Int)), some (.ref G), u]) ∧ (∀ b o, b ≠ R → H2 b = some o → H3 b = some o) ∧ H3 R = some (.lst (bv n fun y => reached n (fn p) i y || ((roundL n (fn p) i).take j).contains y))) ⟨⟨u, rfl⟩, fun _ _ _ h => h, ?_⟩ (fun _ _ _ _ h => sq_new (h.2.1 _ _ hGR hg)) ?_ ?_⟩
        · rw [hr2]
          congr 3
          funext y
          rw [List.take_zero]
          exact (Bool.or_false _).symm
        · rintro j v σ H3 hv ⟨⟨u, rfl⟩, keep, hr3⟩
          obtain ⟨y, hy, rfl⟩ := nv_inv hv
          have hyn : y < n := roundL_lt F hi (List.mem_of_getElem? hy)
          refine ⟨.ref R, rfl, .int (y : Int), rfl, R, _, _, y, rfl, rfl, hr3, ixN_nat (by rw [bv_len]; exact hyn), ⟨_, rfl⟩, fun b o hb e => ?_, ?_⟩
          · rw [upd_ne hb]
            exact keep b o hb e
          · rw [upd_same, bv_set _ hyn, take_more hy]
            congr 3
            funext q
            rw [List.contains_append, Bool.or_assoc]
            congr 2
            show (q == y) = (q == y || false)
            rw [Bool.or_false]
        · rintro σ H3 ⟨⟨u, rfl⟩, keep, hr3⟩
          rw [nv_len, List.take_length] at hr3
          have hd3 := keep D _ hDR (sm2 _ _ hd)
          have sm3 : Same H H3 := fun b o e => keep b o (ne_of_none e hRH) (sm2 _ _ (sm _ _ e))
          refine ⟨.ref D, rfl, .inl ⟨rfl, _, sq_new hd3⟩, .ref G, rfl, D, _, _, rfl, rfl, hd3, ?_, ⟨_, _, _, rfl⟩, same_at hD sm3, ?_, rs ++ [G], ?_, ?_⟩
          · rw [List.length_map, hrs.1]
            have := leads_len n (fn p) i
            exact ltLine (by omega)
          · rw [upd_ne (Ne.symm hDR), hr3]
            congr 3
            funext y
            exact (reached_succ n (fn p) i y).symm
          · rw [upd_same, List.map_append]
            rfl
          · rw [leads_succ, if_neg (by rw [c0]; decide)]
            refine RdsAt.push (hrs.move fun r o nr e => ⟨nr, ?_⟩) ⟨hGR, hGD⟩ ?_
            · rw [upd_ne nr.2]
              exact keep r o nr.1 (sm2 _ _ e)
            · rw [upd_ne hGD]
              exact keep G _ hGR hg
      · have c0 : reached n (fn p) i i = true := by
          cases e : reached n (fn p) i i with
          | true => rfl
          | false =>
            rw [e] at c
            cases c
        refine ⟨⟨_, _, _, rfl⟩, sm, ?_, rs, hd, ?_⟩
        · rw [hr1]
          congr 3
          funext y
          exact (reached_same F hi c0 y).symm
        · rw [leads_succ, if_pos c0, List.append_nil]
          exact hrs
    · rintro σ H' ⟨⟨y, z, u, rfl⟩, sm, _, rs, hd, hrs⟩
      exact ⟨_, rfl, k H' D rs sm hD hd (hrs.move fun r o _ e => ⟨trivial, e⟩)⟩

/-! ### rounds_longer_than -/
def longTo (n : Nat) (f : Nat → Nat) (k : Nat) (xs : List Nat) (i : Nat) : List Nat := (xs.take i).filter fun x => decide (k < rnd n f x)
theorem longTo_len (n : Nat) (f : Nat → Nat) (k : Nat) (xs : List Nat) (i : Nat) : (longTo n f k xs i).length ≤ xs.length := by
  unfold longTo
  exact Nat.le_trans (List.length_filter_le _ _) (by rw [List.length_take]; omega)
def spLonger (K : PySem.W.Frag) : Sp := fun vs H Q _ => ∃ (a : Addr) (p : List Nat) (n k : Nat), vs = [.int (k : Int), .ref a] ∧ SqL K H a (nv p) ∧ Sn88.isOrder n p = true ∧ n ≤ 1024 ∧
  ∀ H' D rs, Same H H' → H D = none → H' D = some (.lst (rs.map V.ref)) → RdsAt H' (fun _ => True) n (fn p) (longs n (fn p) k) rs → Q (.ref D) H'
theorem ok_rounds_longer_than {k : Nat} (M : Fn K mg "rounds_longer_than" s_rounds_longer_than p_rounds_longer_than) (TO : Fn K mg "rounds_of" s_rounds_of p_rounds_of) (TF : Fn K mg "round_from" s_round_from p_round_from) (ml : mg "len" = none) (mr : mg "range" = none) :
    FnOk P w K mg base CX0 (k + 3) M.f M.fd p_rounds_longer_than (spLonger K) := by
  have GO : FnOk P w K mg base CX0 (k + 2) TO.f TO.fd p_rounds_of (spRounds K) := ok_rounds_of TO TF ml mr
  refine M.F.ok sc_rounds_longer_than (fun vs H Q E h => ?_) (fun cdv A outer s H vs Q E hr h => ?_)
  · obtain ⟨a, p, n, k, rfl, _⟩ := h
    rfl
  · obtain ⟨a, p, n, k, rfl, hS, ho, hn, q⟩ := h
    refine ⟨_, pss_one (ps_ret (pe_lc (own := [("found", 2)]) (g := gName 2) rfl sc_rounds_longer_than.nd (pi_list (pe_call GO hr (by rfl) TO.g TO.F.kp TO.b .nil pass0 (pa_cons (pv 1) pa_nil)))
      (blkOk_by (own := [("found", 2)]) (N := n_rounds_longer_than) (sc := defScope s_rounds_longer_than) (by decide +kernel)) (fun _ _ _ _ _ => pg_name (i := 2) sc_rounds_longer_than.nd rfl (Or.inl rfl))
      (fun _ _ _ _ _ => pts_one (pt_cmpR op_gt (pe_callB (show CallR _ _ (fun xs H Q => ∃ p ys, xs = [V.ref p] ∧ (SqL K H p ys ∨ SqT K H p ys) ∧ Q (V.int (ys.length : Int)) H) from call_len_seq) (by rfl) ml PySem.boot_len (pa_cons (pv 2) pa_nil)) (pv 0) (nomark _))) (fun _ _ _ _ _ => pv 2))), ?_⟩
    refine ⟨.ref a, rfl, a, p, n, rfl, hS, ho, hn, fun H1 B rs sm1 hB hb hrs => ?_⟩
    refine ⟨B, rfl, ⟨_, sq_new hb⟩, fun D hD => lc_Itl (K := K) (a := B) (xs := rs.map V.ref) (fun i H' => Same H1 H' ∧ ∃ ls, H' D = some (.lst (ls.map V.ref)) ∧ RdsAt H' (fun r => r ≠ D) n (fn p) (longTo n (fn p) k (leads n (fn p) n) i) ls) ⟨same_upd hD, [], upd_same, RdsAt.nil⟩ (fun _ _ _ h => sq_new (h.1 _ _ hb)) ?_ ?_⟩
    · rintro i v H' hv ⟨sm, ls, hd, hls⟩
      have hi : i < (leads n (fn p) n).length := by
        have := (List.getElem?_eq_some_iff.mp hv).1
        rw [List.length_map, hrs.1] at this
        exact this
      obtain ⟨r, e1, _, e3⟩ := hrs.2 i _ (List.getElem?_eq_getElem hi)
      have ev : v = .ref r := by
        rw [List.getElem?_map, e1] at hv
        exact (Option.some.inj hv).symm
      subst ev
      generalize hx : (leads n (fn p) n)[i] = x at e3
      have hx2 : (leads n (fn p) n)[i]? = some x := by
        rw [List.getElem?_eq_getElem hi, hx]
      have hrD : r ≠ D := fun e => by
        rw [e, hD] at e3
        cases e3
      have ht : longTo n (fn p) k (leads n (fn p) n) (i + 1) = longTo n (fn p) k (leads n (fn p) n) i ++ if k < rnd n (fn p) x then [x] else [] := by
        unfold longTo
        rw [take_more hx2, List.filter_append]
        congr 1
        by_cases z : k < rnd n (fn p) x
        · rw [if_pos z, List.filter_cons, if_pos (decide_eq_true z)]
          rfl
        · rw [if_neg z, List.filter_cons, if_neg (fun y => z (of_decide_eq_true y))]
          rfl
      refine ⟨rfl, .ref r, rfl, r, nv (roundL n (fn p) x), rfl, .inl (sq_new (sm _ _ e3)), .int (k : Int), rfl, _, _, rfl, rfl, _, rfl, ?_⟩
      rw [nv_len, roundL_len]
      refine ifB (fun c => ?_) (fun c => ?_)
      · have c1 := of_decide_eq_true c
        refine ⟨.ref r, rfl, _, hd, ?_, same_at hD sm, ls ++ [r], ?_, ?_⟩
        · rw [List.length_map, hls.1]
          have h1 := longTo_len n (fn p) k (leads n (fn p) n) i
          have h2 := leads_len n (fn p) n
          exact ltLine (by omega)
        · rw [upd_same, List.map_append]
          rfl
        · rw [ht, if_pos (by omega)]
          refine RdsAt.push (hls.move fun r' o nr e => ⟨nr, ?_⟩) hrD ?_
          · rw [upd_ne nr]
            exact e
          · rw [upd_ne hrD]
            exact sm _ _ e3
      · have c1 := of_decide_eq_false c
        refine ⟨sm, ls, hd, ?_⟩
        rw [ht, if_neg (by omega), List.append_nil]
        exact hls
    · rintro H' ⟨sm, ls, hd, hls⟩
      refine q H' D ls (sm1.trans sm) (sm1.free hD) hd ?_
      rw [List.length_map, hrs.1] at hls
      unfold longTo at hls
      rw [List.take_length] at hls
      exact hls.move fun r o _ e => ⟨trivial, e⟩

/-! ### boxes -/
def spMain (K : PySem.W.Frag) : Sp := fun vs H Q _ => ∃ (a : Addr) (p : List Nat) (n k : Int), vs = [.int n, .int k, .ref a] ∧ SqL K H a (nv p) ∧ (1 ≤ n → n ≤ 1024 → p.length = n.toNat) ∧ ∀ H' D, H' D = some (.lst ((PySn88.boxes n k (outs p)).map V.int)) → Q (.ref D) H'
theorem ok_main (M : Fn K mg "boxes" s_main p_main) (TR : Fn K mg "order_refusal" s_order_refusal p_order_refusal) (TF : Fn K mg "round_from" s_round_from p_round_from) (TO : Fn K mg "rounds_of" s_rounds_of p_rounds_of) (TL : Fn K mg "rounds_longer_than" s_rounds_longer_than p_rounds_longer_than)
    (mso : mg "sorted" = none) (mli : mg "list" = none) (mr : mg "range" = none) (ml : mg "len" = none) : FnOk P w K mg base CX0 4 M.f M.fd p_main (spMain K) := by
  have GR : FnOk P w K mg base CX0 3 TR.f TR.fd p_order_refusal (spRefusal K) := ok_order_refusal (k := 2) TR mso mli mr
  have GL : FnOk P w K mg base CX0 3 TL.f TL.fd p_rounds_longer_than (spLonger K) := ok_rounds_longer_than (k := 0) TL TO TF ml mr
  refine M.F.ok (k := 3) sc_main (fun vs H Q E h => ?_) (fun cdv A outer s H vs Q E hr h => ?_)
  · obtain ⟨a, p, n, k, rfl, _⟩ := h
    rfl
  · obtain ⟨a, p, n, k, rfl, hS, hlen, q⟩ := h
    refine ⟨_, pss_cons (ps_set (i := 3) sc_main.nd rfl (.inl rfl) (pe_call GR hr (by rfl) TR.g TR.F.kp TR.b .nil pass0 (pa_cons (pv 0) (pa_cons (pv 1) (pa_cons (pv 2) pa_nil)))))
      (pss_cons (ps_if (pt_cmpR op_lt (pv 3) pe_int (nomark _)) (pss_one (ps_ret (pe_lst (pa_cons (pv 3) pa_nil)))) pss_nil)
      (pss_cons (ps_if (pt_cmpR op_gt (pe_callB call_len_seq (by rfl) ml PySem.boot_len (pa_cons (pe_call GL hr (by rfl) TL.g TL.F.kp TL.b .nil pass0 (pa_cons (pv 1) (pa_cons (pv 2) pa_nil))) pa_nil)) pe_int (nomark _)) (pss_one (ps_ret (pe_lst (pa_cons pe_int pa_nil)))) pss_nil)
      (pss_one (ps_ret (pe_lst (pa_cons pe_int pa_nil)))))), ?_⟩
    have one : 1 ≤ sizeLine := by decide
    refine ⟨.int n, rfl, .int k, rfl, .ref a, rfl, a, p, n, k, rfl, hS, hlen, fun H1 sm1 => ?_⟩
    refine ⟨_, rfl, _, _, rfl, rfl, _, rfl, ifB (fun c => ⟨_, rfl, one, fun D hD => q _ D ?_⟩) (fun c1 => ?_)⟩
    · rcases refusalO_cases n k p with ⟨e, hb⟩ | ⟨e, hok, h3⟩ | ⟨e, hok, h3⟩
      · rw [upd_same, e, boxes_2 hb]
        rfl
      · rw [upd_same, e, boxes_3 hok h3]
        rfl
      · rw [e] at c
        cases c
    rcases refusalO_cases n k p with ⟨e, hb⟩ | ⟨e, hok, h3⟩ | ⟨e, hok, h3⟩
    · rw [e] at c1
      cases c1
    · rw [e] at c1
      cases c1
    rw [boxes_0 hok h3] at q
    obtain ⟨n', rfl⟩ := Int.eq_ofNat_of_zero_le (show 0 ≤ n by omega)
    obtain ⟨k', rfl⟩ := Int.eq_ofNat_of_zero_le (show 0 ≤ k by omega)
    rw [Int.toNat_natCast] at h3
    rw [Int.toNat_natCast] at q
    refine ⟨.int (k' : Int), rfl, .ref a, rfl, a, p, n', k', rfl, sm1.seq hS, h3, by omega, fun H2 D rs sm2 hD hd hrs => ?_⟩
    refine ⟨D, _, rfl, .inl (sq_new hd), _, _, rfl, rfl, _, rfl, ?_⟩
    rw [List.length_map, hrs.1]
    have al := all_longs (k := k') h3
    refine ifB (fun c => ⟨one, fun C hC => q _ C ?_⟩) (fun c => ⟨one, fun C hC => q _ C ?_⟩)
    · have c2 := of_decide_eq_true c
      rw [upd_same, if_neg]
      · rfl
      · intro z
        rw [al.mp z] at c2
        exact absurd c2 (by decide)
    · have c2 := of_decide_eq_false c
      rw [upd_same, if_pos]
      · rfl
      · refine al.mpr (List.eq_nil_of_length_eq_zero ?_)
        omega
theorem open_boxes {K : PySem.W.Frag} {H : Hp} {xs : List V} {n q : Int} {t : List Int} (h : DwAll K H xs [PySem.W.WData.int n, PySem.W.WData.int q, PySem.W.WData.list (t.map PySem.W.WData.int)]) :
    ∃ a, xs = [.int n, .int q, .ref a] ∧ SqL K H a (t.map V.int) := by
  cases h with
  | cons h1 h =>
    cases h with
    | cons h2 h =>
      cases h with
      | cons h3 h =>
        cases h
        cases h1
        cases h2
        cases h3 with
        | lst s4 a4 =>
          have e4 := ints_dw t _ a4
          subst e4
          exact ⟨_, rfl, s4⟩
end

/-! ### the end -/
theorem all_mk {P : Program} {w : World} {K : PySem.W.Frag} {h : Heap} {mg : Str → Option Value} {fa f1 f2 f3 f4 f5 : Addr} (X : K.In h) (G : h.Ns mainGlobals mg) (hfa : mg "boxes" = some (.ref fa))
    {od1 an1 od2 an2 od3 an3 od4 an4 od5 an5 : Option Addr} {sl1 sl2 sl3 sl4 sl5 : Array (Option Value)} {oc1 kV1 dc1 pm1 cd1 ct1 oc2 kV2 dc2 pm2 cd2 ct2 oc3 kV3 dc3 pm3 cd3 ct3 oc4 kV4 dc4 pm4 cd4 ct4 oc5 kV5 dc5 pm5 cd5 ct5 : Value}
    (a1 : PySem.W.nsIn K mainGlobals "boxes" = some (some (.ref f1))) (l1 : K.lookup f1 = some ⟨oc1, od1, .func (PySem.W.fnOf "boxes" "boxes" (defArgs s_main) (defBody s_main) (defScope s_main) .none kV1 dc1 pm1 an1 cd1 ct1), sl1⟩) (c1 : PySem.W.codeIn K cd1 "boxes" = true) (k1 : PySem.W.keepIn K (.ref f1) = true)
    (a2 : PySem.W.nsIn K mainGlobals "order_refusal" = some (some (.ref f2))) (l2 : K.lookup f2 = some ⟨oc2, od2, .func (PySem.W.fnOf "order_refusal" "order_refusal" (defArgs s_order_refusal) (defBody s_order_refusal) (defScope s_order_refusal) .none kV2 dc2 pm2 an2 cd2 ct2), sl2⟩) (c2 : PySem.W.codeIn K cd2 "order_refusal" = true) (k2 : PySem.W.keepIn K (.ref f2) = true)
    (a3 : PySem.W.nsIn K mainGlobals "round_from" = some (some (.ref f3))) (l3 : K.lookup f3 = some ⟨oc3, od3, .func (PySem.W.fnOf "round_from" "round_from" (defArgs s_round_from) (defBody s_round_from) (defScope s_round_from) .none kV3 dc3 pm3 an3 cd3 ct3), sl3⟩) (c3 : PySem.W.codeIn K cd3 "round_from" = true) (k3 : PySem.W.keepIn K (.ref f3) = true)
    (a4 : PySem.W.nsIn K mainGlobals "rounds_of" = some (some (.ref f4))) (l4 : K.lookup f4 = some ⟨oc4, od4, .func (PySem.W.fnOf "rounds_of" "rounds_of" (defArgs s_rounds_of) (defBody s_rounds_of) (defScope s_rounds_of) .none kV4 dc4 pm4 an4 cd4 ct4), sl4⟩) (c4 : PySem.W.codeIn K cd4 "rounds_of" = true) (k4 : PySem.W.keepIn K (.ref f4) = true)
    (a5 : PySem.W.nsIn K mainGlobals "rounds_longer_than" = some (some (.ref f5))) (l5 : K.lookup f5 = some ⟨oc5, od5, .func (PySem.W.fnOf "rounds_longer_than" "rounds_longer_than" (defArgs s_rounds_longer_than) (defBody s_rounds_longer_than) (defScope s_rounds_longer_than) .none kV5 dc5 pm5 an5 cd5 ct5), sl5⟩) (c5 : PySem.W.codeIn K cd5 "rounds_longer_than" = true) (k5 : PySem.W.keepIn K (.ref f5) = true)
    (z_sorted : PySem.W.nsIn K mainGlobals "sorted" = some none) (z_list : PySem.W.nsIn K mainGlobals "list" = some none) (z_range : PySem.W.nsIn K mainGlobals "range" = some none) (z_len : PySem.W.nsIn K mainGlobals "len" = some none) :
    ∃ fd : FuncData, (∀ (s : Shared) (us : List Value), us.length = (["n", "k", "p"] : List Str).length → BindsTo s fd ⟨us, []⟩ ((["n", "k", "p"] : List Str).zip us)) ∧ ∀ base : Heap, K.In base → base.Ns mainGlobals mg → FnOk P w K mg base CX0 4 fa fd ["n", "k", "p"] (spMain K) := by
  have e := hfa.symm.trans (PySem.W.mg_of X G a1)
  cases e
  have F1 := fun_mk (st := s_main) l1 c1 k1
  have b1 := F1.binds (ps := ["n", "k", "p"]) fun _ _ _ _ _ _ us hl => match us, hl with | [_, _, _], _ => rfl
  have g1 := PySem.W.mg_of X G a1
  have F2 := fun_mk (st := s_order_refusal) l2 c2 k2
  have b2 := F2.binds (ps := ["n", "k", "p"]) fun _ _ _ _ _ _ us hl => match us, hl with | [_, _, _], _ => rfl
  have g2 := PySem.W.mg_of X G a2
  have F3 := fun_mk (st := s_round_from) l3 c3 k3
  have b3 := F3.binds (ps := ["first", "p"]) fun _ _ _ _ _ _ us hl => match us, hl with | [_, _], _ => rfl
  have g3 := PySem.W.mg_of X G a3
  have F4 := fun_mk (st := s_rounds_of) l4 c4 k4
  have b4 := F4.binds (ps := ["p"]) fun _ _ _ _ _ _ us hl => match us, hl with | [_], _ => rfl
  have g4 := PySem.W.mg_of X G a4
  have F5 := fun_mk (st := s_rounds_longer_than) l5 c5 k5
  have b5 := F5.binds (ps := ["k", "p"]) fun _ _ _ _ _ _ us hl => match us, hl with | [_, _], _ => rfl
  have g5 := PySem.W.mg_of X G a5
  have m_sorted := PySem.W.mg_none_of X G z_sorted
  have m_list := PySem.W.mg_none_of X G z_list
  have m_range := PySem.W.mg_none_of X G z_range
  have m_len := PySem.W.mg_none_of X G z_len
  exact ⟨PySem.W.fnOf "boxes" "boxes" (defArgs s_main) (defBody s_main) (defScope s_main) .none kV1 dc1 pm1 an1 cd1 ct1, fun s us hu => match us, hu with | [_, _, _], _ => .of_eq rfl, fun base _ _ => ok_main ⟨_, _, F1, b1, g1⟩ ⟨_, _, F2, b2, g2⟩ ⟨_, _, F3, b3, g3⟩ ⟨_, _, F4, b4, g4⟩ ⟨_, _, F5, b5, g5⟩ m_sorted m_list m_range m_len⟩
end Hb
open PySem PySem.W PyProof.Rows
set_option maxRecDepth 100000 in
set_option maxHeartbeats 8000000 in
theorem PySem.Challenge.cw_hatboxes_s06_boxes_holds : PySem.Challenge.rw_hatboxes_s06_boxes.Holds := by
  w_on; k_headS; (case hw => exact ⟨[.int 0, .int 0, .list []], by decide +kernel, by decide +kernel⟩)
  k_fillS
  refine L2.walk_specK (r := PySem.Challenge.rw_hatboxes_s06_boxes) (k := 4) (CX := L2.CX0) (ps := ["n", "k", "p"]) (sp := Hb.spMain) (by decide +kernel) rfl rfl ⟨rfl, by decide, by decide⟩ (fun w h Y => PySem.W.kIn_of Y) ?F ?S (fun _ _ _ _ z => z)
  case F =>
    intro w mg fa h Y KX G hmg
    refine' Hb.all_mk KX G hmg ?a1 ?l1 ?c1 ?k1 ?a2 ?l2 ?c2 ?k2 ?a3 ?l3 ?c3 ?k3 ?a4 ?l4 ?c4 ?k4 ?a5 ?l5 ?c5 ?k5 ?z_sorted ?z_list ?z_range ?z_len
    (case a1 => k_is)
    (case l1 => k_is)
    (case c1 => k_is)
    (case k1 => k_is)
    (case a2 => k_is)
    (case l2 => k_is)
    (case c2 => k_is)
    (case k2 => k_is)
    (case a3 => k_is)
    (case l3 => k_is)
    (case c3 => k_is)
    (case k3 => k_is)
    (case a4 => k_is)
    (case l4 => k_is)
    (case c4 => k_is)
    (case k4 => k_is)
    (case a5 => k_is)
    (case l5 => k_is)
    (case c5 => k_is)
    (case k5 => k_is)
    (case z_sorted => k_is)
    (case z_list => k_is)
    (case z_range => k_is)
    (case z_len => k_is)
  case S =>
    intro K H xs a hO hwi hask hx
    obtain ⟨n, q, t, u⟩ := a
    obtain ⟨x, e, s4⟩ := Hb.open_boxes (show L2.DwAll K H xs [.int n, .int q, .list (t.map .int)] from hx)
    obtain ⟨T, et, _, _, hl⟩ := Hb.asked_boxes (show PySn88.boxes_asked n q t = true from hask)
    subst e et
    exact ⟨x, T, n, q, rfl, s4, hl, fun H' p hp => .lst (L2.SqL.of hp) (L2.dw_ints _)⟩
#print axioms PySem.Challenge.cw_hatboxes_s06_boxes_holds

