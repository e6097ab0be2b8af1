import PyProof.Rows.All
import Wide.All
import OpenK.AllK
import Wide.FinOn
import Open.SpecLaws
import KE.OsGo
import PyProof.ListRange
import HandS.Base
import HandS.Call
import HandS.List
import HandS.Comp
import HandS.Ends
import HandS.Iter
import HandS.Text
import HandS.SetFor
import HandS.Conv
import HandS.SortInts
import HandS.RevTup
import HandS.Rev
import HandS.Spec
import HandS.Words
import HandS.WordsList
import PySem.Challenge.RW_hatboxes_s05_code
set_option Elab.async false
namespace Hb
open Sn88

/-! ### digits, rows -/
def rowOf (q n r : Nat) : List Nat := ((List.range n).map fun i => r / q ^ i % q).reverse
theorem rowOf_len (q n r : Nat) : (rowOf q n r).length = n := by
  unfold rowOf
  rw [List.length_reverse, List.length_map, List.length_range]
theorem rowOf_succ {q n x r : Nat} (hx : x < q) (hr : r < q ^ n) : rowOf q (n + 1) (x * q ^ n + r) = x :: rowOf q n r := by
  have hq : 0 < q := Nat.lt_of_le_of_lt (Nat.zero_le _) hx
  have hp : 0 < q ^ n := Nat.pow_pos hq
  unfold rowOf
  rw [List.range_succ, List.map_append, List.reverse_append]
  have e1 : (x * q ^ n + r) / q ^ n % q = x := by
    rw [Nat.mul_comm, Nat.mul_add_div hp, Nat.div_eq_of_lt hr, Nat.add_zero, Nat.mod_eq_of_lt hx]
  have e2 : (List.range n).map (fun i => (x * q ^ n + r) / q ^ i % q) = (List.range n).map (fun i => r / q ^ i % q) := by
    apply List.map_congr_left
    intro i hi
    have hi' : i < n := List.mem_range.mp hi
    have hpi : 0 < q ^ i := Nat.pow_pos hq
    have e : x * q ^ n = q ^ i * (q * (x * q ^ (n - i - 1))) := by
      have : q ^ n = q ^ i * (q * q ^ (n - i - 1)) := by
        rw [← Nat.pow_succ', ← Nat.pow_add]
        congr 1
        omega
      rw [this]
      simp only [Nat.mul_left_comm]
    show (x * q ^ n + r) / q ^ i % q = r / q ^ i % q
    rw [e, Nat.mul_add_div hpi, Nat.mul_add_mod]
  rw [e2]
  show [(x * q ^ n + r) / q ^ n % q].reverse ++ _ = _
  rw [e1]
  rfl
theorem range_mul (a b : Nat) : List.range (a * b) = (List.range a).flatMap fun x => (List.range b).map fun r => x * b + r := by
  induction a with
  | zero => simp
  | succ a ih =>
    rw [List.range_succ, List.flatMap_append, ← ih, Nat.succ_mul, List.range_add]
    simp
theorem rows_eq {q : Nat} : ∀ n : Nat, rows q n = (List.range (q ^ n)).map (rowOf q n)
  | 0 => by
    show [[]] = _
    rw [Nat.pow_zero]
    rfl
  | n + 1 => by
    show ((List.range q).flatMap fun x => (rows q n).map fun c => x :: c) = _
    rw [Nat.pow_succ', range_mul, List.map_flatMap]
    rw [List.flatMap_def, List.flatMap_def]
    congr 1
    apply List.map_congr_left
    intro x hx
    have hx' : x < q := List.mem_range.mp hx
    rw [rows_eq n, List.map_map, List.map_map]
    apply List.map_congr_left
    intro r hr
    exact (rowOf_succ hx' (List.mem_range.mp hr)).symm

/-! ### what a row's digits are in the program's own order -/
theorem rest_step (r q i : Nat) : r / q ^ i / q = r / q ^ (i + 1) := by
  rw [Nat.div_div_eq_div_mul, Nat.pow_succ]

/-! ### counts -/
def counts (q : Nat) (g : G) (t : List Nat) : List Nat := (List.range (q ^ g.length)).map fun r => hits q g t (rowOf q g.length r)
theorem counts_rows (q : Nat) (g : G) (t : List Nat) : counts q g t = (rows q g.length).map (hits q g t) := by
  rw [rows_eq, List.map_map]
  rfl
theorem counts_len (q : Nat) (g : G) (t : List Nat) : (counts q g t).length = q ^ g.length := by
  unfold counts
  rw [List.length_map, List.length_range]
theorem filter_count (l : List (List Nat)) (f : List Nat → Nat) : (l.filter fun c => f c == 0).length = (l.map f).count 0 := by
  induction l with
  | nil => rfl
  | cons c l ih =>
    rw [List.filter_cons, List.map_cons, List.count_cons]
    cases h : (f c == 0) with
    | true => simp [ih]
    | false => simp [ih]
theorem misses_count (q : Nat) (g : G) (t : List Nat) : (Sn88.misses q g t).length = (counts q g t).count 0 := by
  rw [counts_rows]
  exact filter_count _ _
theorem filter_head (l : List (List Nat)) (f : List Nat → Nat) (j : Nat) (c : List Nat) (hc : l[j]? = some c) (h0 : f c = 0) (hb : ∀ m z, m < j → l[m]? = some z → f z ≠ 0) : (l.filter fun c => f c == 0).headD [] = c := by
  induction l generalizing j with
  | nil => simp at hc
  | cons a l ih =>
    cases j with
    | zero =>
      have e : a = c := Option.some.inj hc
      subst e
      rw [List.filter_cons, if_pos (by rw [h0]; rfl)]
      rfl
    | succ j =>
      have ha : f a ≠ 0 := hb 0 a (Nat.succ_pos _) rfl
      rw [List.filter_cons, if_neg (by simpa using ha)]
      exact ih j hc fun m z hm hz => hb (m + 1) z (Nat.succ_lt_succ hm) hz
theorem misses_head {q : Nat} {g : G} {t : List Nat} {j : Nat} (hj : (counts q g t)[j]? = some 0) (hb : ∀ m z, m < j → (counts q g t)[m]? = some z → z ≠ 0) : (Sn88.misses q g t).headD [] = rowOf q g.length j := by
  have hlt : j < q ^ g.length := by
    obtain ⟨h, _⟩ := List.getElem?_eq_some_iff.mp hj
    rwa [counts_len] at h
  unfold Sn88.misses
  refine filter_head _ (hits q g t) j _ ?_ ?_ ?_
  · rw [rows_eq, List.getElem?_map, List.getElem?_range hlt]
    rfl
  · rw [counts, List.getElem?_map, List.getElem?_range hlt] at hj
    exact Option.some.inj hj
  · intro m z hm hz
    refine hb m _ hm ?_
    rw [counts_rows, List.getElem?_map, hz]
    rfl

/-! ### the least -/
theorem hits_le (q : Nat) (g : G) (t : List Nat) (c : List Nat) : hits q g t c ≤ g.length := by
  unfold hits
  refine Nat.le_trans (List.length_filter_le _ _) ?_
  rw [List.length_range]
  exact Nat.le_refl _
theorem foldl_min_le : ∀ (l : List Nat) (b : Nat), l.foldl min b ≤ b ∧ (∀ x ∈ l, l.foldl min b ≤ x)
  | [], b => ⟨Nat.le_refl _, fun x h => by cases h⟩
  | a :: l, b => by
    obtain ⟨h1, h2⟩ := foldl_min_le l (min b a)
    refine ⟨Nat.le_trans h1 (Nat.min_le_left _ _), fun x hx => ?_⟩
    rcases List.mem_cons.mp hx with e | e
    · subst e
      exact Nat.le_trans h1 (Nat.min_le_right _ _)
    · exact h2 x e
theorem foldl_min_mem : ∀ (l : List Nat) (b : Nat), l.foldl min b = b ∨ l.foldl min b ∈ l
  | [], b => .inl rfl
  | a :: l, b => by
    show l.foldl min (min b a) = b ∨ l.foldl min (min b a) ∈ a :: l
    rcases foldl_min_mem l (min b a) with e | e
    · rw [e]
      rcases Nat.le_total b a with h | h
      · exact .inl (Nat.min_eq_left h)
      · exact .inr (by rw [Nat.min_eq_right h]; exact List.mem_cons_self)
    · exact .inr (List.mem_cons_of_mem _ e)
theorem least_is {q : Nat} {g : G} {t : List Nat} {M : Nat} (hM : M ∈ counts q g t) (hl : ∀ y ∈ counts q g t, M ≤ y) : M = Sn88.least q g t := by
  unfold Sn88.least
  rw [← counts_rows]
  obtain ⟨h1, h2⟩ := foldl_min_le (counts q g t) g.length
  refine Nat.le_antisymm ?_ (h2 M hM)
  rcases foldl_min_mem (counts q g t) g.length with e | e
  · rw [e]
    unfold counts at hM
    obtain ⟨r, _, e2⟩ := List.mem_map.mp hM
    rw [← e2]
    exact hits_le _ _ _ _
  · exact hl _ e

/-! ### who sees whom -/
theorem isGraph_iff {n : Nat} {g : G} : isGraph n g = true ↔ g.length = n ∧ ∀ v, v < n → g.getD v 0 < 2 ^ n ∧ joined g v v = false ∧ ∀ u, u < n → joined g v u = true → joined g u v = true := by
  unfold isGraph
  simp only [Bool.and_eq_true, beq_iff_eq, List.all_eq_true, List.mem_range, decide_eq_true_eq, Bool.not_eq_true']
  constructor
  · rintro ⟨h, k⟩
    refine ⟨h, fun v hv => ?_⟩
    obtain ⟨a, b, c⟩ := k v hv
    exact ⟨a, b, fun u hu e => by rw [← c u hu]; exact e⟩
  · rintro ⟨h, k⟩
    refine ⟨h, fun v hv => ?_⟩
    obtain ⟨a, b, c⟩ := k v hv
    refine ⟨a, b, fun u hu => ?_⟩
    cases e : joined g v u with
    | true => exact (c u hu e).symm
    | false =>
      cases e2 : joined g u v with
      | false => rfl
      | true =>
        rw [(k u hu).2.2 v hv e2] at e
        cases e
theorem start_succ (q : Nat) (g : G) (v : Nat) : start q g (v + 1) = start q g v + q ^ (seen g v).length := by
  unfold start
  rw [List.range_succ, List.map_append, List.sum_append]
  simp
theorem seen_lt {g : G} {v u : Nat} (h : u ∈ seen g v) : u < g.length := by
  unfold seen at h
  exact List.mem_range.mp (List.mem_filter.mp h).1
theorem seen_len (g : G) (v : Nat) : (seen g v).length ≤ g.length := by
  unfold seen
  refine Nat.le_trans (List.length_filter_le _ _) ?_
  rw [List.length_range]
  exact Nat.le_refl _
theorem entry_lt {q : Nat} {g : G} {v : Nat} {c : List Nat} (hc : ∀ u, u < g.length → c.getD u 0 < q) : entry q g v c < q ^ (seen g v).length := by
  unfold entry
  have : ∀ l : List Nat, (∀ u ∈ l, u < g.length) → l.foldr (fun u s => c.getD u 0 + q * s) 0 < q ^ l.length := by
    intro l
    induction l with
    | nil => intro _; exact Nat.one_pos
    | cons a l ih =>
      intro h
      have h1 := ih fun u hu => h u (List.mem_cons_of_mem _ hu)
      have h2 := hc a (h a List.mem_cons_self)
      show c.getD a 0 + q * _ < q ^ (l.length + 1)
      rw [Nat.pow_succ']
      calc c.getD a 0 + q * l.foldr (fun u s => c.getD u 0 + q * s) 0 < q + q * l.foldr (fun u s => c.getD u 0 + q * s) 0 := by omega
        _ = q * (l.foldr (fun u s => c.getD u 0 + q * s) 0 + 1) := by rw [Nat.mul_add, Nat.mul_one, Nat.add_comm]
        _ ≤ q * q ^ l.length := Nat.mul_le_mul_left _ h1
  exact this _ fun u hu => seen_lt hu
theorem rowOf_lt {q n r : Nat} (hq : 0 < q) (u : Nat) : (rowOf q n r).getD u 0 < q := by
  rw [List.getD_eq_getElem?_getD]
  cases e : (rowOf q n r)[u]? with
  | none => exact hq
  | some x =>
    have h := List.mem_of_getElem? e
    unfold rowOf at h
    rw [List.mem_reverse] at h
    obtain ⟨i, _, e2⟩ := List.mem_map.mp h
    subst e2
    exact Nat.mod_lt _ hq
theorem start_le {q : Nat} {g : G} : ∀ {m v : Nat}, v ≤ m → start q g v ≤ start q g m
  | 0, v, h => by
    have : v = 0 := by omega
    subst this
    exact Nat.le_refl _
  | m + 1, v, h => by
    by_cases e : v = m + 1
    · subst e
      exact Nat.le_refl _
    · rw [start_succ]
      exact Nat.le_trans (start_le (m := m) (by omega)) (Nat.le_add_right _ _)
/-- the place of the guess stands within the table -/
theorem place_lt {q : Nat} {g : G} {v : Nat} {c : List Nat} {n : Nat} (hv : v < n) (hc : ∀ u, u < g.length → c.getD u 0 < q) : start q g v + entry q g v c < start q g n := by
  have h1 := entry_lt (v := v) hc
  have h2 : start q g (v + 1) ≤ start q g n := start_le hv
  rw [start_succ] at h2
  omega
theorem pow_small {q k : Nat} (hq : q ≤ 4) (hk : k ≤ 6) : q ^ k ≤ 4096 :=
  Nat.le_trans (Nat.pow_le_pow_left hq k) (Nat.le_trans (Nat.pow_le_pow_right (by decide) hk) (by decide))
theorem start_small {q : Nat} {g : G} (hq : q ≤ 4) (hg : g.length ≤ 6) : ∀ v, start q g v ≤ v * 4096
  | 0 => by simp [start]
  | v + 1 => by
    have h1 := start_small hq hg v
    have h2 : q ^ (seen g v).length ≤ 4096 := pow_small hq (Nat.le_trans (seen_len g v) hg)
    rw [start_succ]
    omega
/-- the first so many hits -/
def hitsTo (q : Nat) (g : G) (t : List Nat) (c : List Nat) (i : Nat) : Nat := ((List.range i).filter fun v => guess q g t v c == c.getD v 0).length
theorem hitsTo_succ (q : Nat) (g : G) (t : List Nat) (c : List Nat) (i : Nat) : hitsTo q g t c (i + 1) = hitsTo q g t c i + if guess q g t i c = c.getD i 0 then 1 else 0 := by
  unfold hitsTo
  rw [List.range_succ, List.filter_append, List.length_append]
  congr 1
  by_cases h : guess q g t i c = c.getD i 0
  · rw [if_pos h, List.filter_cons, if_pos (beq_iff_eq.mpr h)]
    rfl
  · rw [if_neg h, List.filter_cons, if_neg (fun z => h (beq_iff_eq.mp z))]
    rfl
theorem hitsTo_le (q : Nat) (g : G) (t : List Nat) (c : List Nat) (i : Nat) : hitsTo q g t c i ≤ i := by
  unfold hitsTo
  refine Nat.le_trans (List.length_filter_le _ _) ?_
  rw [List.length_range]
  exact Nat.le_refl _

/-! ### a call's refusal -/
def refusal (n q len : Int) (g : G) (t : List Nat) : Int := if tableOk n q len = false then -2 else if tableGood n q g len t = false then -3 else 0
theorem tableOk_iff {n q len : Int} : tableOk n q len = true ↔ (1 ≤ n ∧ n ≤ 6) ∧ (1 ≤ q ∧ q ≤ 4) ∧ (0 ≤ len ∧ len ≤ 8192) := by
  unfold tableOk between
  simp only [Bool.and_eq_true, decide_eq_true_eq]
theorem nats_cast (l : List Nat) : Sn88Neutral.nats (l.map fun (x : Nat) => (x : Int)) = l := by
  unfold Sn88Neutral.nats
  rw [List.map_map]
  conv => rhs; rw [← List.map_id l]
  apply List.map_congr_left
  intro x _
  rfl
theorem cast_nats {l : List Int} (h : ∀ x ∈ l, 0 ≤ x) : l = (Sn88Neutral.nats l).map fun (x : Nat) => (x : Int) := by
  unfold Sn88Neutral.nats
  rw [List.map_map]
  conv => lhs; rw [← List.map_id l]
  apply List.map_congr_left
  intro x hx
  exact (Int.toNat_of_nonneg (h x hx)).symm
def outs (l : List Nat) : List Int := l.map fun (x : Nat) => (x : Int)
theorem misses_is (n q len : Int) (g t : List Nat) : PySn88.misses n q len (outs g) (outs t) =
    if refusal n q len g t < 0 then [refusal n q len g t] else ((Sn88.misses q.toNat g t).length : Int) :: outs ((Sn88.misses q.toNat g t).headD []) := by
  have e : PySn88.misses n q len (outs g) (outs t) = (match Sn88Neutral.answered (.misses n q (Sn88Neutral.nats (outs g)) len (Sn88Neutral.nats (outs t))) with
    | some a => a.v :: a.l.map fun (x : Nat) => (x : Int)
    | none => []) := rfl
  rw [e]
  unfold outs
  rw [nats_cast, nats_cast]
  unfold refusal
  show (if _ then _ else if _ then _ else _ : Ans).v :: (if _ then _ else if _ then _ else _ : Ans).l.map _ = _
  cases h1 : tableOk n q len with
  | false => rfl
  | true =>
    cases h2 : tableGood n q g len t with
    | false => rfl
    | true => rfl
theorem least_eq (n q len : Int) (g t : List Nat) : PySn88.least n q len (outs g) (outs t) =
    if refusal n q len g t < 0 then [refusal n q len g t] else [(Sn88.least q.toNat g t : Int)] := by
  have e : PySn88.least n q len (outs g) (outs t) = (match Sn88Neutral.answered (.least n q (Sn88Neutral.nats (outs g)) len (Sn88Neutral.nats (outs t))) with
    | some a => a.v :: a.l.map fun (x : Nat) => (x : Int)
    | none => []) := rfl
  rw [e]
  unfold outs
  rw [nats_cast, nats_cast]
  unfold refusal
  show (if _ then _ else if _ then _ else _ : Ans).v :: (if _ then _ else if _ then _ else _ : Ans).l.map _ = _
  cases h1 : tableOk n q len with
  | false => rfl
  | true =>
    cases h2 : tableGood n q g len t with
    | false => rfl
    | true => rfl
end Hb

set_option Elab.async false
/-! what is due of line, pass, code: closed forms (no program here) -/
namespace Hb
open Sn88
/-! ### line -/
theorem line_nil (q : Nat) (heard : List Nat) : line q heard [] = heard := rfl
theorem line_cons (q : Nat) (heard r : List Nat) (x : Nat) : line q heard (x :: r) = line q (heard ++ [says q heard r]) r := rfl
/-- one in the middle says their own hat: first = what the others' hats leave, b: those said since -/
theorem says_own {q a x : Nat} {b r : List Nat} (hx : x < q) (ha : a = (b.sum + x + r.sum) % q) : says q (a :: b) r = x := by
  show (((a : Int) - (b.sum : Int) - (r.sum : Int)) % (q : Int)).toNat = x
  have e : (((a : Int) - (b.sum : Int) - (r.sum : Int)) % (q : Int)) = (x : Int) := by
    have h1 : (a : Int) = ((b.sum : Int) + (x : Int) + (r.sum : Int)) % (q : Int) := by
      rw [ha]
      rw [Int.natCast_emod, Int.natCast_add, Int.natCast_add]
    have h2 : ((b.sum : Int) + (x : Int) + (r.sum : Int)) = (q : Int) * (((b.sum : Int) + (x : Int) + (r.sum : Int)) / (q : Int)) + (a : Int) := by
      rw [h1]
      exact (Int.mul_ediv_add_emod _ _).symm
    have h3 : (a : Int) - (b.sum : Int) - (r.sum : Int) = (x : Int) + (q : Int) * (-(((b.sum : Int) + (x : Int) + (r.sum : Int)) / (q : Int))) := by
      rw [Int.mul_neg]
      omega
    rw [h3, Int.add_mul_emod_self_left]
    exact Int.emod_eq_of_lt (by omega) (by omega)
  rw [e]
  rfl
theorem line_go {q a : Nat} : ∀ (r b : List Nat), (∀ x ∈ r, x < q) → a = (b.sum + r.sum) % q → line q (a :: b) r = (a :: b) ++ r
  | [], b, _, _ => by rw [line_nil, List.append_nil]
  | x :: r, b, h, ha => by
    have hx : x < q := h x List.mem_cons_self
    rw [line_cons, says_own hx (by rw [ha, List.sum_cons, Nat.add_assoc])]
    show line q (a :: (b ++ [x])) r = _
    rw [line_go r (b ++ [x]) (fun y hy => h y (List.mem_cons_of_mem _ hy)) (by
      rw [ha, List.sum_cons, List.sum_append, List.sum_cons, List.sum_nil]
      congr 1
      omega)]
    simp
/-- all that's said along a line of colours: what the others leave, then each their own hat -/
theorem line_is {q x : Nat} {r : List Nat} (h : ∀ y ∈ r, y < q) : line q [] (x :: r) = (r.sum % q) :: r := by
  show line q ([] ++ [says q [] r]) r = _
  show line q [r.sum % q] r = _
  rw [line_go r [] h (by simp)]
  rfl
theorem line_is_nil (q : Nat) : line q [] [] = [] := rfl

/-! ### code -/
def xors (l : List Nat) : Nat := l.foldl (fun s i => Nat.xor s (i + 1)) 0
theorem xors_from (l : List Nat) : ∀ s : Nat, l.foldl (fun s i => Nat.xor s (i + 1)) s = s ^^^ xors l := by
  induction l with
  | nil => intro s; exact (Nat.xor_zero s).symm
  | cons a l ih =>
    intro s
    unfold xors
    rw [List.foldl_cons, List.foldl_cons, ih, ih (Nat.xor 0 (a + 1))]
    show (s ^^^ (a + 1)) ^^^ xors l = s ^^^ ((0 ^^^ (a + 1)) ^^^ xors l)
    rw [Nat.zero_xor, Nat.xor_assoc]
theorem xors_append (a b : List Nat) : xors (a ++ b) = xors a ^^^ xors b := by
  show (a ++ b).foldl _ 0 = _
  rw [List.foldl_append, xors_from]
  rfl
/-- the numbers of the first m persons with a 1 -/
def notedTo (c : List Nat) (m : Nat) : Nat := xors ((List.range m).filter fun i => c.getD i 0 == 1)
theorem notedTo_zero (c : List Nat) : notedTo c 0 = 0 := rfl
theorem notedTo_succ (c : List Nat) (m : Nat) : notedTo c (m + 1) = if c.getD m 0 = 1 then notedTo c m ^^^ (m + 1) else notedTo c m := by
  unfold notedTo
  rw [List.range_succ, List.filter_append, xors_append]
  by_cases h : c.getD m 0 = 1
  · rw [if_pos h, List.filter_cons, if_pos (beq_iff_eq.mpr h)]
    congr 1
    show Nat.xor 0 (m + 1) = m + 1
    exact Nat.zero_xor _
  · rw [if_neg h, List.filter_cons, if_neg (fun z => h (beq_iff_eq.mp z))]
    exact Nat.xor_zero _
theorem noted_is (c : List Nat) : noted c = notedTo c c.length := rfl
theorem notedTo_set (c : List Nat) (i : Nat) (hi : i < c.length) : ∀ m : Nat, notedTo (c.set i 0) m = if i < m ∧ c.getD i 0 = 1 then notedTo c m ^^^ (i + 1) else notedTo c m
  | 0 => by
    rw [if_neg (fun h => absurd h.1 (Nat.not_lt_zero i))]
    rfl
  | m + 1 => by
    have ih := notedTo_set c i hi m
    rw [notedTo_succ, notedTo_succ, ih]
    by_cases e : m = i
    · subst e
      have e1 : (c.set m 0).getD m 0 = 0 := by
        rw [List.getD_eq_getElem?_getD, List.getElem?_set_self hi]
        rfl
      rw [e1, if_neg (by decide), if_neg (fun h => absurd h.1 (Nat.lt_irrefl m))]
      by_cases h : c.getD m 0 = 1
      · have h' : m < m + 1 ∧ c.getD m 0 = 1 := ⟨Nat.lt_succ_self m, h⟩
        rw [if_pos h', if_pos h, Nat.xor_assoc, Nat.xor_self, Nat.xor_zero]
      · have h' : ¬ (m < m + 1 ∧ c.getD m 0 = 1) := fun z => h z.2
        rw [if_neg h', if_neg h]
    · have e1 : (c.set i 0).getD m 0 = c.getD m 0 := by
        rw [List.getD_eq_getElem?_getD, List.getD_eq_getElem?_getD, List.getElem?_set_ne (fun z => e z.symm)]
      rw [e1]
      have p1 : (i < m + 1 ∧ c.getD i 0 = 1) ↔ (i < m ∧ c.getD i 0 = 1) := ⟨fun z => ⟨by omega, z.2⟩, fun z => ⟨by omega, z.2⟩⟩
      by_cases hA : i < m ∧ c.getD i 0 = 1
      · by_cases hB : c.getD m 0 = 1
        · rw [if_pos hB, if_pos hA, if_pos (p1.mpr hA), if_pos hB, Nat.xor_assoc, Nat.xor_assoc, Nat.xor_comm (i + 1)]
        · rw [if_neg hB, if_pos hA, if_pos (p1.mpr hA), if_neg hB]
      · by_cases hB : c.getD m 0 = 1
        · rw [if_pos hB, if_neg hA, if_neg (fun z => hA (p1.mp z)), if_pos hB]
        · rw [if_neg hB, if_neg hA, if_neg (fun z => hA (p1.mp z)), if_neg hB]
/-- what the others have: all, without one's own number if one's hat is 1 -/
theorem noted_others (c : List Nat) (i : Nat) (hi : i < c.length) : noted (c.set i 0) = if c.getD i 0 = 1 then noted c ^^^ (i + 1) else noted c := by
  rw [noted_is, noted_is, List.length_set, notedTo_set c i hi]
  by_cases h : c.getD i 0 = 1
  · rw [if_pos ⟨hi, h⟩, if_pos h]
  · rw [if_neg (fun z => h z.2), if_neg h]
theorem notedTo_lt {c : List Nat} {r : Nat} : ∀ {m : Nat}, m < 2 ^ r → notedTo c m < 2 ^ r
  | 0, h => h
  | m + 1, h => by
    rw [notedTo_succ]
    have ih := notedTo_lt (c := c) (r := r) (m := m) (by omega)
    split
    · exact Nat.xor_lt_two_pow ih h
    · exact ih
def guessOf (s i : Nat) : Nat := if s = 0 then 1 else if s = i + 1 then 0 else 2
theorem code_is (c : List Nat) : code c = (List.range c.length).map fun i => guessOf (noted (c.set i 0)) i := rfl

/-! ### pass -/
theorem crowd_len (n : Nat) : (crowd n).length = n := by
  unfold crowd
  rw [List.length_map, List.length_range]
theorem crowd_at {n v : Nat} (hv : v < n) : (crowd n).getD v 0 = 2 ^ n - 1 - 2 ^ v := by
  unfold crowd
  rw [List.getD_eq_getElem?_getD, List.getElem?_map, List.getElem?_range hv]
  rfl
theorem crowd_bit : ∀ n, n < 9 → ∀ v, v < n → ∀ u, u < n → (2 ^ n - 1 - 2 ^ v).testBit u = (decide (u = v) == false) := by decide
theorem crowd_joined {n v u : Nat} (hn : n < 9) (hv : v < n) (hu : u < n) : joined (crowd n) v u = (decide (u = v) == false) := by
  unfold joined
  rw [crowd_at hv]
  exact crowd_bit n hn v hv u hu
theorem crowd_seen {n v : Nat} (hn : n < 9) (hv : v < n) : seen (crowd n) v = (List.range n).filter fun u => decide (u = v) == false := by
  unfold seen
  rw [crowd_len]
  apply List.filter_congr
  intro u hu
  exact crowd_joined hn hv (List.mem_range.mp hu)
theorem others_len : ∀ n, n < 9 → ∀ v, v < n → ((List.range n).filter fun u => decide (u = v) == false).length = n - 1 := by decide
theorem crowd_seen_len {n v : Nat} (hn : n < 9) (hv : v < n) : (seen (crowd n) v).length = n - 1 := by
  rw [crowd_seen hn hv]
  exact others_len n hn v hv
theorem crowd_start {n q : Nat} (hn : n < 9) : ∀ v, v ≤ n → start q (crowd n) v = v * q ^ (n - 1)
  | 0, _ => by simp [start]
  | v + 1, h => by
    rw [start_succ, crowd_start hn v (by omega), crowd_seen_len hn (by omega), Nat.succ_mul]
end Hb

set_option Elab.async false
/-! won rows of pass, counted row by row (no program here) -/
namespace Hb
open Sn88
def guessesTo (q : Nat) (g t c : List Nat) (i : Nat) : List Nat := (List.range i).map fun v => guess q g t v c
theorem guessesTo_succ (q : Nat) (g t c : List Nat) (i : Nat) : guessesTo q g t c (i + 1) = guessesTo q g t c i ++ [guess q g t i c] := by
  unfold guessesTo
  rw [List.range_succ, List.map_append]
  rfl
theorem guessesTo_len (q : Nat) (g t c : List Nat) (i : Nat) : (guessesTo q g t c i).length = i := by
  unfold guessesTo
  rw [List.length_map, List.length_range]
theorem guessesTo_at {q : Nat} {g t c : List Nat} {i v : Nat} (h : v < i) : (guessesTo q g t c i).getD v 0 = guess q g t v c := by
  unfold guessesTo
  rw [List.getD_eq_getElem?_getD, List.getElem?_map, List.getElem?_range h]
  rfl
/-- who are right among the first i, l what each says, c what each wears -/
def rightTo (l c : List Nat) (i : Nat) : List Nat := (List.range i).filter fun v => l.getD v 0 == c.getD v 0
theorem rightTo_succ (l c : List Nat) (i : Nat) : rightTo l c (i + 1) = rightTo l c i ++ if l.getD i 0 = c.getD i 0 then [i] else [] := by
  unfold rightTo
  rw [List.range_succ, List.filter_append, List.filter_cons]
  by_cases h : l.getD i 0 = c.getD i 0
  · rw [if_pos (beq_iff_eq.mpr h), if_pos h]
    rfl
  · rw [if_neg (fun z => h (beq_iff_eq.mp z)), if_neg h]
    rfl
theorem rightTo_len (l c : List Nat) (i : Nat) : (rightTo l c i).length ≤ i := by
  unfold rightTo
  refine Nat.le_trans (List.length_filter_le _ _) ?_
  rw [List.length_range]
  exact Nat.le_refl _
theorem hits_right (q : Nat) (g t c : List Nat) : hits q g t c = (rightTo (guessesTo q g t c g.length) c g.length).length := by
  unfold hits rightTo
  congr 1
  apply List.filter_congr
  intro v hv
  rw [guessesTo_at (List.mem_range.mp hv)]
/-- one right at least, and all right or passing -/
def wonB (l c : List Nat) : Bool := decide (0 < (rightTo l c l.length).length) && decide ((rightTo l c l.length).length + l.count 2 = l.length)
theorem both_len {f h : Nat → Bool} : ∀ {l : List Nat}, (∀ x ∈ l, f x = true → h x = false) → (l.filter f).length + (l.filter h).length = (l.filter fun x => f x || h x).length
  | [], _ => rfl
  | a :: l, d => by
    have ih := both_len (f := f) (h := h) (l := l) fun x hx => d x (List.mem_cons_of_mem _ hx)
    have da := d a List.mem_cons_self
    rw [List.filter_cons, List.filter_cons, List.filter_cons]
    cases ef : f a with
    | true =>
      rw [da ef]
      simp only [Bool.or_false, if_true, List.length_cons]
      simp
      omega
    | false =>
      cases eh : h a with
      | true =>
        simp
        omega
      | false =>
        simp
        omega
theorem all_len {f : Nat → Bool} : ∀ {l : List Nat}, ((l.filter f).length = l.length) = (l.all f = true)
  | [] => by simp
  | a :: l => by
    have ih := all_len (f := f) (l := l)
    have le := List.length_filter_le f l
    rw [List.filter_cons, List.all_cons]
    cases ef : f a with
    | true => simpa using ih
    | false =>
      simp
      omega
theorem count_map (f : Nat → Nat) (a : Nat) : ∀ l : List Nat, (l.map f).count a = (l.filter fun x => f x == a).length
  | [] => rfl
  | x :: l => by
    rw [List.map_cons, List.count_cons, List.filter_cons, count_map f a l]
    cases h : (f x == a) with
    | true => simp
    | false => simp
theorem pos_any {f : Nat → Bool} : ∀ {l : List Nat}, decide (0 < (l.filter f).length) = l.any f
  | [] => rfl
  | a :: l => by
    rw [List.filter_cons, List.any_cons]
    cases ef : f a with
    | true => simp
    | false => simpa using pos_any (f := f) (l := l)
theorem won_is {n : Nat} {t c : List Nat} (hc : ∀ u, u < n → c.getD u 0 < 2) : wonB (guessesTo 2 (crowd n) t c n) c = won n t c := by
  have el := guessesTo_len 2 (crowd n) t c n
  have er : rightTo (guessesTo 2 (crowd n) t c n) c n = (List.range n).filter fun v => guess 2 (crowd n) t v c == c.getD v 0 := by
    unfold rightTo
    apply List.filter_congr
    intro v hv
    rw [guessesTo_at (List.mem_range.mp hv)]
  have ec : (guessesTo 2 (crowd n) t c n).count 2 = ((List.range n).filter fun v => guess 2 (crowd n) t v c == 2).length := count_map _ _ _
  unfold wonB won
  rw [el, er, ec, pos_any, both_len]
  · congr 1
    rw [Bool.eq_iff_iff, decide_eq_true_iff]
    have z := all_len (f := fun v => guess 2 (crowd n) t v c == c.getD v 0 || guess 2 (crowd n) t v c == 2) (l := List.range n)
    rw [List.length_range] at z
    rw [z]
  · intro v hv h
    have h1 := hc v (List.mem_range.mp hv)
    have h2 := beq_iff_eq.mp h
    refine beq_eq_false_iff_ne.mpr ?_
    omega
/-- the won rows among the first i -/
def wonTo (n : Nat) (t : List Nat) (i : Nat) : Nat := ((List.range i).filter fun r => won n t (rowOf 2 n r)).length
theorem wonTo_succ (n : Nat) (t : List Nat) (i : Nat) : wonTo n t (i + 1) = wonTo n t i + if won n t (rowOf 2 n i) = true then 1 else 0 := by
  unfold wonTo
  rw [List.range_succ, List.filter_append, List.length_append, List.filter_cons]
  cases h : won n t (rowOf 2 n i) with
  | true => rfl
  | false => rfl
theorem wonTo_all (n : Nat) (t : List Nat) : ((rows 2 n).filter (won n t)).length = wonTo n t (2 ^ n) := by
  rw [rows_eq, List.filter_map, List.length_map]
  rfl
/-! ### what is due -/
def lineIs (n q : Int) (c : List Nat) : List Int := if lineOk n q = false then [-2] else if below n.toNat q.toNat c = false then [-3] else 0 :: outs (Sn88.line q.toNat [] c)
theorem line_due (n q : Int) (c : List Nat) : PySn88.line n q (outs c) = lineIs n q c := by
  have e : PySn88.line n q (outs c) = (match Sn88Neutral.answered (.line n q (Sn88Neutral.nats (outs c))) with
    | some a => a.v :: a.l.map fun (x : Nat) => (x : Int)
    | none => []) := rfl
  rw [e]
  unfold outs
  rw [nats_cast]
  show (if _ then _ else if _ then _ else _ : Ans).v :: (if _ then _ else if _ then _ else _ : Ans).l.map _ = _
  unfold lineIs
  cases h1 : lineOk n q with
  | false => rfl
  | true =>
    cases h2 : below n.toNat q.toNat c with
    | false => rfl
    | true => rfl
def passIs (n : Int) (t : List Nat) : List Int := if between n 1 8 = false then [-2] else if passGood n t = false then [-3] else [((wonTo n.toNat t (2 ^ n.toNat) : Nat) : Int)]
theorem pass_due (n : Int) (t : List Nat) : PySn88.passing n (outs t) = passIs n t := by
  have e : PySn88.passing n (outs t) = (match Sn88Neutral.answered (.pass n (Sn88Neutral.nats (outs t))) with
    | some a => a.v :: a.l.map fun (x : Nat) => (x : Int)
    | none => []) := rfl
  rw [e]
  unfold outs
  rw [nats_cast]
  show (if _ then _ else if _ then _ else _ : Ans).v :: (if _ then _ else if _ then _ else _ : Ans).l.map _ = _
  unfold passIs
  rw [← wonTo_all]
  cases h1 : between n 1 8 with
  | false => rfl
  | true =>
    cases h2 : passGood n t with
    | false => rfl
    | true => rfl
end Hb

set_option Elab.async false
/-! orders, and the rounds in which their boxes lie (no program here) -/
namespace Hb
open Sn88
/-! ### lists of all numbers -/
theorem perm_range : ∀ (n : Nat) (l : List Nat), l.length = n → (∀ i, i < n → i ∈ l) → l.Perm (List.range n)
  | 0, l, hl, _ => by
    have e : l = [] := List.eq_nil_of_length_eq_zero hl
    subst e
    exact List.Perm.refl _
  | n + 1, l, hl, h => by
    have hm : n ∈ l := h n (Nat.lt_succ_self n)
    have p1 := List.perm_cons_erase hm
    have hl2 : (l.erase n).length = n := by
      rw [List.length_erase_of_mem hm, hl]
      rfl
    have ih := perm_range n (l.erase n) hl2 fun i hi => (List.mem_erase_of_ne (Nat.ne_of_lt hi)).mpr (h i (by omega))
    rw [List.range_succ]
    exact (p1.trans (List.Perm.cons n ih)).trans (List.perm_append_comm (l₁ := [n]) (l₂ := List.range n))
theorem order_perm {n : Nat} {p : List Nat} (h : isOrder n p = true) : p.Perm (List.range n) := by
  unfold isOrder at h
  simp only [Bool.and_eq_true, beq_iff_eq, List.all_eq_true, List.mem_range] at h
  exact perm_range n p h.1 fun i hi => List.contains_iff_mem.mp (h.2 i hi)
theorem order_of {n : Nat} {p : List Nat} (hl : p.length = n) (h : ∀ i, i < n → i ∈ p) : isOrder n p = true := by
  unfold isOrder
  simp only [Bool.and_eq_true, beq_iff_eq, List.all_eq_true, List.mem_range]
  exact ⟨hl, fun i hi => List.contains_iff_mem.mpr (h i hi)⟩
theorem order_len {n : Nat} {p : List Nat} (h : isOrder n p = true) : p.length = n := by
  rw [(order_perm h).length_eq, List.length_range]
/-- a function that stays below n and hits nothing twice -/
structure Inj (n : Nat) (f : Nat → Nat) : Prop where
  lt : ∀ i, i < n → f i < n
  inj : ∀ i j, i < n → j < n → f i = f j → i = j
def fn (p : List Nat) : Nat → Nat := fun x => p.getD x 0
theorem fn_at {p : List Nat} {i : Nat} (h : i < p.length) : fn p i = p[i] := by
  unfold fn
  rw [List.getD_eq_getElem?_getD, List.getElem?_eq_getElem h]
  rfl
theorem order_inj {n : Nat} {p : List Nat} (h : isOrder n p = true) : Inj n (fn p) := by
  have pm := order_perm h
  have hl := order_len h
  have nd : p.Nodup := pm.nodup_iff.mpr List.nodup_range
  refine ⟨fun i hi => ?_, fun i j hi hj e => ?_⟩
  · rw [fn_at (by omega)]
    exact List.mem_range.mp (pm.mem_iff.mp (List.getElem_mem _))
  · rw [fn_at (by omega), fn_at (by omega)] at e
    exact (List.getElem_inj nd).mp e
/-! ### from box to box -/
def al (f : Nat → Nat) (i : Nat) : Nat → Nat
  | 0 => i
  | k + 1 => f (al f i k)
theorem along_is (p : List Nat) (i : Nat) : ∀ k, along p i k = al (fn p) i k
  | 0 => rfl
  | k + 1 => by
    show p.getD (along p i k) 0 = fn p (al (fn p) i k)
    rw [along_is p i k]
    rfl
theorem al_add (f : Nat → Nat) (i a : Nat) : ∀ b, al f i (a + b) = al f (al f i a) b
  | 0 => rfl
  | b + 1 => by
    show f (al f i (a + b)) = f (al f (al f i a) b)
    rw [al_add f i a b]
section
variable {n : Nat} {f : Nat → Nat} (F : Inj n f)
include F
theorem al_lt {i : Nat} (hi : i < n) : ∀ k, al f i k < n
  | 0 => hi
  | k + 1 => F.lt _ (al_lt hi k)
theorem al_inj {i j : Nat} (hi : i < n) (hj : j < n) : ∀ k, al f i k = al f j k → i = j
  | 0, e => e
  | k + 1, e => al_inj hi hj k (F.inj _ _ (al_lt F hi k) (al_lt F hj k) e)
omit F in
theorem short_of_nodup : ∀ (n : Nat) (l : List Nat), l.Nodup → (∀ x ∈ l, x < n) → l.length ≤ n
  | 0, l, _, h => by
    cases l with
    | nil => exact Nat.le_refl _
    | cons a l => exact absurd (h a List.mem_cons_self) (Nat.not_lt_zero a)
  | n + 1, l, nd, h => by
    have ih := short_of_nodup n (l.erase n) (nd.erase n) fun x hx => by
      have h1 := nd.mem_erase_iff.mp hx
      have h2 := h x h1.2
      have h3 := h1.1
      omega
    have := List.le_length_erase (l := l) (a := n)
    omega
/-- one comes back -/
theorem comes_back {i : Nat} (hi : i < n) : ∃ m, 1 ≤ m ∧ m ≤ n ∧ al f i m = i := by
  by_cases h : ∃ m, 1 ≤ m ∧ m ≤ n ∧ al f i m = i
  · exact h
  · exfalso
    have nd : ((List.range (n + 1)).map (al f i)).Nodup := by
      rw [List.nodup_iff_pairwise_ne, List.pairwise_map]
      refine List.Pairwise.imp_of_mem ?_ (List.pairwise_lt_range (n := n + 1))
      intro a b ha hb hab e
      have hb' := List.mem_range.mp hb
      refine h ⟨b - a, by omega, by omega, ?_⟩
      have e2 : al f i b = al f (al f i (b - a)) a := by
        rw [← al_add]
        congr 1
        omega
      rw [e2] at e
      exact (al_inj F hi (al_lt F hi _) a e).symm
    have := short_of_nodup n _ nd fun x hx => by
      obtain ⟨k, _, e⟩ := List.mem_map.mp hx
      rw [← e]
      exact al_lt F hi k
    rw [List.length_map, List.length_range] at this
    omega
end
/-- in so many steps one is back for the first time -/
structure Back1 (f : Nat → Nat) (i m : Nat) : Prop where
  pos : 1 ≤ m
  back : al f i m = i
  first : ∀ k, 1 ≤ k → k < m → al f i k ≠ i
theorem Back1.unique {f : Nat → Nat} {i m m' : Nat} (a : Back1 f i m) (b : Back1 f i m') : m = m' := by
  rcases Nat.lt_trichotomy m m' with h | h | h
  · exact absurd a.back (b.first m a.pos h)
  · exact h
  · exact absurd b.back (a.first m' b.pos h)
/-- how long the round is on which i lies -/
def rnd (n : Nat) (f : Nat → Nat) (i : Nat) : Nat := (((List.range n).map fun k => k + 1).find? fun k => al f i k == i).getD 0
theorem opens_is {n : Nat} {p : List Nat} (hl : p.length = n) (i : Nat) : opens p i = rnd n (fn p) i := by
  unfold opens rnd
  rw [hl]
  congr 2
  funext k
  rw [along_is]
section
variable {n : Nat} {f : Nat → Nat} (F : Inj n f)
include F
theorem rnd_back {i : Nat} (hi : i < n) : Back1 f i (rnd n f i) ∧ rnd n f i ≤ n := by
  unfold rnd
  rw [List.find?_map]
  cases e : (List.range n).find? ((fun k => al f i k == i) ∘ fun k => k + 1) with
  | none =>
    exfalso
    obtain ⟨m, h1, h2, h3⟩ := comes_back F hi
    have := List.find?_eq_none.mp e (m - 1) (List.mem_range.mpr (by omega))
    apply this
    show (al f i (m - 1 + 1) == i) = true
    rw [Nat.sub_add_cancel h1, h3]
    exact beq_self_eq_true i
  | some j =>
    obtain ⟨h1, h2, h3⟩ := List.find?_range_eq_some.mp e
    show Back1 f i (j + 1) ∧ j + 1 ≤ n
    refine ⟨⟨by omega, beq_iff_eq.mp h1, fun k k1 k2 z => ?_⟩, List.mem_range.mp h2⟩
    have h4 := h3 (k - 1) (by omega)
    have h5 : ((fun k => al f i k == i) ∘ fun k => k + 1) (k - 1) = true := by
      show (al f i (k - 1 + 1) == i) = true
      rw [Nat.sub_add_cancel k1, z]
      exact beq_self_eq_true i
    rw [h5] at h4
    cases h4
theorem rnd_is {i m : Nat} (hi : i < n) (h : Back1 f i m) : rnd n f i = m := (rnd_back F hi).1.unique h
/-- on one round nothing is met twice -/
theorem al_ne {i a b : Nat} (hi : i < n) (hab : a < b) (hb : b < rnd n f i) : al f i a ≠ al f i b := by
  intro e
  have e2 : al f i b = al f (al f i (b - a)) a := by
    rw [← al_add]
    congr 1
    omega
  rw [e2] at e
  exact (rnd_back F hi).1.first (b - a) (by omega) (by omega) (al_inj F hi (al_lt F hi _) a e).symm
/-- who lies on one round has one length -/
theorem rnd_along {i : Nat} (hi : i < n) (a : Nat) : rnd n f (al f i a) = rnd n f i := by
  have hb := (rnd_back F hi).1
  refine rnd_is F (al_lt F hi a) ⟨hb.pos, ?_, fun k k1 k2 e => ?_⟩
  · rw [← al_add, Nat.add_comm, al_add, hb.back]
  · rw [← al_add, Nat.add_comm, al_add] at e
    exact hb.first k k1 k2 (al_inj F (al_lt F hi k) hi a e)
theorem al_mul {i : Nat} (hi : i < n) : ∀ t, al f i (rnd n f i * t) = i
  | 0 => rfl
  | t + 1 => by rw [Nat.mul_succ, al_add, al_mul hi t, (rnd_back F hi).1.back]
theorem al_mod {i : Nat} (hi : i < n) (a : Nat) : al f i (a % rnd n f i) = al f i a := by
  have e : a = rnd n f i * (a / rnd n f i) + a % rnd n f i := (Nat.div_add_mod _ _).symm
  conv => rhs; rw [e, al_add, al_mul F hi]
end
/-- y lies on the round of i -/
def On (f : Nat → Nat) (i y : Nat) : Prop := ∃ a, al f i a = y
section
variable {n : Nat} {f : Nat → Nat} (F : Inj n f)
include F
theorem On.lt {i y : Nat} (hi : i < n) (h : On f i y) : y < n := by
  obtain ⟨a, e⟩ := h
  rw [← e]
  exact al_lt F hi a
theorem On.near {i y : Nat} (hi : i < n) (h : On f i y) : ∃ a, a < rnd n f i ∧ al f i a = y := by
  obtain ⟨a, e⟩ := h
  exact ⟨a % rnd n f i, Nat.mod_lt _ (rnd_back F hi).1.pos, by rw [al_mod F hi, e]⟩
theorem On.rnd {i y : Nat} (hi : i < n) (h : On f i y) : rnd n f y = Hb.rnd n f i := by
  obtain ⟨a, e⟩ := h
  rw [← e]
  exact rnd_along F hi a
omit F in
theorem On.refl (i : Nat) : On f i i := ⟨0, rfl⟩
omit F in
theorem On.trans {i y z : Nat} (h : On f i y) (k : On f y z) : On f i z := by
  obtain ⟨a, rfl⟩ := h
  obtain ⟨b, rfl⟩ := k
  exact ⟨a + b, al_add f i a b⟩
theorem On.symm {i y : Nat} (hi : i < n) (h : On f i y) : On f y i := by
  obtain ⟨a, ha, e⟩ := h.near F hi
  refine ⟨Hb.rnd n f i - a, ?_⟩
  rw [← e, ← al_add, Nat.add_sub_cancel' (by omega), (rnd_back F hi).1.back]
end
/-! ### two boxes exchanged -/
def ex (f : Nat → Nat) (i j : Nat) : Nat → Nat := fun x => if x = j then f i else if x = i then f j else f x
theorem exchanged_fn {p : List Nat} {i j : Nat} (hi : i < p.length) (hj : j < p.length) : fn (exchanged p i j) = ex (fn p) i j := by
  funext x
  unfold exchanged fn ex
  rw [List.getD_eq_getElem?_getD]
  by_cases e : x = j
  · subst e
    rw [if_pos rfl, List.getElem?_set_self (by rw [List.length_set]; exact hj)]
    rfl
  · rw [if_neg e, List.getElem?_set_ne (fun z => e z.symm)]
    by_cases e2 : x = i
    · subst e2
      rw [if_pos rfl, List.getElem?_set_self hi]
      rfl
    · rw [if_neg e2, List.getElem?_set_ne (fun z => e2 z.symm)]
      exact (List.getD_eq_getElem?_getD ..).symm
theorem exchanged_len (p : List Nat) (i j : Nat) : (exchanged p i j).length = p.length := by
  unfold exchanged
  rw [List.length_set, List.length_set]
section
variable {n : Nat} {f : Nat → Nat} (F : Inj n f)
include F
theorem ex_inj {i j : Nat} (hi : i < n) (hj : j < n) : Inj n (ex f i j) := by
  refine ⟨fun x hx => ?_, fun x y hx hy e => ?_⟩
  · unfold ex
    split
    · exact F.lt i hi
    · split
      · exact F.lt j hj
      · exact F.lt x hx
  · unfold ex at e
    by_cases x1 : x = j
    · by_cases y1 : y = j
      · omega
      · rw [if_pos x1, if_neg y1] at e
        by_cases y2 : y = i
        · rw [if_pos y2] at e
          have := F.inj _ _ hi hj e
          omega
        · rw [if_neg y2] at e
          have := F.inj _ _ hi hy e
          omega
    · rw [if_neg x1] at e
      by_cases x2 : x = i
      · rw [if_pos x2] at e
        by_cases y1 : y = j
        · rw [if_pos y1] at e
          have := F.inj _ _ hj hi e
          omega
        · rw [if_neg y1] at e
          by_cases y2 : y = i
          · omega
          · rw [if_neg y2] at e
            have := F.inj _ _ hj hy e
            omega
      · rw [if_neg x2] at e
        by_cases y1 : y = j
        · rw [if_pos y1] at e
          have := F.inj _ _ hx hi e
          omega
        · rw [if_neg y1] at e
          by_cases y2 : y = i
          · rw [if_pos y2] at e
            have := F.inj _ _ hx hj e
            omega
          · rw [if_neg y2] at e
            exact F.inj _ _ hx hy e
omit F in
theorem ex_j {i j : Nat} : ex f i j j = f i := if_pos rfl
omit F in
theorem ex_i {i j : Nat} (h : i ≠ j) : ex f i j i = f j := by
  unfold ex
  rw [if_neg h, if_pos rfl]
omit F in
theorem ex_else {i j x : Nat} (h1 : x ≠ i) (h2 : x ≠ j) : ex f i j x = f x := by
  unfold ex
  rw [if_neg h2, if_neg h1]
omit F in
/-- a round with neither stays as it is -/
theorem ex_far {i j x : Nat} (hi : ¬ On f x i) (hj : ¬ On f x j) : ∀ k, al (ex f i j) x k = al f x k
  | 0 => rfl
  | k + 1 => by
    show ex f i j (al (ex f i j) x k) = f (al f x k)
    rw [ex_far hi hj k]
    exact ex_else (fun z => hi ⟨k, z⟩) (fun z => hj ⟨k, z⟩)
omit F in
theorem rnd_far {i j x : Nat} (hi : ¬ On f x i) (hj : ¬ On f x j) : rnd n (ex f i j) x = rnd n f x := by
  unfold rnd
  congr 2
  funext k
  rw [ex_far hi hj k]
/-- both on one round: it falls into two -/
theorem split_i {i d : Nat} (hi : i < n) (h0 : 0 < d) (hd : d < rnd n f i) : ∀ m, 1 ≤ m → d + m ≤ rnd n f i → al (ex f i (al f i d)) i m = al f i (d + m)
  | 0, h, _ => absurd h (by omega)
  | 1, _, _ => by
    show ex f i (al f i d) i = f (al f i d)
    exact ex_i (al_ne F hi h0 hd)
  | m + 2, _, h => by
    show ex f i (al f i d) (al (ex f i (al f i d)) i (m + 1)) = f (al f i (d + (m + 1)))
    rw [split_i hi h0 hd (m + 1) (by omega) (by omega)]
    exact ex_else (fun z => al_ne F hi (a := 0) (b := d + (m + 1)) (by omega) (by omega) z.symm) (fun z => al_ne F hi (a := d) (b := d + (m + 1)) (by omega) (by omega) z.symm)
theorem split_j {i d : Nat} (hi : i < n) (h0 : 0 < d) (hd : d < rnd n f i) : ∀ m, 1 ≤ m → m ≤ d → al (ex f i (al f i d)) (al f i d) m = al f i m
  | 0, h, _ => absurd h (by omega)
  | 1, _, _ => ex_j
  | m + 2, _, h => by
    show ex f i (al f i d) (al (ex f i (al f i d)) (al f i d) (m + 1)) = f (al f i (m + 1))
    rw [split_j hi h0 hd (m + 1) (by omega) (by omega)]
    exact ex_else (fun z => al_ne F hi (a := 0) (b := m + 1) (by omega) (by omega) z.symm) (fun z => al_ne F hi (a := m + 1) (b := d) (by omega) (by omega) z)
theorem rnd_split_i {i d : Nat} (hi : i < n) (h0 : 0 < d) (hd : d < rnd n f i) : rnd n (ex f i (al f i d)) i = rnd n f i - d := by
  refine rnd_is (ex_inj F hi (al_lt F hi d)) hi ⟨by omega, ?_, fun k k1 k2 e => ?_⟩
  · rw [split_i F hi h0 hd _ (by omega) (by omega), Nat.add_sub_cancel' (by omega), (rnd_back F hi).1.back]
  · rw [split_i F hi h0 hd k k1 (by omega)] at e
    exact (rnd_back F hi).1.first (d + k) (by omega) (by omega) e
theorem rnd_split_j {i d : Nat} (hi : i < n) (h0 : 0 < d) (hd : d < rnd n f i) : rnd n (ex f i (al f i d)) (al f i d) = d := by
  refine rnd_is (ex_inj F hi (al_lt F hi d)) (al_lt F hi d) ⟨h0, ?_, fun k k1 k2 e => ?_⟩
  · rw [split_j F hi h0 hd d h0 (Nat.le_refl d)]
  · rw [split_j F hi h0 hd k k1 (by omega)] at e
    exact al_ne F hi k2 hd e
/-- .. and each on it lies on one of the two -/
theorem rnd_split {i d : Nat} (hi : i < n) (h0 : 0 < d) (hd : d < rnd n f i) {x : Nat} (hx : On f i x) : rnd n (ex f i (al f i d)) x = rnd n f i - d ∨ rnd n (ex f i (al f i d)) x = d := by
  have G := ex_inj F hi (al_lt F hi d)
  obtain ⟨a, ha, rfl⟩ := hx.near F hi
  by_cases h1 : a = 0
  · subst h1
    exact .inl (rnd_split_i F hi h0 hd)
  · by_cases h2 : a ≤ d
    · right
      rw [← split_j F hi h0 hd a (by omega) h2, rnd_along G (al_lt F hi d), rnd_split_j F hi h0 hd]
    · left
      have e := split_i F hi h0 hd (a - d) (by omega) (by omega)
      rw [Nat.add_sub_cancel' (by omega)] at e
      rw [← e, rnd_along G hi, rnd_split_i F hi h0 hd]
/-- each on a round of its own: they become one -/
theorem join_1 {i j : Nat} (hi : i < n) (hj : j < n) (far : ¬ On f j i) : ∀ m, 1 ≤ m → m ≤ rnd n f j → al (ex f i j) i m = al f j m
  | 0, h, _ => absurd h (by omega)
  | 1, _, _ => ex_i fun z => far (z ▸ On.refl i)
  | m + 2, _, h => by
    show ex f i j (al (ex f i j) i (m + 1)) = f (al f j (m + 1))
    rw [join_1 hi hj far (m + 1) (by omega) (by omega)]
    exact ex_else (fun z => far ⟨_, z⟩) ((rnd_back F hj).1.first (m + 1) (by omega) (by omega))
theorem join_2 {i j : Nat} (hi : i < n) (hj : j < n) (far : ¬ On f j i) (far' : ¬ On f i j) : ∀ m, 1 ≤ m → m ≤ rnd n f i → al (ex f i j) i (rnd n f j + m) = al f i m
  | 0, h, _ => absurd h (by omega)
  | 1, _, _ => by
    show ex f i j (al (ex f i j) i (rnd n f j)) = f i
    rw [join_1 F hi hj far _ (rnd_back F hj).1.pos (Nat.le_refl _), (rnd_back F hj).1.back]
    exact ex_j
  | m + 2, _, h => by
    show ex f i j (al (ex f i j) i (rnd n f j + (m + 1))) = f (al f i (m + 1))
    rw [join_2 hi hj far far' (m + 1) (by omega) (by omega)]
    exact ex_else ((rnd_back F hi).1.first (m + 1) (by omega) (by omega)) (fun z => far' ⟨_, z⟩)
theorem rnd_join {i j : Nat} (hi : i < n) (hj : j < n) (far : ¬ On f i j) : rnd n (ex f i j) i = rnd n f j + rnd n f i := by
  have far' : ¬ On f j i := fun z => far (z.symm F hj)
  have bi := (rnd_back F hi).1
  have bj := (rnd_back F hj).1
  refine rnd_is (ex_inj F hi hj) hi ⟨by have := bi.pos; omega, ?_, fun k k1 k2 e => ?_⟩
  · rw [join_2 F hi hj far' far _ bi.pos (Nat.le_refl _), bi.back]
  · by_cases h : k ≤ rnd n f j
    · rw [join_1 F hi hj far' k k1 h] at e
      exact far' ⟨_, e⟩
    · have e2 : k = rnd n f j + (k - rnd n f j) := by omega
      rw [e2, join_2 F hi hj far' far _ (by omega) (by omega)] at e
      exact bi.first _ (by omega) (by omega) e
omit F in
theorem ex_comm (i j : Nat) : ex f i j = ex f j i := by
  funext x
  unfold ex
  by_cases h1 : x = j
  · by_cases h2 : x = i
    · rw [if_pos h1, if_pos h2]
      rw [← h1, ← h2]
    · rw [if_pos h1, if_neg h2, if_pos h1]
  · rw [if_neg h1]
    by_cases h2 : x = i
    · rw [if_pos h2, if_pos h2]
    · rw [if_neg h2, if_neg h2, if_neg h1]
/-! ### all find theirs -/
def Fine (n k : Nat) (f : Nat → Nat) : Prop := ∀ x, x < n → rnd n f x ≤ k
/-- which two boxes do, if one round (that of x) is too long -/
theorem fine_ex {k x i j : Nat} (hx : x < n) (hk : k < rnd n f x) (hi : i < n) (hj : j < n) (hij : i ≠ j) :
    Fine n k (ex f i j) ↔ (∀ y, y < n → ¬ On f x y → rnd n f y ≤ k) ∧ On f x i ∧ ∃ d, 0 < d ∧ d < rnd n f x ∧ j = al f i d ∧ d ≤ k ∧ rnd n f x ≤ k + d := by
  constructor
  · intro h
    have far : ∀ y, y < n → k < rnd n f y → On f y i ∨ On f y j := fun y hy hk => by
      by_cases h1 : On f y i
      · exact .inl h1
      · by_cases h2 : On f y j
        · exact .inr h2
        · have := h y hy
          rw [rnd_far h1 h2] at this
          omega
    have one : On f i j := by
      by_cases z : On f i j
      · exact z
      · exfalso
        have e1 := rnd_join F hi hj z
        have h1 := h i hi
        rcases far x hx hk with q | q
        · have := q.rnd F hx
          omega
        · have := q.rnd F hx
          omega
    have onx : On f x i := by
      rcases far x hx hk with q | q
      · exact q
      · exact q.trans (one.symm F hi)
    have er := onx.rnd F hx
    obtain ⟨d, hd, e⟩ := one.near F hi
    have d0 : 0 < d := by
      rcases Nat.eq_zero_or_pos d with z | z
      · subst z
        exact absurd e hij
      · exact z
    subst e
    refine ⟨fun y hy hn => ?_, onx, d, d0, by omega, rfl, ?_, ?_⟩
    · rcases Nat.lt_or_ge k (rnd n f y) with z | z
      · exfalso
        apply hn
        rcases far y hy z with q | q
        · exact onx.trans (q.symm F hy)
        · exact (onx.trans one).trans (q.symm F hy)
      · exact z
    · have := h _ hj
      rw [rnd_split_j F hi d0 hd] at this
      exact this
    · have := h i hi
      rw [rnd_split_i F hi d0 hd] at this
      omega
  · rintro ⟨h1, onx, d, d0, hd, rfl, dk, ld⟩ y hy
    have er := onx.rnd F hx
    by_cases hn : On f x y
    · rcases rnd_split F hi d0 (by omega) (On.trans (onx.symm F hx) hn) with e | e
      · rw [e]
        omega
      · rw [e]
        exact dk
    · have f1 : ¬ On f y i := fun z => hn (onx.trans (z.symm F hy))
      have f2 : ¬ On f y (al f i d) := fun z => hn ((onx.trans ⟨d, rfl⟩).trans (z.symm F hy))
      rw [rnd_far f1 f2]
      exact h1 y hy hn
end
theorem all_iff {n k : Nat} {p : List Nat} (hl : p.length = n) : Sn88.all k p = true ↔ Fine n k (fn p) := by
  unfold Sn88.all Fine
  rw [hl]
  simp only [List.all_eq_true, List.mem_range, decide_eq_true_eq, opens_is hl]
theorem all_ex_iff {n k i j : Nat} {p : List Nat} (hl : p.length = n) (hi : i < n) (hj : j < n) : Sn88.all k (exchanged p i j) = true ↔ Fine n k (ex (fn p) i j) := by
  rw [all_iff (n := n) (by rw [exchanged_len]; exact hl), exchanged_fn (by omega) (by omega)]
end Hb

set_option Elab.async false
/-! what is due of code, boxes and swap, in cases; what is asked of them (no program here) -/
namespace Hb
open Sn88
/-! ### code -/
theorem between_iff {z lo hi : Int} : between z lo hi = true ↔ lo ≤ z ∧ z ≤ hi := by
  unfold between
  simp only [Bool.and_eq_true, decide_eq_true_eq]
theorem not_true {b : Bool} (h : ¬ b = true) : b = false := by
  cases b with
  | false => rfl
  | true => exact absurd rfl h
theorem below_iff {n q : Nat} {c : List Nat} : below n q c = true ↔ c.length = n ∧ ∀ x ∈ c, x < q := by
  unfold below
  simp only [Bool.and_eq_true, beq_iff_eq, List.all_eq_true, decide_eq_true_eq]
theorem code_due (r : Int) (c : List Nat) : PySn88.code r (outs c) = if between r 1 8 = false then [-2] else if below (2 ^ r.toNat - 1) 2 c = false then [-3] else 0 :: outs (Sn88.code c) := by
  have e : PySn88.code r (outs c) = (match Sn88Neutral.answered (.code r (Sn88Neutral.nats (outs c))) with
    | some a => a.v :: a.l.map fun (x : Nat) => (x : Int)
    | none => []) := rfl
  rw [e]
  unfold outs
  rw [nats_cast]
  show (if _ then _ else if _ then _ else _ : Ans).v :: (if _ then _ else if _ then _ else _ : Ans).l.map _ = _
  cases h1 : between r 1 8 with
  | false => rfl
  | true =>
    cases h2 : below (2 ^ r.toNat - 1) 2 c with
    | false => rfl
    | true => rfl
theorem code_2 {r : Int} {c : List Nat} (h : ¬ (1 ≤ r ∧ r ≤ 8)) : PySn88.code r (outs c) = [-2] := by
  rw [code_due, if_pos (not_true fun z => h (between_iff.mp z))]
theorem code_3 {r : Int} {c : List Nat} (h : 1 ≤ r ∧ r ≤ 8) (h3 : ¬ ∀ x ∈ c, x < 2) : PySn88.code r (outs c) = [-3] := by
  rw [code_due, if_neg (by rw [between_iff.mpr h]; decide), if_pos (not_true fun z => h3 (below_iff.mp z).2)]
theorem code_0 {r : Int} {c : List Nat} (h : 1 ≤ r ∧ r ≤ 8) (hl : c.length = 2 ^ r.toNat - 1) (h3 : ∀ x ∈ c, x < 2) : PySn88.code r (outs c) = 0 :: outs (Sn88.code c) := by
  rw [code_due, if_neg (by rw [between_iff.mpr h]; decide), if_neg (by rw [below_iff.mpr ⟨hl, h3⟩]; decide)]
theorem asked_code {r : Int} {t : List Int} (h : PySn88.code_asked r t = true) : ∃ T : List Nat, t = outs T ∧ (1 ≤ r → r ≤ 8 → T.length = 2 ^ r.toNat - 1) := by
  have h0 : Sn88Neutral.asked [[[4, r], t]] = true := h
  unfold Sn88Neutral.asked at h0
  rw [Bool.and_eq_true] at h0
  have h1 := h0.1
  rw [List.all_cons, show Sn88Neutral.asked1 [[4, r], t] = (Sn88Neutral.whole32 r && (t.all (fun (z : Int) => Sn88Neutral.natural z 8) && (decide ((t.length : Int) = if 1 ≤ r ∧ r ≤ 8 then 2 ^ r.toNat - 1 else 0)))) from rfl] at h1
  simp only [Bool.and_eq_true, decide_eq_true_eq, List.all_eq_true, Sn88Neutral.natural] at h1
  obtain ⟨⟨_, ht, htl⟩, _⟩ := h1
  refine ⟨Sn88Neutral.nats t, cast_nats (l := t) fun x hx => (ht x hx).1, fun a b => ?_⟩
  rw [if_pos ⟨a, b⟩] at htl
  unfold Sn88Neutral.nats
  rw [List.length_map]
  have e : ((2 : Int) ^ r.toNat) = ((2 ^ r.toNat : Nat) : Int) := by
    rw [Int.natCast_pow]
    rfl
  rw [e] at htl
  have := Nat.two_pow_pos r.toNat
  generalize 2 ^ r.toNat = m at htl this ⊢
  omega
/-! ### boxes -/
theorem boxOk_iff {n k : Int} : boxOk n k = true ↔ (1 ≤ n ∧ n ≤ 1024) ∧ (0 ≤ k ∧ k ≤ n) := by
  unfold boxOk
  rw [Bool.and_eq_true, between_iff, between_iff]
theorem boxes_due (n k : Int) (p : List Nat) : PySn88.boxes n k (outs p) = if boxOk n k = false then [-2] else if isOrder n.toNat p = false then [-3] else [if all k.toNat p = true then 1 else 0] := by
  have e : PySn88.boxes n k (outs p) = (match Sn88Neutral.answered (.boxes n k (Sn88Neutral.nats (outs p))) with
    | some a => a.v :: a.l.map fun (x : Nat) => (x : Int)
    | none => []) := rfl
  rw [e]
  unfold outs
  rw [nats_cast]
  show (if _ then _ else if _ then _ else _ : Ans).v :: (if _ then _ else if _ then _ else _ : Ans).l.map _ = _
  cases h1 : boxOk n k with
  | false => rfl
  | true =>
    cases h2 : isOrder n.toNat p with
    | false => rfl
    | true => rfl
theorem boxes_2 {n k : Int} {p : List Nat} (h : ¬ ((1 ≤ n ∧ n ≤ 1024) ∧ (0 ≤ k ∧ k ≤ n))) : PySn88.boxes n k (outs p) = [-2] := by
  rw [boxes_due, if_pos (not_true fun z => h (boxOk_iff.mp z))]
theorem boxes_3 {n k : Int} {p : List Nat} (h : (1 ≤ n ∧ n ≤ 1024) ∧ (0 ≤ k ∧ k ≤ n)) (h3 : ¬ isOrder n.toNat p = true) : PySn88.boxes n k (outs p) = [-3] := by
  rw [boxes_due, if_neg (by rw [boxOk_iff.mpr h]; decide), if_pos (not_true h3)]
theorem boxes_0 {n k : Int} {p : List Nat} (h : (1 ≤ n ∧ n ≤ 1024) ∧ (0 ≤ k ∧ k ≤ n)) (h3 : isOrder n.toNat p = true) : PySn88.boxes n k (outs p) = [if all k.toNat p = true then 1 else 0] := by
  rw [boxes_due, if_neg (by rw [boxOk_iff.mpr h]; decide), if_neg (by rw [h3]; decide)]
theorem asked_box1 {n k c : Int} {t : List Int} (hk : Sn88Neutral.asked1 [[c, n, k], t] = (Sn88Neutral.whole32 n && (Sn88Neutral.whole32 k && (t.all (fun (z : Int) => Sn88Neutral.natural z 16) && (decide ((t.length : Int) = if 1 ≤ n ∧ n ≤ 1024 then n else 0))))))
    (h : Sn88Neutral.asked [[[c, n, k], t]] = true) : ∃ T : List Nat, t = outs T ∧ T.length ≤ 1024 ∧ (∀ x ∈ T, x < 65536) ∧ (1 ≤ n → n ≤ 1024 → T.length = n.toNat) := by
  unfold Sn88Neutral.asked at h
  rw [Bool.and_eq_true] at h
  have h1 := h.1
  rw [List.all_cons, hk] at h1
  simp only [Bool.and_eq_true, decide_eq_true_eq, List.all_eq_true, Sn88Neutral.natural] at h1
  obtain ⟨⟨_, _, ht, htl⟩, _⟩ := h1
  have el : (Sn88Neutral.nats t).length = t.length := by
    unfold Sn88Neutral.nats
    rw [List.length_map]
  refine ⟨Sn88Neutral.nats t, cast_nats (l := t) fun x hx => (ht x hx).1, ?_, fun x hx => ?_, fun a b => ?_⟩
  · rw [el]
    by_cases z : 1 ≤ n ∧ n ≤ 1024
    · rw [if_pos z] at htl
      omega
    · rw [if_neg z] at htl
      omega
  · unfold Sn88Neutral.nats at hx
    obtain ⟨y, hy, e⟩ := List.mem_map.mp hx
    have := (ht y hy).2
    omega
  · rw [if_pos ⟨a, b⟩] at htl
    rw [el]
    omega
theorem asked_boxes {n k : Int} {t : List Int} (h : PySn88.boxes_asked n k t = true) : ∃ T : List Nat, t = outs T ∧ T.length ≤ 1024 ∧ (∀ x ∈ T, x < 65536) ∧ (1 ≤ n → n ≤ 1024 → T.length = n.toNat) := asked_box1 (c := 5) rfl h
/-! ### swap -/
theorem asked_swap {n k : Int} {t : List Int} (h : PySn88.swap_asked n k t = true) : ∃ T : List Nat, t = outs T ∧ T.length ≤ 1024 ∧ (∀ x ∈ T, x < 65536) ∧ (1 ≤ n → n ≤ 1024 → T.length = n.toNat) := asked_box1 (c := 6) rfl h
def swapTold (n k : Nat) (p : List Nat) : List Int := if all k p = true then [0] else match (pairs n).find? (fun x => all k (exchanged p x.1 x.2)) with
  | some x => [1, (x.1 : Int), (x.2 : Int)]
  | none => [-5]
theorem swap_due (n k : Int) (p : List Nat) : PySn88.swap n k (outs p) = if boxOk n k = false then [-2] else if isOrder n.toNat p = false then [-3] else swapTold n.toNat k.toNat p := by
  have e : PySn88.swap n k (outs p) = (match Sn88Neutral.answered (.swap n k (Sn88Neutral.nats (outs p))) with
    | some a => a.v :: a.l.map fun (x : Nat) => (x : Int)
    | none => []) := rfl
  rw [e]
  unfold outs
  rw [nats_cast]
  have e2 : Sn88Neutral.answered (.swap n k p) = some (if boxOk n k = false then ok (-2) else if isOrder n.toNat p = false then ok (-3) else if all k.toNat p = true then ok 0 else
      match (pairs n.toNat).find? (fun x => all k.toNat (exchanged p x.1 x.2)) with
      | some x => ⟨1, [x.1, x.2]⟩
      | none => ok (-5)) := rfl
  rw [e2]
  unfold swapTold
  cases h1 : boxOk n k with
  | false => rfl
  | true =>
    cases h2 : isOrder n.toNat p with
    | false => rfl
    | true =>
      cases h3 : all k.toNat p with
      | true => rfl
      | false =>
        cases h4 : (pairs n.toNat).find? (fun x => all k.toNat (exchanged p x.1 x.2)) with
        | none => rfl
        | some x => rfl
theorem swap_2 {n k : Int} {p : List Nat} (h : ¬ ((1 ≤ n ∧ n ≤ 1024) ∧ (0 ≤ k ∧ k ≤ n))) : PySn88.swap n k (outs p) = [-2] := by
  rw [swap_due, if_pos (not_true fun z => h (boxOk_iff.mp z))]
theorem swap_3 {n k : Int} {p : List Nat} (h : (1 ≤ n ∧ n ≤ 1024) ∧ (0 ≤ k ∧ k ≤ n)) (h3 : ¬ isOrder n.toNat p = true) : PySn88.swap n k (outs p) = [-3] := by
  rw [swap_due, if_neg (by rw [boxOk_iff.mpr h]; decide), if_pos (not_true h3)]
theorem swap_1 {n k : Int} {p : List Nat} (h : (1 ≤ n ∧ n ≤ 1024) ∧ (0 ≤ k ∧ k ≤ n)) (h3 : isOrder n.toNat p = true) : PySn88.swap n k (outs p) = swapTold n.toNat k.toNat p := by
  rw [swap_due, if_neg (by rw [boxOk_iff.mpr h]; decide), if_neg (by rw [h3]; decide)]
/-! ### the first pair -/
theorem find_first {α : Type} {R : α → α → Prop} {P : α → Bool} {b : α} : ∀ {l : List α}, l.Pairwise R → b ∈ l → P b = true → (∀ a ∈ l, P a = true → a ≠ b → ¬ R a b) → l.find? P = some b
  | [], _, h, _, _ => by cases h
  | a :: l, pw, hb, pb, first => by
    rw [List.pairwise_cons] at pw
    cases pa : P a with
    | true =>
      rw [List.find?_cons_of_pos pa]
      rcases List.mem_cons.mp hb with e | hb2
      · rw [e]
      · by_cases e : a = b
        · rw [e]
        · exact absurd (pw.1 b hb2) (first a List.mem_cons_self pa e)
    | false =>
      rw [List.find?_cons_of_neg (by rw [pa]; decide)]
      rcases List.mem_cons.mp hb with e | hb2
      · rw [← e, pb] at pa
        cases pa
      · exact find_first pw.2 hb2 pb fun c hc => first c (List.mem_cons_of_mem _ hc)
theorem mem_pairs {n i j : Nat} : (i, j) ∈ pairs n ↔ i < j ∧ j < n := by
  unfold pairs
  simp only [List.mem_flatMap, List.mem_map, List.mem_filter, List.mem_range, decide_eq_true_eq, Prod.mk.injEq]
  constructor
  · rintro ⟨a, ha, b, ⟨hb, hab⟩, rfl, rfl⟩
    exact ⟨hab, hb⟩
  · rintro ⟨h1, h2⟩
    exact ⟨i, by omega, j, ⟨h2, h1⟩, rfl, rfl⟩
def Lex (a b : Nat × Nat) : Prop := a.1 < b.1 ∨ (a.1 = b.1 ∧ a.2 < b.2)
theorem pairs_lex (n : Nat) : (pairs n).Pairwise Lex := by
  unfold pairs
  rw [List.pairwise_flatMap]
  refine ⟨fun i _ => ?_, ?_⟩
  · rw [List.pairwise_map]
    refine List.Pairwise.imp ?_ (List.Pairwise.filter _ (List.pairwise_lt_range (n := n)))
    intro a b h
    exact .inr ⟨rfl, h⟩
  · refine List.Pairwise.imp ?_ (List.pairwise_lt_range (n := n))
    intro a b h x hx y hy
    obtain ⟨u, _, rfl⟩ := List.mem_map.mp hx
    obtain ⟨v, _, rfl⟩ := List.mem_map.mp hy
    exact .inl h
theorem first_pair {n i j : Nat} {P : Nat × Nat → Bool} (hij : i < j) (hj : j < n) (h : P (i, j) = true) (first : ∀ a b, a < b → b < n → P (a, b) = true → i < a ∨ (i = a ∧ j ≤ b)) : (pairs n).find? P = some (i, j) := by
  refine find_first (pairs_lex n) (mem_pairs.mpr ⟨hij, hj⟩) h ?_
  rintro ⟨a, b⟩ hab pab ne lx
  obtain ⟨h1, h2⟩ := mem_pairs.mp hab
  have lx : a < i ∨ (a = i ∧ b < j) := lx
  rcases first a b h1 h2 pab with q | ⟨q, q2⟩
  · omega
  · subst q
    rcases Nat.lt_or_ge b j with z | z
    · omega
    · omega
theorem no_pair {n : Nat} {P : Nat × Nat → Bool} (h : ∀ a b, a < b → b < n → ¬ P (a, b) = true) : (pairs n).find? P = none := by
  rw [List.find?_eq_none]
  rintro ⟨a, b⟩ hab
  obtain ⟨h1, h2⟩ := mem_pairs.mp hab
  exact h a b h1 h2
theorem told_0 {n k : Nat} {p : List Nat} (h : all k p = true) : swapTold n k p = [0] := by
  unfold swapTold
  rw [if_pos h]
theorem told_5 {n k : Nat} {p : List Nat} (h : ¬ all k p = true) (h2 : ∀ a b, a < b → b < n → ¬ all k (exchanged p a b) = true) : swapTold n k p = [-5] := by
  unfold swapTold
  rw [if_neg h, no_pair h2]
theorem told_1 {n k i j : Nat} {p : List Nat} (h : ¬ all k p = true) (hij : i < j) (hj : j < n) (h1 : all k (exchanged p i j) = true) (first : ∀ a b, a < b → b < n → all k (exchanged p a b) = true → i < a ∨ (i = a ∧ j ≤ b)) : swapTold n k p = [1, (i : Int), (j : Int)] := by
  unfold swapTold
  rw [if_neg h, first_pair (P := fun x => all k (exchanged p x.1 x.2)) hij hj h1 first]
/-! ### swap by rounds: x the least box whose round is too long -/
section
variable {n k : Nat} {p : List Nat} (ho : isOrder n p = true)
include ho
theorem told_far {x y : Nat} (hx : x < n) (hk : k < rnd n (fn p) x) (hy : y < n) (hky : k < rnd n (fn p) y) (off : ¬ On (fn p) x y) : swapTold n k p = [-5] := by
  have hl := order_len ho
  have F := order_inj ho
  refine told_5 (fun z => ?_) (fun a b hab hb z => ?_)
  · have := (all_iff hl).mp z x hx
    omega
  · have q := ((fine_ex F hx hk (by omega) hb (by omega)).mp ((all_ex_iff hl (by omega) hb).mp z)).1 y hy off
    omega
theorem told_long {x : Nat} (hx : x < n) (hk : k < rnd n (fn p) x) (h2 : 2 * k < rnd n (fn p) x) : swapTold n k p = [-5] := by
  have hl := order_len ho
  have F := order_inj ho
  refine told_5 (fun z => ?_) (fun a b hab hb z => ?_)
  · have := (all_iff hl).mp z x hx
    omega
  · obtain ⟨_, _, d, _, _, _, h3, h4⟩ := (fine_ex F hx hk (by omega) hb (by omega)).mp ((all_ex_iff hl (by omega) hb).mp z)
    omega
/-- the pair told: x is the least box on its round, the only one too long; j the least of those that part it well -/
theorem told_pair {x j : Nat} (hx : x < n) (hk : k < rnd n (fn p) x) (least : ∀ y, On (fn p) x y → x ≤ y) (only : ∀ y, y < n → ¬ On (fn p) x y → rnd n (fn p) y ≤ k)
    (hj : ∃ d, d ≤ k ∧ rnd n (fn p) x ≤ k + d ∧ j = al (fn p) x d) (min : ∀ d, d ≤ k → rnd n (fn p) x ≤ k + d → j ≤ al (fn p) x d) : swapTold n k p = [1, (x : Int), (j : Int)] := by
  have hl := order_len ho
  have F := order_inj ho
  obtain ⟨d, d1, d2, rfl⟩ := hj
  have d0 : 0 < d := by omega
  have dR : d < rnd n (fn p) x := by omega
  have jn : al (fn p) x d < n := al_lt F hx d
  have ne : x ≠ al (fn p) x d := fun z => al_ne F hx d0 dR (by
    show al (fn p) x 0 = _
    exact z)
  have xj : x < al (fn p) x d := by
    have := least _ ⟨d, rfl⟩
    omega
  refine told_1 (fun z => ?_) xj jn ?_ (fun a b hab hb z => ?_)
  · have := (all_iff hl).mp z x hx
    omega
  · exact (all_ex_iff hl hx jn).mpr ((fine_ex F hx hk hx jn ne).mpr ⟨only, On.refl x, d, d0, dR, rfl, d1, d2⟩)
  · obtain ⟨_, ona, e, e0, eR, eb, e1, e2⟩ := (fine_ex F hx hk (by omega) hb (by omega)).mp ((all_ex_iff hl (by omega) hb).mp z)
    have xa := least a ona
    rcases Nat.lt_or_ge x a with q | q
    · exact .inl q
    · have ea : a = x := by omega
      subst ea
      refine .inr ⟨rfl, ?_⟩
      rw [eb]
      exact min e e1 e2
end
/-! ### orders by other words -/
theorem order_iff {n : Nat} {p : List Nat} (hl : p.length = n) : isOrder n p = true ↔ ∀ i, i < n → i ∈ p := by
  refine ⟨fun h i hi => ?_, order_of hl⟩
  exact (order_perm h).mem_iff.mpr (List.mem_range.mpr hi)
theorem order_iff2 {n : Nat} {p : List Nat} (hl : p.length = n) : isOrder n p = true ↔ p.Nodup ∧ ∀ x ∈ p, x < n := by
  refine ⟨fun h => ?_, fun ⟨nd, lt⟩ => ?_⟩
  · have pm := order_perm h
    exact ⟨pm.nodup_iff.mpr List.nodup_range, fun x hx => List.mem_range.mp (pm.mem_iff.mp hx)⟩
  · refine order_of hl fun i hi => ?_
    by_cases z : i ∈ p
    · exact z
    · exfalso
      have nd2 : (i :: p).Nodup := List.nodup_cons.mpr ⟨z, nd⟩
      have := short_of_nodup n (i :: p) nd2 fun x hx => by
        rcases List.mem_cons.mp hx with e | e
        · omega
        · exact lt x e
      rw [List.length_cons] at this
      omega
end Hb

set_option Elab.async false
set_option linter.all false
set_option maxRecDepth 100000
/-! list(reversed(a list)): a new list, the items backwards -/
namespace HbR
open PySem PySem.Spec PyProof.Rows L2 RT
section
variable {prog : Program} {w : World} {A : Around} {s : Shared} {it l : Addr} {items : Array Value}
/-- where list's own steps go on to -/
abbrev Go (prog : Program) (w : World) (A : Around) (R : Result → Shared → Prop) (c : Sem Fin) (s : Shared) : Prop :=
  wpAny (model prog w) A.in1 c (fun fin t => match fin with | .done f => R (.ok f) t | .again d => d.quiet = true ∧ codeAny (model prog w) A d R t) (fun e t => R (.error e) t) s
/-- a list's iterator from its end tells no length that counts -/
theorem rev_hint {E : Value → Shared → Prop} {Q : Bool → Shared → Prop} (ty : s.TypeIs (.ref it) "list_reverseiterator") (q : Q false s) : wpAny (model prog w) A (Builtin.List.listLengthHint (.ref it)) Q E s := by
  unfold Builtin.List.listLengthHint
  refine wpAny_bind (wpAny_specialOf ty nolen_lri (show wpAny _ A (specialOf (.ref it) (Str.ofString "__length_hint__") >>= _) _ _ _ from wpAny_bind (wpAny_specialOf ty hint_lri ?_)))
  have own : ∀ x, "list_reverseiterator.__length_hint__" = x → splitId x = some ("list_reverseiterator", "__length_hint__") := fun x e => by
    rw [← e]
    decide +kernel
  generalize is : ("list_reverseiterator.__length_hint__" : String) = name
  wp_delta
  rw [own name is]
  cases is
  exact wpAny_bind (wpAny_isInstance (b := true) ty (by rw [isSubtype_type]; kernel_rfl) (wpAny_pure q))
structure Back (h : Heap) (it l : Addr) (items : Array Value) : Prop where
  at_end : h.IsRevIter it l ((items.size : Int) - 1)
  list : h.IsList l items
  apart : l ≠ it
theorem Back.moved {h h' : Heap} (b : Back h it l items) (k : ∀ p, p = it ∨ p = l → ∀ o, h.get? p = some o → h'.get? p = some o) : Back h' it l items :=
  ⟨b.at_end.at (k it (.inl rfl)), let ⟨o, e, r⟩ := b.list; ⟨o, k l (.inr rfl) o e, r⟩, b.apart⟩
def Told (items : Array Value) (i : Nat) (v : Value) : Prop := items[items.size - 1 - i]? = some v
theorem rev_extend {R : Result → Shared → Prop} (ok : A.handled = none) (b : Back s.heap it l items) (few : items.size ≤ sizeLine) (S : Addr) (c : Nat) (here : s.heap.get? S = some { cls := .type "list", data := .seq #[] c }) (away : S ∉ [it, l])
    (fin : ∀ h tk acc d, (∀ p o, p ≠ S → p ≠ it → s.heap.get? p = some o → h.get? p = some o) → h.get? S = some { cls := .type "list", dict := none, data := .seq acc d, slots := #[] } → ItemsOf (Told items) acc items.size → R (.ok (.ret .none)) { s with heap := h, toks := tk }) :
    Go prog w A R (Builtin.List.listExtendWith (.ref S) (.ref it) .none) s := by
  have ty : s.TypeIs (.ref it) "list_reverseiterator" := Heap.IsRevIter.typeIs b.at_end
  have other : Builtin.List.listSameRef (.ref S) (.ref it) = false := by
    have ne : S ≠ it := fun e => away (by rw [e]; exact List.mem_cons_self)
    simp [Builtin.List.listSameRef, ne]
  have walk := (Walks.listRev (A := A.in1) (prog := prog) (w := w) ok it l b.apart items).toS
  have first : ((items.size : Nat) : Int) - 1 = (items.size : Int) - 1 - ((0 : Nat) : Int) := by omega
  have from0 := b.at_end
  rw [first] at from0
  unfold Go Builtin.List.listExtendWith
  refine wpAny_bind (wpAny_typeOf ty (by
    rw [if_neg (by rw [other] <;> decide)]
    refine wpAny_bind (wpAny_pyIter_revIter b.at_end (wpAny_bind (wpAny_holding (rev_hint ty ?_))))
    rw [if_neg (by decide)]
    refine wpAny_pure ⟨plainId_quiet F.plain_extend_loop _, codeAny_extend_loopS walk few S away .none items.size 0 _ _ _ rfl (Nat.zero_le _) ⟨Nat.zero_le _, from0, b.list⟩ here (ItemsOf.nil _) fun t acc d moved there told => ?_⟩
    rw [Moved.eq_with moved]
    refine fin t.heap t.toks acc d (fun p o p1 p2 e => moved.heap p o (fun m => ?_) e) there told
    cases m with
    | head => exact p1 rfl
    | tail _ m => exact p2 (List.mem_singleton.mp m)))
theorem rev_init {R : Result → Shared → Prop} (ok : A.handled = none) (b : Back s.heap it l items) (few : items.size ≤ sizeLine) (S : Addr) (here : s.heap.get? S = some { cls := .type "list", data := .seq #[] }) (away : S ∉ [it, l])
    (fin : ∀ h tk acc d, (∀ p o, p ≠ S → p ≠ it → s.heap.get? p = some o → h.get? p = some o) → h.get? S = some { cls := .type "list", dict := none, data := .seq acc d, slots := #[] } → ItemsOf (Told items) acc items.size → R (.ok (.ret .none)) { s with heap := h, toks := tk }) :
    Go prog w A R (Builtin.«list.__init__» ⟨[.ref S, .ref it], []⟩) s := by
  have off : ∀ p o, p ≠ S → s.heap.get? p = some o → (s.heap.update S (Obj.mapSeq fun _ => (#[] : Array Value))).get? p = some o := fun p o ne e => by
    rw [Heap.get?_update_other _ _ (fun z => ne z.symm)]
    exact e
  have b2 : Back (s.heap.update S (Obj.mapSeq fun _ => (#[] : Array Value))) it l items := b.moved fun p hp o e => off p o (fun z => away (by
    rw [← z]
    rcases hp with z | z <;> rw [z] <;> simp)) e
  have blank : Go prog w A R (letGo (#[] : Array Value).toList.reverse >>= fun _ => Builtin.List.listExtendWith (.ref S) (.ref it) .none) { s with heap := s.heap.update S (Obj.mapSeq fun _ => (#[] : Array Value)) } :=
    wpAny_bind (wpAny_letGo (rev_extend ok b2 few S _ (Heap.get?_update_self (Obj.mapSeq fun _ => (#[] : Array Value)) here rfl) away fun h tk acc d kept => fin h tk acc d fun p o p1 p2 e => kept p o p1 p2 (off p o p1 e)))
  have clear : Go prog w A R (updateSeq S (fun _ => #[]) >>= fun _ => letGo (#[] : Array Value).toList.reverse >>= fun _ => Builtin.List.listExtendWith (.ref S) (.ref it) .none) s := wpAny_bind (wpAny_updateSeq here rfl blank)
  show Go prog w A R (Builtin.List.listItems (.ref S) >>= fun old => Builtin.List.listUpdate (.ref S) (fun _ => #[]) >>= fun _ => letGo old.toList.reverse >>= fun _ => Builtin.List.listExtendWith (.ref S) (.ref it) .none) s
  exact wpAny_bind (by
    unfold Builtin.List.listItems
    exact wpAny_bind (wpAny_seqItems here rfl (wpAny_pure clear)))
theorem rev_list {E : Value → Shared → Prop} {Q : Value → Shared → Prop} (ok : A.handled = none) (b : Back s.heap it l items) (few : items.size ≤ sizeLine)
    (fin : ∀ h tk acc d, (∀ p o, p ≠ it → s.heap.get? p = some o → h.get? p = some o) → h.get? s.heap.objs.size = some { cls := .type "list", dict := none, data := .seq acc d, slots := #[] } → ItemsOf (Told items) acc items.size → Q (.ref s.heap.objs.size) { s with heap := h, toks := tk }) :
    wpAny (model prog w) A (call (.type "list") [.ref it]) Q E s := by
  have lt1 : it < s.heap.objs.size := let ⟨_, e, _⟩ := b.at_end; Heap.lt_size e
  have lt2 : l < s.heap.objs.size := let ⟨_, e, _⟩ := b.list; Heap.lt_size e
  have made : (s.heap.push { cls := .type "list", data := .seq #[] }).get? s.heap.objs.size = some _ := Heap.get?_push_size _ rfl
  refine callType_codes F.called_list (F.typeCall_list_1 _) F.entry_list_init (code_list_new (Q₁ := fun v t => v = .ref s.heap.objs.size ∧ t = { s with heap := s.heap.push { cls := .type "list", data := .seq #[] } }) _ ⟨rfl, rfl⟩) fun v t hv => ?_
  cases hv.1
  cases hv.2
  have b2 : Back (s.heap.push { cls := .type "list", data := .seq #[] }) it l items := b.moved fun p _ o e => Heap.get?_push_of_some _ e
  refine ⟨⟨_, made, rfl⟩, F.args_list_init_2 _ _, rev_init (A := A.in1) (s := { s with heap := s.heap.push { cls := .type "list", data := .seq #[] } }) ok b2 few _ made (by simp only [List.mem_cons, List.not_mem_nil, or_false, not_or]; exact ⟨Nat.ne_of_gt lt1, Nat.ne_of_gt lt2⟩) fun h tk acc d kept there told => ⟨rfl, fin h tk acc d (fun p o ne e => kept p o (Nat.ne_of_lt (Heap.lt_size e)) ne (Heap.get?_push_of_some _ e)) there told⟩⟩
end
/-- the reading of list(reversed(x)), x a list -/
def tLstRev (K : PySem.W.Frag) (te : TE) : TE := fun σ H Q => te σ H fun v H1 => ∃ (a : Addr) (xs : List V), v = .ref a ∧ SqL K H1 a xs ∧ ∀ q, H1 q = none → Q (.ref q) (upd H1 q (.lst xs.reverse))
theorem pe_lstRev {X : Cx} {e : Expr} {te : TE} {p p2 pos pos2 : Pos} (calm : X.calm = true) (hg : Gl X "list") (hm : X.mg "list" = none) (hg2 : Gl X "reversed") (hm2 : X.mg "reversed" = none) (he : PE X e te) (one : starEach [e] X.env = (false, eval e X.env) :: starEach [] X.env := by rfl) (two : starEach [.Call (.Name "reversed" p2) [e] [] pos2] X.env = (false, eval (.Call (.Name "reversed" p2) [e] [] pos2) X.env) :: starEach [] X.env := by rfl) :
    PE X (.Call (.Name "list" p) [.Call (.Name "reversed" p2) [e] [] pos2] [] pos) (tLstRev X.K te) := by
  constructor
  intro pins s σ H Q I h
  have inner : ∀ {R : List Value → Shared → Prop}, (∀ (a : Addr) (xs : List V) (t : Shared) (H1 : Hp) (its : List Value), Inv X pins σ H1 t → SqL X.K H1 a xs → (∀ q, H1 q = none → Q (.ref q) (upd H1 q (.lst xs.reverse))) → Vals xs its → t.heap.IsList a its.toArray → xs.length ≤ sizeLine →
      R [.ref t.heap.objs.size] { t with heap := t.heap.push (revObj a ((its.toArray.size : Int) - 1)) }) → wpAny (model X.prog X.w) X.A (spliced (backTo pos (starEach [.Call (.Name "reversed" p2) [e] [] pos2] X.env))) R X.xe s := fun k =>
    args_cons (Call_ (ld_blt I hg2 hm2 PyProof.Rows.boot_reversed (PyProof.Rows.callWith_type1 (args_cons (thn (he.run pins s σ H _ I h) fun u t ⟨v, H1, I1, r, a, xs, ev, hq, q⟩ => args_nil (by
      subst ev
      cases r
      obtain ⟨its, rv, pl, hz⟩ := I1.list hq
      exact call_reversed_list pl.isList (args_nil (k a xs t H1 its I1 hq q rv pl.isList hz)))) one) one rfl))) two
  refine Call_ (ld_blt I hg hm boot_list (PyProof.Rows.callWith_type1 (inner fun a xs t H1 its I1 hq q rv pl hz => ?_) two rfl))
  have lt : a < t.heap.objs.size := let ⟨_, e, _⟩ := pl; Heap.lt_size e
  have I2 : Inv X pins σ H1 { t with heap := t.heap.push (revObj a ((its.toArray.size : Int) - 1)) } := I1.kept (t' := t.toks) fun b o e => Heap.get?_push_of_some _ e
  have len : its.toArray.size = xs.length := by rw [List.size_toArray, rv.length]
  have hfr : H1 (t.heap.push (revObj a ((its.toArray.size : Int) - 1))).objs.size = none := I2.hok.fresh (Nat.le_refl _)
  refine rev_list (I1.ok.hd calm) (s := { t with heap := t.heap.push (revObj a ((its.toArray.size : Int) - 1)) }) ⟨⟨_, Heap.get?_push_size _ rfl, rfl, rfl⟩, pl.push _, Nat.ne_of_lt lt⟩ (by rw [len]; exact hz) fun h' tk acc d kept there told => ⟨.ref _, upd H1 _ (.lst xs.reverse), ?_, rfl, q _ hfr⟩
  refine I2.turnedNew (t' := tk) (ch := [t.heap.objs.size]) (fun b ob hb e => kept b ob (fun z => hb (by rw [z]; exact List.mem_cons_self)) e) (fun b hb => ?_) (Nat.le_refl _) ⟨by rw [List.length_reverse] <;> exact hz, acc.toList, d, RT.vals_rev rv told, there⟩
  cases List.mem_singleton.mp hb
  exact I1.fpOk (Nat.le_refl _) (I1.hok.fresh (Nat.le_refl _))
end HbR

set_option Elab.async false
set_option linter.all false
set_option maxRecDepth 100000
set_option maxHeartbeats 4000000
namespace Hb
open PySem PySem.Spec PyProof.Rows L2
/-! ### lists of numbers as values -/
def nv (l : List Nat) : List V := (outs l).map V.int
theorem nv_len (l : List Nat) : (nv l).length = l.length := by
  unfold nv outs
  rw [List.length_map, List.length_map]
theorem nv_get {l : List Nat} {i x : Nat} (h : l[i]? = some x) : (nv l)[i]? = some (.int (x : Int)) := by
  unfold nv outs
  rw [List.getElem?_map, List.getElem?_map, h]
  rfl
theorem getD_at {l : List Nat} {i : Nat} (h : i < l.length) : l[i]? = some (l.getD i 0) := by
  rw [List.getD_eq_getElem?_getD, List.getElem?_eq_getElem h]
  rfl
theorem nv_at {l : List Nat} {i : Nat} (h : i < l.length) : (nv l)[i]? = some (.int ((l.getD i 0 : Nat) : Int)) := nv_get (getD_at h)
theorem nv_app (l : List Nat) (x : Nat) : nv l ++ [.int (x : Int)] = nv (l ++ [x]) := by
  unfold nv outs
  rw [List.map_append, List.map_append]
  rfl
theorem nv_rev (l : List Nat) : (nv l).reverse = nv l.reverse := by
  unfold nv outs
  rw [List.map_reverse, List.map_reverse]
theorem nv_inv {l : List Nat} {i : Nat} {v : V} (h : (nv l)[i]? = some v) : ∃ x, l[i]? = some x ∧ v = .int (x : Int) := by
  unfold nv outs at h
  rw [List.getElem?_map, List.getElem?_map] at h
  cases e : l[i]? with
  | none =>
    rw [e] at h
    cases h
  | some x =>
    rw [e] at h
    exact ⟨x, rfl, (Option.some.inj h).symm⟩
theorem ifB {c : Bool} {A B : Prop} (h1 : c = true → A) (h2 : c = false → B) : if c = true then A else B := by
  cases c with
  | true => exact iteT (h1 rfl)
  | false => exact iteF (h2 rfl)
theorem same_upd {H : Hp} {p : Addr} {o : HO} (h : H p = none) : Same H (upd H p o) := fun b x e => by
  rw [upd_ne (ne_of_none e h)]
  exact e
theorem same_at {H H' : Hp} {p : Addr} {o : HO} (h : H p = none) (s : Same H H') : Same H (upd H' p o) := fun b x e => by
  rw [upd_ne (ne_of_none e h)]
  exact s b x e
theorem seq_upd {K : PySem.W.Frag} {H : Hp} {a p : Addr} {xs : List V} {o : HO} (h : SqL K H a xs) (hp : H p = none) : SqL K (upd H p o) a xs := (same_upd hp).seq h
/-! ### loops -/
/-- what a for asks of its walked thing J, behind its start -/
abbrev ForIt (J : It) (g : TG) (tb : TS) (D : Ends) (σ : L2.St) (H : Hp) : Prop := ∃ W : Nat → Nat → L2.St → Hp → Prop, (∃ m, W 0 m σ H) ∧ ∀ i m τ G, W i m τ G → (J.stop i G ∧ D.nx τ G) ∨
  (J.go i G ∧ ∃ N : L2.St → Hp → Prop, (∀ τ' G', N τ' G' → ∃ m', m' < m ∧ W (i + 1) m' τ' G') ∧ ∀ x G', J.yld i G x G' → g x τ G' fun τ2 G2 => tb { D with nx := N, ct := N, bk := D.nx } τ2 G2)
/-- one turn of it -/
abbrev Turn1 (g : TG) (tb : TS) (D : Ends) (N : L2.St → Hp → Prop) (x : V) (σ : L2.St) (H : Hp) : Prop := g x σ H fun σ2 H2 => tb { D with nx := N, ct := N, bk := D.nx } σ2 H2
theorem for_range0 {n : Nat} {g : TG} {tb : TS} {D : Ends} {σ : L2.St} {H : Hp} (Pv : Nat → L2.St → Hp → Prop) (start : Pv 0 σ H) (turn : ∀ i τ G, i < n → Pv i τ G → Turn1 g tb D (Pv (i + 1)) (.int (i : Int)) τ G) (done : ∀ τ G, Pv n τ G → D.nx τ G) : ForIt (Itr 0 n) g tb D σ H :=
  for_range (lo := 0) Pv start (fun i τ G hi p => by
    rw [Int.zero_add]
    exact turn i τ G hi p) done
/-- one turn of a comprehension: the item x, the new list at D -/
abbrev Comp1 (g : TG) (tt : TT) (te : TE) (vs : List Nat) (σ : L2.St) (D : Addr) (N : Hp → Prop) (x : V) (H : Hp) : Prop := g x (wipe σ vs) H fun σ2 H2 => wipe σ2 vs = wipe σ vs ∧ tt σ2 H2 fun b H3 =>
  if b = true then te σ2 H3 fun y H4 => ∃ acc, H4 D = some (.lst acc) ∧ acc.length < sizeLine ∧ N (upd H4 D (.lst (acc ++ [y]))) else N H3
abbrev CompIt (J : It) (g : TG) (tt : TT) (te : TE) (vs : List Nat) (σ : L2.St) (H : Hp) (D : Addr) (Qd : Hp → Prop) : Prop := ∃ W : Nat → Nat → Hp → Prop, (∃ m, W 0 m (upd H D (.lst []))) ∧ ∀ i m G, W i m G → (J.stop i G ∧ Qd G) ∨
  (J.go i G ∧ ∃ N : Hp → Prop, (∀ G', N G' → ∃ m', m' < m ∧ W (i + 1) m' G') ∧ ∀ x G', J.yld i G x G' → Comp1 g tt te vs σ D N x G')
theorem lc_range0 {n : Nat} {g : TG} {tt : TT} {te : TE} {vs : List Nat} {σ : L2.St} {H : Hp} {D : Addr} {Qd : Hp → Prop} (Pv : Nat → Hp → Prop) (start : Pv 0 (upd H D (.lst []))) (turn : ∀ i G, i < n → Pv i G → Comp1 g tt te vs σ D (Pv (i + 1)) (.int (i : Int)) G) (done : ∀ G, Pv n G → Qd G) : CompIt (Itr 0 n) g tt te vs σ H D Qd :=
  lc_range (lo := 0) Pv start (fun i G hi p => by
    rw [Int.zero_add]
    exact turn i G hi p) done
/-- a loop over enumerate(a list) -/
theorem for_Ite {K : PySem.W.Frag} {a : Addr} {xs : List V} {g : TG} {tb : TS} {D : Ends} {σ : L2.St} {H : Hp} (Pv : Nat → L2.St → Hp → Prop) (start : Pv 0 σ H) (still : ∀ i τ G, Pv i τ G → SqL K G a xs)
    (turn : ∀ (i : Nat) (x : V) (T : Addr) (τ : L2.St) (G : Hp), xs[i]? = some x → Pv i τ G → G T = none → Turn1 g tb D (Pv (i + 1)) (.ref T) τ (upd G T (.tup [.int (i : Nat), x]))) (done : ∀ τ G, Pv xs.length τ G → D.nx τ G) : ForIt (Ite K a) g tb D σ H := by
  refine ⟨fun i m τ G => m + i = xs.length ∧ Pv i τ G, ⟨xs.length, Nat.add_zero _, start⟩, fun i m τ G hw => ?_⟩
  obtain ⟨em, p⟩ := hw
  have q := still i τ G p
  cases m with
  | zero =>
    have e : i = xs.length := by omega
    refine .inl ⟨⟨xs, q, by omega⟩, done τ G ?_⟩
    rw [← e]
    exact p
  | succ m =>
    have lt : i < xs.length := by omega
    refine .inr ⟨⟨xs, _, q, List.getElem?_eq_getElem lt⟩, Pv (i + 1), fun τ' G' p' => ⟨m, Nat.lt_succ_self m, by omega, p'⟩, fun v G' y => ?_⟩
    obtain ⟨T, x, rfl, fresh, rfl, item⟩ := y
    exact turn i x T τ G (item xs q) p fresh
theorem shr_val (x n : Nat) : ((x : Int) / 2 ^ ((n : Int)).toNat) = ((x / 2 ^ n : Nat) : Int) := by
  rw [show ((n : Int)).toNat = n from rfl, Int.natCast_ediv, Int.natCast_pow]
  rfl
theorem dec_int (x y : Nat) : decide (V.int (x : Int) = V.int (y : Int)) = decide (x = y) := by
  by_cases h : x = y
  · subst h
    rw [decide_eq_true rfl, decide_eq_true rfl]
  · rw [decide_eq_false h, decide_eq_false]
    intro z
    have z' := V.int.inj z
    omega
end Hb

set_option Elab.async false
set_option linter.all false
set_option maxRecDepth 100000
set_option maxHeartbeats 4000000
namespace Hb
open PySem PySem.Spec PyProof.Rows L2
/-- a comprehension over enumerate(a list) -/
theorem lc_Ite {K : PySem.W.Frag} {a : Addr} {xs : List V} {g : TG} {tt : TT} {te : TE} {vs : List Nat} {σ : L2.St} {H : Hp} {D : Addr} {Qd : Hp → Prop} (Pv : Nat → Hp → Prop) (start : Pv 0 (upd H D (.lst []))) (still : ∀ i G, Pv i G → SqL K G a xs)
    (turn : ∀ (i : Nat) (x : V) (T : Addr) (G : Hp), xs[i]? = some x → Pv i G → G T = none → Comp1 g tt te vs σ D (Pv (i + 1)) (.ref T) (upd G T (.tup [.int (i : Nat), x]))) (done : ∀ G, Pv xs.length G → Qd G) : CompIt (Ite K a) g tt te vs σ H D Qd := by
  refine ⟨fun i m G => m + i = xs.length ∧ Pv i G, ⟨xs.length, Nat.add_zero _, start⟩, fun i m G hw => ?_⟩
  obtain ⟨em, p⟩ := hw
  have q := still i G p
  cases m with
  | zero =>
    have e : i = xs.length := by omega
    refine .inl ⟨⟨xs, q, by omega⟩, done G ?_⟩
    rw [← e]
    exact p
  | succ m =>
    have lt : i < xs.length := by omega
    refine .inr ⟨⟨xs, _, q, List.getElem?_eq_getElem lt⟩, Pv (i + 1), fun G' p' => ⟨m, Nat.lt_succ_self m, by omega, p'⟩, fun v G' y => ?_⟩
    obtain ⟨T, x, rfl, fresh, rfl, item⟩ := y
    exact turn i x T G (item xs q) p fresh
/-- a comprehension over a list -/
theorem lc_Itl {K : PySem.W.Frag} {a : Addr} {xs : List V} {g : TG} {tt : TT} {te : TE} {vs : List Nat} {σ : L2.St} {H : Hp} {D : Addr} {Qd : Hp → Prop} (Pv : Nat → Hp → Prop) (start : Pv 0 (upd H D (.lst []))) (still : ∀ i G, i ≤ xs.length → Pv i G → SqL K G a xs)
    (turn : ∀ (i : Nat) (x : V) (G : Hp), xs[i]? = some x → Pv i G → Comp1 g tt te vs σ D (Pv (i + 1)) x G) (done : ∀ G, Pv xs.length G → Qd G) : CompIt (Itl K a) g tt te vs σ H D Qd :=
  lc_list Pv start still turn done
theorem sq_new {K : PySem.W.Frag} {H : Hp} {a : Addr} {xs : List V} (h : H a = some (.lst xs)) : SqL K H a xs := .inl (.inl h)
theorem ltLine {n : Nat} (h : n ≤ 70000) : n < sizeLine := Nat.lt_of_le_of_lt h (by decide)
theorem leLine {n : Nat} (h : n ≤ 70000) : n ≤ sizeLine := Nat.le_of_lt (ltLine h)
end Hb

set_option Elab.async false
set_option linter.all false
set_option maxRecDepth 100000
set_option maxHeartbeats 4000000
namespace Hb
open PySem PySem.Spec PyProof.Rows L2 RT HbR
/-! ### the text -/
def topS (i : Nat) : Stmt := PySem.Challenge.pw_hatboxes_s05_code.main.body.getD i (.Pass ⟨0, 0, 0, 0⟩)
abbrev s_main : Stmt := topS 2
abbrev n_main : List Str := ["r", "hats"]
abbrev p_main : List Str := ["r", "hats"]
theorem sc_main : FnScope n_main p_main (defScope s_main) := ⟨rfl, rfl, rfl, by decide +kernel, rfl, by decide +kernel, by decide +kernel⟩
abbrev s_all_below : Stmt := topS 3
abbrev n_all_below : List Str := ["bound", "numbers", "number"]
abbrev p_all_below : List Str := ["bound", "numbers"]
theorem sc_all_below : FnScope n_all_below p_all_below (defScope s_all_below) := ⟨rfl, rfl, rfl, by decide +kernel, rfl, by decide +kernel, by decide +kernel⟩
abbrev s_guesses_by_numbers : Stmt := topS 4
abbrev n_guesses_by_numbers : List Str := ["hats", "together", "person", "hat", "guesses", "number"]
abbrev p_guesses_by_numbers : List Str := ["hats"]
theorem sc_guesses_by_numbers : FnScope n_guesses_by_numbers p_guesses_by_numbers (defScope s_guesses_by_numbers) := ⟨rfl, rfl, rfl, by decide +kernel, rfl, by decide +kernel, by decide +kernel⟩
abbrev s_guess_by_number : Stmt := topS 5
abbrev n_guess_by_number : List Str := ["number", "others"]
abbrev p_guess_by_number : List Str := ["number", "others"]
theorem sc_guess_by_number : FnScope n_guess_by_number p_guess_by_number (defScope s_guess_by_number) := ⟨rfl, rfl, rfl, by decide +kernel, rfl, by decide +kernel, by decide +kernel⟩
/-- a def of the module, where it lies, how it binds, its name in the module -/
structure Fn (K : PySem.W.Frag) (mg : Str → Option Value) (nm : Str) (st : Stmt) (ps : List Str) where
  f : Addr
  fd : FuncData
  F : Fun K nm nm st f fd
  b : Binds K fd ps []
  g : mg nm = some (.ref f)
section
variable {P : Program} {w : World} {K : PySem.W.Frag} {mg : Str → Option Value} {base : Heap}

/-! ### all_below -/
def spBelow (K : PySem.W.Frag) : Sp := fun vs H Q _ => ∃ (a : Addr) (l : List Nat) (b : Int), vs = [.int b, .ref a] ∧ SqL K H a (nv l) ∧ Q (.bl (l.all fun x => decide ((x : Int) < b))) H
theorem ok_all_below {k : Nat} (M : Fn K mg "all_below" s_all_below p_all_below) : FnOk P w K mg base CX0 (k + 1) M.f M.fd p_all_below (spBelow K) := by
  refine M.F.ok sc_all_below (fun vs H Q E h => ?_) (fun cdv A outer s H vs Q E hr h => ?_)
  · obtain ⟨a, l, b, rfl, _⟩ := h
    rfl
  · obtain ⟨a, l, b, rfl, hS, q⟩ := h
    refine ⟨_, pss_cons (ps_for PassesOwn.never rfl (pi_list (pv 1)) (pg_name (i := 2) sc_all_below.nd rfl (.inl rfl))
        (pss_one (ps_if (pt_cmpR op_ge (pv 2) (pv 0) (nomark _)) (pss_one (ps_ret pe_bl)) pss_nil)))
      (pss_one (ps_ret pe_bl)), ?_⟩
    refine ⟨.ref a, rfl, a, rfl, ⟨_, hS⟩, for_list (K := K) (a := a) (xs := nv l) (fun i σ H' => (∃ y, σ = [some (.int b), some (.ref a), y]) ∧ H' = H ∧ ∀ j x, j < i → l[j]? = some x → (x : Int) < b) ⟨⟨none, rfl⟩, rfl, fun j x hj => absurd hj (Nat.not_lt_zero j)⟩ (fun _ _ _ _ h => by rw [h.2.1]; exact hS) ?_ ?_⟩
    · rintro i x σ H' hx ⟨⟨y, rfl⟩, rfl, hlt⟩
      obtain ⟨u, hu, rfl⟩ := nv_inv hx
      refine ⟨.int (u : Int), rfl, .int b, rfl, _, _, rfl, rfl, _, rfl, ifB (fun c => ?_) (fun c => ⟨⟨_, rfl⟩, rfl, fun j x hj hjx => ?_⟩)⟩
      · have e : (l.all fun x => decide ((x : Int) < b)) = false := by
          cases e : l.all fun x => decide ((x : Int) < b) with
          | false => rfl
          | true =>
            have h1 := of_decide_eq_true (List.all_eq_true.mp e u (List.mem_of_getElem? hu))
            have h2 := of_decide_eq_true c
            omega
        rw [e] at q
        exact q
      · by_cases e : j = i
        · subst e
          rw [hu] at hjx
          have e2 : u = x := Option.some.inj hjx
          subst e2
          have h2 := of_decide_eq_false c
          omega
        · exact hlt j x (by omega) hjx
    · rintro σ H' ⟨⟨y, rfl⟩, rfl, hlt⟩
      rw [nv_len] at hlt
      have e : (l.all fun x => decide ((x : Int) < b)) = true := List.all_eq_true.mpr fun x hx => by
        obtain ⟨j, hj, e2⟩ := List.getElem_of_mem hx
        exact decide_eq_true (hlt j x hj (by rw [List.getElem?_eq_getElem hj, e2]))
      rw [e] at q
      exact q

/-! ### guess_by_number -/
def spGuessBy : Sp := fun vs H Q _ => ∃ (i o : Nat), vs = [.int ((i + 1 : Nat) : Int), .int (o : Int)] ∧ Q (.int ((guessOf o i : Nat) : Int)) H
theorem ok_guess_by_number {k : Nat} {tP : Tok} (M : Fn K mg "guess_by_number" s_guess_by_number p_guess_by_number) (mP : mg "PASSED" = some (.int 2 tP)) : FnOk P w K mg base CX0 (k + 1) M.f M.fd p_guess_by_number spGuessBy := by
  refine M.F.ok sc_guess_by_number (fun vs H Q E h => ?_) (fun cdv A outer s H vs Q E hr h => ?_)
  · obtain ⟨i, o, rfl, _⟩ := h
    rfl
  · obtain ⟨i, o, rfl, q⟩ := h
    refine ⟨_, pss_cons (ps_if (pt_cmpR op_eq (pv 1) pe_int (nomark _)) (pss_one (ps_ret pe_int)) pss_nil)
      (pss_cons (ps_if (pt_cmpR op_eq (pv 1) (pv 0) (nomark _)) (pss_one (ps_ret pe_int)) pss_nil)
      (pss_one (ps_ret (pe_glob (v := V.int 2) rfl mP ⟨_, rfl⟩)))), ?_⟩
    refine ⟨.int (o : Int), rfl, rfl, _, rfl, ifB (fun c => ?_) (fun c => ?_)⟩
    · have c1 : decide (V.int (o : Int) = V.int ((0 : Nat) : Int)) = true := c
      rw [dec_int] at c1
      have e : guessOf o i = 1 := by
        unfold guessOf
        rw [if_pos (of_decide_eq_true c1)]
      rw [e] at q
      exact q
    · have c1 : decide (V.int (o : Int) = V.int ((0 : Nat) : Int)) = false := c
      rw [dec_int] at c1
      refine ⟨.int (o : Int), rfl, .int ((i + 1 : Nat) : Int), rfl, rfl, _, rfl, ifB (fun d => ?_) (fun d => ?_)⟩
      · rw [dec_int] at d
        have e : guessOf o i = 0 := by
          unfold guessOf
          rw [if_neg (of_decide_eq_false c1), if_pos (of_decide_eq_true d)]
        rw [e] at q
        exact q
      · rw [dec_int] at d
        have e : guessOf o i = 2 := by
          unfold guessOf
          rw [if_neg (of_decide_eq_false c1), if_neg (of_decide_eq_false d)]
        rw [e] at q
        exact q

/-! ### guesses_by_numbers -/
theorem xor_step {s i x : Nat} (hx : x < 2) : Builtin.bitXor (s : Int) (((i + 1 : Nat) : Int) * (x : Int)) = ((if x = 1 then s ^^^ (i + 1) else s : Nat) : Int) := by
  have e : ((i + 1 : Nat) : Int) * (x : Int) = (((i + 1) * x : Nat) : Int) := by
    rw [Int.natCast_mul]
  rw [e, Bits.bitXor_pp (Int.natCast_nonneg _) (Int.natCast_nonneg _), Int.toNat_natCast, Int.toNat_natCast]
  by_cases h : x = 1
  · subst h
    rw [if_pos rfl, Nat.mul_one]
  · have h0 : x = 0 := by omega
    subst h0
    rw [if_neg (by decide), Nat.mul_zero, Nat.xor_zero]
def codeTo (c : List Nat) (i : Nat) : List Nat := (List.range i).map fun j => guessOf (Sn88.noted (c.set j 0)) j
theorem codeTo_succ (c : List Nat) (i : Nat) : codeTo c (i + 1) = codeTo c i ++ [guessOf (Sn88.noted (c.set i 0)) i] := by
  unfold codeTo
  rw [List.range_succ, List.map_append]
  rfl
theorem codeTo_len (c : List Nat) (i : Nat) : (codeTo c i).length = i := by
  unfold codeTo
  rw [List.length_map, List.length_range]
def spGuesses (K : PySem.W.Frag) : Sp := fun vs H Q _ => ∃ (a : Addr) (c : List Nat), vs = [.ref a] ∧ SqL K H a (nv c) ∧ c.length ≤ 255 ∧ (∀ x ∈ c, x < 2) ∧ ∀ H' D, Same H H' → H D = none → H' D = some (.lst (nv (Sn88.code c))) → Q (.ref D) H'
theorem ok_guesses_by_numbers {k : Nat} {tP : Tok} (M : Fn K mg "guesses_by_numbers" s_guesses_by_numbers p_guesses_by_numbers) (TG : Fn K mg "guess_by_number" s_guess_by_number p_guess_by_number) (mP : mg "PASSED" = some (.int 2 tP)) (men : mg "enumerate" = none) :
    FnOk P w K mg base CX0 (k + 2) M.f M.fd p_guesses_by_numbers (spGuesses K) := by
  have GG : FnOk P w K mg base CX0 (k + 1) TG.f TG.fd p_guess_by_number spGuessBy := ok_guess_by_number TG mP
  refine M.F.ok sc_guesses_by_numbers (fun vs H Q E h => ?_) (fun cdv A outer s H vs Q E hr h => ?_)
  · obtain ⟨a, c, rfl, _⟩ := h
    rfl
  · obtain ⟨a, c, rfl, hA, hl, hc, k⟩ := h
    refine ⟨_, pss_cons (ps_set (i := 1) sc_guesses_by_numbers.nd rfl (.inl rfl) pe_int)
      (pss_cons (ps_for PassesOwn.never rfl (pi_enum (by rfl) men (pa_cons (pv 0) pa_nil)) (pg_tup rfl (pgs_cons (pg_name (i := 2) sc_guesses_by_numbers.nd rfl (.inl rfl)) (pgs_cons (pg_name (i := 3) sc_guesses_by_numbers.nd rfl (.inl rfl)) pgs_nil)))
        (pss_one (ps_set (i := 1) sc_guesses_by_numbers.nd rfl (.inl rfl) (pe_op op_xor (pv 1) (pe_op op_mul (pe_op op_add (pv 2) pe_int) (pv 3))))))
      (pss_cons (ps_set (i := 4) sc_guesses_by_numbers.nd rfl (.inl rfl) (pe_lst pa_nil))
      (pss_cons (ps_for PassesOwn.never rfl (pi_enum (by rfl) men (pa_cons (pv 0) pa_nil)) (pg_tup rfl (pgs_cons (pg_name (i := 2) sc_guesses_by_numbers.nd rfl (.inl rfl)) (pgs_cons (pg_name (i := 3) sc_guesses_by_numbers.nd rfl (.inl rfl)) pgs_nil)))
        (pss_cons (ps_set (i := 5) sc_guesses_by_numbers.nd rfl (.inl rfl) (pe_op op_add (pv 2) pe_int))
        (pss_one (ps_expr (pe_bm PySem.F.plainAttrs_list PySem.F.slot_list_append PySem.F.type_list_append mt_append (pv 4)
          (pa_cons (pe_call GG hr (by rfl) TG.g TG.F.kp TG.b .nil pass0 (pa_cons (pv 5) (pa_cons (pe_op op_xor (pv 1) (pe_op op_mul (pv 5) (pv 3))) pa_nil))) pa_nil))))))
      (pss_one (ps_ret (pv 4)))))), ?_⟩
    have hget : ∀ {i u : Nat}, c[i]? = some u → c.getD i 0 = u := fun {i u} hu => by
      rw [List.getD_eq_getElem?_getD, hu]
      rfl
    refine ⟨.ref a, rfl, a, nv c, rfl, hA, for_Ite (K := K) (a := a) (xs := nv c) (fun i σ H' => (∃ y z u v, σ = [some (.ref a), some (.int ((notedTo c i : Nat) : Int)), y, z, u, v]) ∧ Same H H') ⟨⟨none, none, none, none, rfl⟩, Same.refl H⟩ (fun _ _ _ h => h.2.seq hA) ?_ ?_⟩
    · rintro i x T σ H' hx ⟨⟨y, z, u', v', rfl⟩, sm⟩ hT
      obtain ⟨u, hu, rfl⟩ := nv_inv hx
      have hi : i < c.length := (List.getElem?_eq_some_iff.mp hu).1
      have hu2 : u < 2 := hc u (List.mem_of_getElem? hu)
      refine ⟨T, [.int (i : Int), .int (u : Int)], rfl, .inl (.inl upd_same), rfl, .int (i : Int), [.int (u : Int)], rfl, .int (u : Int), [], rfl, rfl, ?_⟩
      refine ⟨.int ((notedTo c i : Nat) : Int), rfl, .int (i : Int), rfl, _, _, rfl, rfl, .int (u : Int), rfl, ((i + 1 : Nat) : Int), (u : Int), rfl, rfl, .inl ⟨by omega, by omega⟩, _, _, rfl, rfl, ?_⟩
      dsimp only
      rw [xor_step hu2]
      refine ⟨⟨some (.int (i : Int)), some (.int (u : Int)), u', v', ?_⟩, sm.trans (same_upd hT)⟩
      rw [notedTo_succ, hget hu]
      rfl
    · rintro σ H1 ⟨⟨y, z, u', v', rfl⟩, sm1⟩
      rw [nv_len, ← noted_is]
      refine ⟨Nat.zero_le _, fun D hD => ?_⟩
      refine ⟨.ref a, rfl, a, nv c, rfl, (sm1.trans (same_upd hD)).seq hA, for_Ite (K := K) (a := a) (xs := nv c) (fun i σ H' => (∃ y z v, σ = [some (.ref a), some (.int ((Sn88.noted c : Nat) : Int)), y, z, some (.ref D), v]) ∧ Same H1 H' ∧ H' D = some (.lst (nv (codeTo c i)))) ⟨⟨y, z, v', rfl⟩, same_upd hD, upd_same⟩ (fun _ _ _ h => (sm1.trans h.2.1).seq hA) ?_ ?_⟩
      · rintro i x T σ H' hx ⟨⟨y, z, v', rfl⟩, sm, hd⟩ hT
        obtain ⟨u, hu, rfl⟩ := nv_inv hx
        have hi : i < c.length := (List.getElem?_eq_some_iff.mp hu).1
        have hu2 : u < 2 := hc u (List.mem_of_getElem? hu)
        have smT : Same H' (upd H' T (.tup [.int (i : Int), .int (u : Int)])) := same_upd hT
        refine ⟨T, [.int (i : Int), .int (u : Int)], rfl, .inl (.inl upd_same), rfl, .int (i : Int), [.int (u : Int)], rfl, .int (u : Int), [], rfl, rfl, ?_⟩
        refine ⟨.int (i : Int), rfl, _, _, rfl, rfl, .ref D, rfl, .inl ⟨rfl, _, sq_new (smT _ _ hd)⟩, .int ((i + 1 : Nat) : Int), rfl, .int ((Sn88.noted c : Nat) : Int), rfl, .int ((i + 1 : Nat) : Int), rfl, .int (u : Int), rfl, ((i + 1 : Nat) : Int), (u : Int), rfl, rfl, .inl ⟨by omega, by omega⟩, _, _, rfl, rfl, ?_⟩
        dsimp only
        rw [xor_step hu2]
        refine ⟨i, (if u = 1 then Sn88.noted c ^^^ (i + 1) else Sn88.noted c), rfl, D, _, _, rfl, rfl, smT _ _ hd, ?_, ⟨_, _, _, rfl⟩, same_at hD (sm.trans smT), ?_⟩
        · rw [nv_len, codeTo_len]
          exact ltLine (by omega)
        · rw [upd_same, nv_app, codeTo_succ, noted_others c i hi, hget hu]
      · rintro σ H2 ⟨⟨y, z, v', rfl⟩, sm, hd⟩
        rw [nv_len] at hd
        exact ⟨_, rfl, k H2 D (sm1.trans sm) (sm1.free hD) hd⟩

/-! ### code -/
def spMain (K : PySem.W.Frag) : Sp := fun vs H Q _ => ∃ (a : Addr) (c : List Nat) (r : Int), vs = [.int r, .ref a] ∧ SqL K H a (nv c) ∧ (1 ≤ r → r ≤ 8 → c.length = 2 ^ r.toNat - 1) ∧ ∀ H' p, H' p = some (.lst ((PySn88.code r (outs c)).map V.int)) → Q (.ref p) H'
theorem pow_255 : ∀ {r : Int}, 1 ≤ r → r ≤ 8 → 2 ^ r.toNat - 1 ≤ 255 := fun {r} h1 h8 => by
  have : 2 ^ r.toNat ≤ 2 ^ 8 := Nat.pow_le_pow_right (by decide) (by omega)
  omega
theorem ok_main {tP : Tok} (M : Fn K mg "code" s_main p_main) (TA : Fn K mg "all_below" s_all_below p_all_below) (TN : Fn K mg "guesses_by_numbers" s_guesses_by_numbers p_guesses_by_numbers) (TG : Fn K mg "guess_by_number" s_guess_by_number p_guess_by_number)
    (mP : mg "PASSED" = some (.int 2 tP)) (men : mg "enumerate" = none) : FnOk P w K mg base CX0 3 M.f M.fd p_main (spMain K) := by
  have GA : FnOk P w K mg base CX0 2 TA.f TA.fd p_all_below (spBelow K) := ok_all_below (k := 1) TA
  have GN : FnOk P w K mg base CX0 2 TN.f TN.fd p_guesses_by_numbers (spGuesses K) := ok_guesses_by_numbers (k := 0) TN TG mP men
  refine M.F.ok (k := 2) sc_main (fun vs H Q E h => ?_) (fun cdv A outer s H vs Q E hr h => ?_)
  · obtain ⟨a, c, r, rfl, _⟩ := h
    rfl
  · obtain ⟨a, t, r, rfl, hS, hlen, k⟩ := h
    refine ⟨_, pss_cons (ps_if (PW.pt (pw_or (pt_cmpR op_lt (pv 0) pe_int (nomark _)) (pw_or1 (pt_cmpR op_gt (pv 0) pe_int (nomark _))))) (pss_one (ps_ret (pe_lst (pa_cons (pe_un un_neg pe_int) pa_nil)))) pss_nil)
      (pss_cons (ps_if (pt_not (pt_val (pe_call GA hr (by rfl) TA.g TA.F.kp TA.b .nil pass0 (pa_cons pe_int (pa_cons (pv 1) pa_nil))))) (pss_one (ps_ret (pe_lst (pa_cons (pe_un un_neg pe_int) pa_nil)))) pss_nil)
      (pss_one (ps_ret (pe_op op_cat (pe_lst (pa_cons pe_int pa_nil)) (pe_call GN hr (by rfl) TN.g TN.F.kp TN.b .nil pass0 (pa_cons (pv 1) pa_nil)))))), ?_⟩
    have one : 1 ≤ sizeLine := by decide
    have bad2 : ¬ (1 ≤ r ∧ r ≤ 8) → ∀ p, H p = none → Q (.ref p) (upd H p (.lst [.int (-2)])) := fun hb p _ => k _ p (by
      rw [upd_same, code_2 hb]
      rfl)
    refine ⟨_, rfl, _, _, rfl, rfl, _, rfl, ifB (fun c => iteT ⟨_, rfl, one, bad2 fun hb => ?_⟩) (fun c1 => ?_)⟩
    · have := of_decide_eq_true c
      omega
    refine ⟨_, rfl, _, _, rfl, rfl, _, rfl, ifB (fun c => ⟨_, rfl, one, bad2 fun hb => ?_⟩) (fun c2 => ?_)⟩
    · have := of_decide_eq_true c
      omega
    have hok : 1 ≤ r ∧ r ≤ 8 := by
      have h1 := of_decide_eq_false c1
      have h2 := of_decide_eq_false c2
      omega
    have hl := hlen hok.1 hok.2
    have hl2 : t.length ≤ 255 := by
      rw [hl]
      exact pow_255 hok.1 hok.2
    refine ⟨.ref a, rfl, a, t, 2, rfl, hS, _, rfl, ifB (fun c => ⟨_, rfl, one, fun p hp => k _ p ?_⟩) (fun c5 => ?_)⟩
    · rw [upd_same, code_3 hok fun hb => ?_]
      · rfl
      · have e : (t.all fun x => decide ((x : Int) < 2)) = true := List.all_eq_true.mpr fun x hx => decide_eq_true (by
          have z := hb x hx
          omega)
        rw [e] at c
        cases c
    have h3 : ∀ x ∈ t, x < 2 := fun x hx => by
      have e9 : (t.all fun x => decide ((x : Int) < 2)) = true := by
        cases e : t.all fun x => decide ((x : Int) < 2) with
        | true => rfl
        | false =>
          rw [e] at c5
          cases c5
      have z := of_decide_eq_true (List.all_eq_true.mp e9 x hx)
      omega
    rw [code_0 hok hl h3] at k
    refine ⟨one, fun p hp => ?_⟩
    refine ⟨.ref a, rfl, a, t, rfl, (same_upd hp).seq hS, hl2, h3, fun H2 D sm2 hD hd => ?_⟩
    refine ⟨p, D, _, _, rfl, rfl, sm2 _ _ upd_same, hd, ?_, fun r hr' => k _ r ?_⟩
    · rw [nv_len, code_is, List.length_map, List.length_range]
      show 1 + _ ≤ sizeLine
      rw [sizeLine_eq]
      omega
    · rw [upd_same]
      rfl
theorem open_code {K : PySem.W.Frag} {H : Hp} {xs : List V} {n : Int} {t : List Int} (h : DwAll K H xs [PySem.W.WData.int n, PySem.W.WData.list (t.map PySem.W.WData.int)]) :
    ∃ a, xs = [.int n, .ref a] ∧ SqL K H a (t.map V.int) := by
  cases h with
  | cons h1 h =>
    cases h with
    | cons h2 h =>
      cases h
      cases h1
      cases h2 with
      | lst s4 a4 =>
        have e4 := ints_dw t _ a4
        subst e4
        exact ⟨_, rfl, s4⟩
end

/-! ### the end -/
theorem all_mk {P : Program} {w : World} {K : PySem.W.Frag} {h : Heap} {mg : Str → Option Value} {fa f1 f2 f3 f4 : Addr} (X : K.In h) (G : h.Ns mainGlobals mg) (hfa : mg "code" = some (.ref fa))
    {od1 an1 od2 an2 od3 an3 od4 an4 : Option Addr} {sl1 sl2 sl3 sl4 : Array (Option Value)} {oc1 kV1 dc1 pm1 cd1 ct1 oc2 kV2 dc2 pm2 cd2 ct2 oc3 kV3 dc3 pm3 cd3 ct3 oc4 kV4 dc4 pm4 cd4 ct4 : Value} {t_PASSED : Tok}
    (a1 : PySem.W.nsIn K mainGlobals "code" = some (some (.ref f1))) (l1 : K.lookup f1 = some ⟨oc1, od1, .func (PySem.W.fnOf "code" "code" (defArgs s_main) (defBody s_main) (defScope s_main) .none kV1 dc1 pm1 an1 cd1 ct1), sl1⟩) (c1 : PySem.W.codeIn K cd1 "code" = true) (k1 : PySem.W.keepIn K (.ref f1) = true)
    (a2 : PySem.W.nsIn K mainGlobals "all_below" = some (some (.ref f2))) (l2 : K.lookup f2 = some ⟨oc2, od2, .func (PySem.W.fnOf "all_below" "all_below" (defArgs s_all_below) (defBody s_all_below) (defScope s_all_below) .none kV2 dc2 pm2 an2 cd2 ct2), sl2⟩) (c2 : PySem.W.codeIn K cd2 "all_below" = true) (k2 : PySem.W.keepIn K (.ref f2) = true)
    (a3 : PySem.W.nsIn K mainGlobals "guesses_by_numbers" = some (some (.ref f3))) (l3 : K.lookup f3 = some ⟨oc3, od3, .func (PySem.W.fnOf "guesses_by_numbers" "guesses_by_numbers" (defArgs s_guesses_by_numbers) (defBody s_guesses_by_numbers) (defScope s_guesses_by_numbers) .none kV3 dc3 pm3 an3 cd3 ct3), sl3⟩) (c3 : PySem.W.codeIn K cd3 "guesses_by_numbers" = true) (k3 : PySem.W.keepIn K (.ref f3) = true)
    (a4 : PySem.W.nsIn K mainGlobals "guess_by_number" = some (some (.ref f4))) (l4 : K.lookup f4 = some ⟨oc4, od4, .func (PySem.W.fnOf "guess_by_number" "guess_by_number" (defArgs s_guess_by_number) (defBody s_guess_by_number) (defScope s_guess_by_number) .none kV4 dc4 pm4 an4 cd4 ct4), sl4⟩) (c4 : PySem.W.codeIn K cd4 "guess_by_number" = true) (k4 : PySem.W.keepIn K (.ref f4) = true)
    (y_PASSED : PySem.W.nsIn K mainGlobals "PASSED" = some (some (.int 2 t_PASSED)))
    (z_enumerate : PySem.W.nsIn K mainGlobals "enumerate" = some none) :
    ∃ fd : FuncData, (∀ (s : Shared) (us : List Value), us.length = (["r", "hats"] : List Str).length → BindsTo s fd ⟨us, []⟩ ((["r", "hats"] : List Str).zip us)) ∧ ∀ base : Heap, K.In base → base.Ns mainGlobals mg → FnOk P w K mg base CX0 3 fa fd ["r", "hats"] (spMain K) := by
  have e := hfa.symm.trans (PySem.W.mg_of X G a1)
  cases e
  have F1 := fun_mk (st := s_main) l1 c1 k1
  have b1 := F1.binds (ps := ["r", "hats"]) fun _ _ _ _ _ _ us hl => match us, hl with | [_, _], _ => rfl
  have g1 := PySem.W.mg_of X G a1
  have F2 := fun_mk (st := s_all_below) l2 c2 k2
  have b2 := F2.binds (ps := ["bound", "numbers"]) fun _ _ _ _ _ _ us hl => match us, hl with | [_, _], _ => rfl
  have g2 := PySem.W.mg_of X G a2
  have F3 := fun_mk (st := s_guesses_by_numbers) l3 c3 k3
  have b3 := F3.binds (ps := ["hats"]) fun _ _ _ _ _ _ us hl => match us, hl with | [_], _ => rfl
  have g3 := PySem.W.mg_of X G a3
  have F4 := fun_mk (st := s_guess_by_number) l4 c4 k4
  have b4 := F4.binds (ps := ["number", "others"]) fun _ _ _ _ _ _ us hl => match us, hl with | [_, _], _ => rfl
  have g4 := PySem.W.mg_of X G a4
  have m_PASSED := PySem.W.mg_of X G y_PASSED
  have m_enumerate := PySem.W.mg_none_of X G z_enumerate
  exact ⟨PySem.W.fnOf "code" "code" (defArgs s_main) (defBody s_main) (defScope s_main) .none kV1 dc1 pm1 an1 cd1 ct1, fun s us hu => match us, hu with | [_, _], _ => .of_eq rfl, fun base _ _ => ok_main ⟨_, _, F1, b1, g1⟩ ⟨_, _, F2, b2, g2⟩ ⟨_, _, F3, b3, g3⟩ ⟨_, _, F4, b4, g4⟩ m_PASSED m_enumerate⟩
end Hb
open PySem PySem.W PyProof.Rows
set_option maxRecDepth 100000 in
set_option maxHeartbeats 8000000 in
theorem PySem.Challenge.cw_hatboxes_s05_code_holds : PySem.Challenge.rw_hatboxes_s05_code.Holds := by
  w_on; k_headS; (case hw => exact ⟨[.int 0, .list []], by decide +kernel, by decide +kernel⟩)
  k_fillS
  refine L2.walk_specK (r := PySem.Challenge.rw_hatboxes_s05_code) (k := 3) (CX := L2.CX0) (ps := ["r", "hats"]) (sp := Hb.spMain) (by decide +kernel) rfl rfl ⟨rfl, by decide, by decide⟩ (fun w h Y => PySem.W.kIn_of Y) ?F ?S (fun _ _ _ _ z => z)
  case F =>
    intro w mg fa h Y KX G hmg
    refine' Hb.all_mk KX G hmg ?a1 ?l1 ?c1 ?k1 ?a2 ?l2 ?c2 ?k2 ?a3 ?l3 ?c3 ?k3 ?a4 ?l4 ?c4 ?k4 ?y_PASSED ?z_enumerate
    (case a1 => k_is)
    (case l1 => k_is)
    (case c1 => k_is)
    (case k1 => k_is)
    (case a2 => k_is)
    (case l2 => k_is)
    (case c2 => k_is)
    (case k2 => k_is)
    (case a3 => k_is)
    (case l3 => k_is)
    (case c3 => k_is)
    (case k3 => k_is)
    (case a4 => k_is)
    (case l4 => k_is)
    (case c4 => k_is)
    (case k4 => k_is)
    (case y_PASSED => k_is)
    (case z_enumerate => k_is)
  case S =>
    intro K H xs a hO hwi hask hx
    obtain ⟨r, t, u⟩ := a
    obtain ⟨x, e, s4⟩ := Hb.open_code (show L2.DwAll K H xs [.int r, .list (t.map .int)] from hx)
    obtain ⟨T, et, hl⟩ := Hb.asked_code (show PySn88.code_asked r t = true from hask)
    subst e et
    exact ⟨x, T, r, rfl, s4, hl, fun H' p hp => .lst (L2.SqL.of hp) (L2.dw_ints _)⟩
#print axioms PySem.Challenge.cw_hatboxes_s05_code_holds

